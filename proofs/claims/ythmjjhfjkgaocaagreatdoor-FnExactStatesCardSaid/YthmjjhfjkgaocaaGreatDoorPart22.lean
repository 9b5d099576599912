import Derived.Test.YthmjjhfjkgaocaaGreatDoorPart21
set_option linter.unusedSimpArgs false
set_option linter.unusedVariables false
set_option maxHeartbeats 8000000
set_option maxRecDepth 100000
namespace Go.Proofs.YthmjjhfjkgaocaaGreatDoor
open Go.RowKit
structure PassC (l:List ProtoD)(k:Nat):Prop where
 size:1≤k→¬sizeBadC l
 heads:2≤k→HeadsC l
 no3:3≤k→NoC l (len3 l) (bad3 l)
 no4:4≤k→NoC l (len4 l) (bad4 l)
 no5:5≤k→NoC l (len5 l) (bad5 l)
 no6:6≤k→NoC l (len6 l) (bad6 l)
 made:7≤k→∀ g,1≤g→g<l.length→mkUptoC l l.length g=true
theorem PassC.begin (l:List ProtoD):PassC l 0:=⟨by omega,by omega,by omega,by omega,by omega,by omega,by omega⟩
theorem PassC.parts {l:List ProtoD}{k:Nat}(h:PassC l k)(hk:5≤k):PartsSaid l 0 0 0:=.inr (.inr (.inr (.inr (.inr ⟨h.size (by omega),h.heads (by omega),h.no3 (by omega),h.no4 (by omega),h.no5 hk,rfl,rfl,rfl⟩))))
theorem PassC.all {l:List ProtoD}{k:Nat}(h:PassC l k)(hk:7≤k):ShapeSaid l 0 0 0:=.inr (.inr (.inr ⟨h.parts (by omega),h.no6 (by omega),rfl,rfl,rfl,h.made hk⟩))
def ChkC (l:List ProtoD)(k:Nat)(w:World)(e:Ending)(w':World):Prop:=
 ∃ x f n:Int,e=.returned (.agg #[.int .i64 x,.int .i64 f,.int .i64 n])∧((x≠0∧ShapeSaid l x f n)∨(x=0∧f=0∧n=0∧PassC l (k+1)))∧Below w.heap.size w w'
theorem chkC0 (a:Option Addr)(l:List ProtoD)(c:Nat)(S:Nat→Prop)(w:World)(hs:ProtosAt w S a l)(hB:∀ b,S b→b<w.heap.size)(hl:tProtos l≤1048576):Calls Tryz.prog 71 #[.agg #[.slice a l.length c]] w (ChkC l 0 w):=by
 refine(checkCounts_any a l c S w hs hB hl).mono ?_
 rintro e w' ⟨x,f,n,rfl,h,hb⟩
 refine⟨x,f,n,rfl,?_,hb⟩
 rcases h with⟨h,rfl,rfl,rfl⟩ | ⟨h,rfl,rfl,rfl⟩
 ·exact .inl ⟨by decide,.inl ⟨.inl ⟨h,rfl,rfl,rfl⟩,by decide⟩⟩
 ·exact .inr ⟨rfl,rfl,rfl,⟨fun _=>h,by omega,by omega,by omega,by omega,by omega,by omega⟩⟩
theorem chkC1 (a:Option Addr)(l:List ProtoD)(c:Nat)(S:Nat→Prop)(w:World)(hs:ProtosAt w S a l)(hB:∀ b,S b→b<w.heap.size)(hl:tProtos l≤1048576)(hP:PassC l 1):Calls Tryz.prog 72 #[.agg #[.slice a l.length c]] w (ChkC l 1 w):=by
 refine(checkProtos_any a l c S w hs hB hl).mono ?_
 rintro e w' ⟨x,f,n,rfl,h,hb⟩
 refine⟨x,f,n,rfl,?_,hb⟩
 rcases h with⟨rfl,rfl,F,rfl,h⟩ | ⟨h,rfl,rfl,rfl⟩
 ·exact .inl ⟨by decide,.inl ⟨.inr (.inl ⟨hP.size (by omega),rfl,rfl,F,rfl,h⟩),by decide⟩⟩
 ·exact .inr ⟨rfl,rfl,rfl,⟨fun _=>hP.size (by omega),fun _=>h,by omega,by omega,by omega,by omega,by omega⟩⟩
theorem chkC2 (a:Option Addr)(l:List ProtoD)(c:Nat)(S:Nat→Prop)(w:World)(hs:ProtosAt w S a l)(hB:∀ b,S b→b<w.heap.size)(hl:tProtos l≤1048576)(hP:PassC l 2):Calls Tryz.prog 73 #[.agg #[.slice a l.length c]] w (ChkC l 2 w):=by
 refine(checkConsts_any a l c S w hs hB hl).mono ?_
 rintro e w' ⟨x,f,n,rfl,h,hb⟩
 refine⟨x,f,n,rfl,?_,hb⟩
 rcases h with⟨rfl,F,P,rfl,rfl,h⟩ | ⟨h,rfl,rfl,rfl⟩
 ·exact .inl ⟨by decide,.inl ⟨.inr (.inr (.inl ⟨hP.size (by omega),hP.heads (by omega),rfl,F,P,rfl,rfl,h⟩)),by decide⟩⟩
 ·exact .inr ⟨rfl,rfl,rfl,⟨fun _=>hP.size (by omega),fun _=>hP.heads (by omega),fun _=>h,by omega,by omega,by omega,by omega⟩⟩
theorem chkC3 (a:Option Addr)(l:List ProtoD)(c:Nat)(S:Nat→Prop)(w:World)(hs:ProtosAt w S a l)(hB:∀ b,S b→b<w.heap.size)(hl:tProtos l≤1048576)(hP:PassC l 3):Calls Tryz.prog 74 #[.agg #[.slice a l.length c]] w (ChkC l 3 w):=by
 refine(checkNamed_any a l c S w hs hB hl (hP.heads (by omega))).mono ?_
 rintro e w' ⟨x,f,n,rfl,h,hb⟩
 refine⟨x,f,n,rfl,?_,hb⟩
 rcases h with⟨rfl,F,P,rfl,rfl,h⟩ | ⟨h,rfl,rfl,rfl⟩
 ·exact .inl ⟨by decide,.inl ⟨.inr (.inr (.inr (.inl ⟨hP.size (by omega),hP.heads (by omega),hP.no3 (by omega),rfl,F,P,rfl,rfl,h⟩))),by decide⟩⟩
 ·exact .inr ⟨rfl,rfl,rfl,⟨fun _=>hP.size (by omega),fun _=>hP.heads (by omega),fun _=>hP.no3 (by omega),fun _=>h,by omega,by omega,by omega⟩⟩
theorem chkC4 (a:Option Addr)(l:List ProtoD)(c:Nat)(S:Nat→Prop)(w:World)(hs:ProtosAt w S a l)(hB:∀ b,S b→b<w.heap.size)(hl:tProtos l≤1048576)(hG:RTab w)(hP:PassC l 4):Calls Tryz.prog 75 #[.agg #[.slice a l.length c]] w (ChkC l 4 w):=by
 refine(checkIns_any a l c S w hs hB hl (hP.heads (by omega)) hG).mono ?_
 rintro e w' ⟨x,f,n,rfl,h,hb⟩
 refine⟨x,f,n,rfl,?_,hb⟩
 rcases h with⟨rfl,F,P,rfl,rfl,h⟩ | ⟨h,rfl,rfl,rfl⟩
 ·exact .inl ⟨by decide,.inl ⟨.inr (.inr (.inr (.inr (.inl ⟨hP.size (by omega),hP.heads (by omega),hP.no3 (by omega),hP.no4 (by omega),rfl,F,P,rfl,rfl,h⟩)))),by decide⟩⟩
 ·exact .inr ⟨rfl,rfl,rfl,⟨fun _=>hP.size (by omega),fun _=>hP.heads (by omega),fun _=>hP.no3 (by omega),fun _=>hP.no4 (by omega),fun _=>h,by omega,by omega⟩⟩
theorem chkC5 (a:Option Addr)(l:List ProtoD)(c:Nat)(S:Nat→Prop)(w:World)(hs:ProtosAt w S a l)(hB:∀ b,S b→b<w.heap.size)(hl:tProtos l≤1048576)(hP:PassC l 5):Calls Tryz.prog 76 #[.agg #[.slice a l.length c]] w (ChkC l 5 w):=by
 refine(checkFns_any a l c S w hs hB hl (hP.heads (by omega)) (hP.no5 (by omega))).mono ?_
 rintro e w' ⟨x,f,n,rfl,h,hb⟩
 refine⟨x,f,n,rfl,?_,hb⟩
 rcases h with⟨rfl,F,P,rfl,rfl,h⟩ | ⟨h,rfl,rfl,rfl⟩
 ·exact .inl ⟨by decide,.inr (.inl ⟨hP.parts (by omega),rfl,F,P,rfl,rfl,h⟩)⟩
 ·exact .inr ⟨rfl,rfl,rfl,⟨fun _=>hP.size (by omega),fun _=>hP.heads (by omega),fun _=>hP.no3 (by omega),fun _=>hP.no4 (by omega),fun _=>hP.no5 (by omega),fun _=>h,by omega⟩⟩
theorem chkC6 (a:Option Addr)(l:List ProtoD)(c:Nat)(S:Nat→Prop)(w:World)(hs:ProtosAt w S a l)(hB:∀ b,S b→b<w.heap.size)(hl:tProtos l≤1048576)(hP:PassC l 6):Calls Tryz.prog 77 #[.agg #[.slice a l.length c]] w (ChkC l 6 w):=by
 refine(checkFnsMade_any a l c S w hs hB hl (hP.no5 (by omega))).mono ?_
 rintro e w' ⟨x,f,n,rfl,h,hb⟩
 refine⟨x,f,n,rfl,?_,hb⟩
 rcases h with⟨rfl,rfl,F,rfl,h⟩ | ⟨rfl,rfl,rfl,h⟩
 ·exact .inl ⟨by decide,.inr (.inr (.inl ⟨hP.parts (by omega),hP.no6 (by omega),rfl,rfl,F,rfl,h⟩))⟩
 ·exact .inr ⟨rfl,rfl,rfl,⟨fun _=>hP.size (by omega),fun _=>hP.heads (by omega),fun _=>hP.no3 (by omega),fun _=>hP.no4 (by omega),fun _=>hP.no5 (by omega),fun _=>hP.no6 (by omega),fun _=>h⟩⟩
def chkCV:Nat→Value
 | 0=>.func (.func 71) #[] #[]
 | 1=>.func (.func 72) #[] #[]
 | 2=>.func (.func 73) #[] #[]
 | 3=>.func (.func 74) #[] #[]
 | 4=>.func (.func 75) #[] #[]
 | 5=>.func (.func 76) #[] #[]
 | _=>.func (.func 77) #[] #[]
theorem checkShape_any:ImplShape RTab:=by
 intro a l c S w hG hs hB hl
 have X0:Hid (Box2 w a l.length c (box2 w a l.length c)):=Box2.start w a l.length c
 have BS:Hid (∀ W,Below w.heap.size w W→∀ b,S b→b<W.heap.size):=fun W hW b h=>Nat.lt_of_lt_of_le (hB b h) hW.size
 have CH0:Hid (∀ W,Below w.heap.size w W→Calls Tryz.prog 71 #[.agg #[.slice a l.length c]] W (ChkC l 0 W)):=fun W hW=>chkC0 a l c S W (hs.keep hW hB) (unhide BS W hW) hl
 have CH1:Hid (∀ W,Below w.heap.size w W→PassC l 1→Calls Tryz.prog 72 #[.agg #[.slice a l.length c]] W (ChkC l 1 W)):=fun W hW hP=>chkC1 a l c S W (hs.keep hW hB) (unhide BS W hW) hl hP
 have CH2:Hid (∀ W,Below w.heap.size w W→PassC l 2→Calls Tryz.prog 73 #[.agg #[.slice a l.length c]] W (ChkC l 2 W)):=fun W hW hP=>chkC2 a l c S W (hs.keep hW hB) (unhide BS W hW) hl hP
 have CH3:Hid (∀ W,Below w.heap.size w W→PassC l 3→Calls Tryz.prog 74 #[.agg #[.slice a l.length c]] W (ChkC l 3 W)):=fun W hW hP=>chkC3 a l c S W (hs.keep hW hB) (unhide BS W hW) hl hP
 have CH4:Hid (∀ W,Below w.heap.size w W→PassC l 4→Calls Tryz.prog 75 #[.agg #[.slice a l.length c]] W (ChkC l 4 W)):=fun W hW hP=>chkC4 a l c S W (hs.keep hW hB) (unhide BS W hW) hl (hG.keep hW hG.pos) hP
 have CH5:Hid (∀ W,Below w.heap.size w W→PassC l 5→Calls Tryz.prog 76 #[.agg #[.slice a l.length c]] W (ChkC l 5 W)):=fun W hW hP=>chkC5 a l c S W (hs.keep hW hB) (unhide BS W hW) hl hP
 have CH6:Hid (∀ W,Below w.heap.size w W→PassC l 6→Calls Tryz.prog 77 #[.agg #[.slice a l.length c]] W (ChkC l 6 W)):=fun W hW hP=>chkC6 a l c S W (hs.keep hW hB) (unhide BS W hW) hl hP
 have R0:Hid (((box2 w a l.length c).alloc (.cells #[.func (.func 71) #[] #[],.func (.func 72) #[] #[],.func (.func 73) #[] #[],.func (.func 74) #[] #[],.func (.func 75) #[] #[],.func (.func 76) #[] #[],.func (.func 77) #[] #[]] 40)).rowIs (w.heap.size+2) 40 7 chkCV):=by
  have h:=World.rowIs_alloc (box2 w a l.length c) #[.func (.func 71) #[] #[],.func (.func 72) #[] #[],.func (.func 73) #[] #[],.func (.func 74) #[] #[],.func (.func 75) #[] #[],.func (.func 76) #[] #[],.func (.func 77) #[] #[]] 40 chkCV (fun i hi=>by
   match i,hi with
   | 0,_=>rfl | 1,_=>rfl | 2,_=>rfl | 3,_=>rfl | 4,_=>rfl | 5,_=>rfl | 6,_=>rfl | n+7,h=>exact absurd h (by simp))
  rw[box2_size]at h
  exact h
 clear hs hB hG hl BS
 go_enter Tryz.func41,Tryz.ntmps41
 go_wp2_with fail
 go_loopg [10] 7 (fun g i wr=>∃(k:Nat),k+g=7∧i=.int .i64 k∧Box2 w a l.length c wr∧wr.rowIs (w.heap.size+2) 40 7 chkCV∧Hid (PassC l k))
 case atStart=>exact⟨0,by omega,rfl,(unhide X0).alloc _,unhide R0,PassC.begin l⟩
 case round=>
  clear X0 R0
  obtain⟨k,hk,rfl,hx,hR,hP⟩:=hrel
  have u0:=hx.unit
  have hsz:=hx.size
  have hrl:=hR.lt
  by_cases hlt:k<7
  ·obtain⟨F,ck,hcl,CC⟩:∃ F,wr.cell? ⟨w.heap.size+2,k,none⟩=some (.func (.func F) #[] #[])∧(∀ W:World,(callFunc F #[.agg #[.slice a l.length c]]).run Tryz.prog W=.ok (.enter F #[.agg #[.slice a l.length c]]) W)∧Hid (Calls Tryz.prog F #[.agg #[.slice a l.length c]] wr (ChkC l k wr)):=by
    have hcase:k=0∨k=1∨k=2∨k=3∨k=4∨k=5∨k=6:=by omega
    rcases hcase with rfl | rfl | rfl | rfl | rfl | rfl | rfl
    ·exact⟨_,hR.cell (i:=0) (by omega),fun W=>by simp[callFunc,Tryz.func71,Tryz.f71,go_sem],unhide CH0 wr hx.old⟩
    ·exact⟨_,hR.cell (i:=1) (by omega),fun W=>by simp[callFunc,Tryz.func72,Tryz.f72,go_sem],unhide CH1 wr hx.old hP.out⟩
    ·exact⟨_,hR.cell (i:=2) (by omega),fun W=>by simp[callFunc,Tryz.func73,Tryz.f73,go_sem],unhide CH2 wr hx.old hP.out⟩
    ·exact⟨_,hR.cell (i:=3) (by omega),fun W=>by simp[callFunc,Tryz.func74,Tryz.f74,go_sem],unhide CH3 wr hx.old hP.out⟩
    ·exact⟨_,hR.cell (i:=4) (by omega),fun W=>by simp[callFunc,Tryz.func75,Tryz.f75,go_sem],unhide CH4 wr hx.old hP.out⟩
    ·exact⟨_,hR.cell (i:=5) (by omega),fun W=>by simp[callFunc,Tryz.func76,Tryz.f76,go_sem],unhide CH5 wr hx.old hP.out⟩
    ·exact⟨_,hR.cell (i:=6) (by omega),fun W=>by simp[callFunc,Tryz.func77,Tryz.f77,go_sem],unhide CH6 wr hx.old hP.out⟩
   have HR:=hide hR
   have HX:=hide hx
   clear hR hx CH0 CH1 CH2 CH3 CH4 CH5 CH6
   go_wp2_with fail
   refine(unhide CC).mono ?_
   rintro e w2 ⟨x,f,n,rfl,hc,hb2⟩
   have hx2:=(unhide HX).below' hb2
   have HR2:Hid (w2.rowIs (w.heap.size+2) 40 7 chkCV):=(unhide HR).of_block (hb2.block _ (unhide HR).lt)
   by_cases h0:x=0
   ·have HP:f=0∧n=0∧PassC l (k+1):=by
     rcases hc with hc | hc
     ·exact absurd h0 hc.1
     ·exact hc.2
    obtain⟨rfl,rfl,hp2⟩:=HP
    have HP:=hide hp2
    have HX2:=hide hx2
    subst h0
    clear hc hx2 hb2 HX HR CC hp2
    go_wp2_with fail
    go_roundg (7-(k+1))
    case measure=>omega
    case rel=>exact⟨k+1,by omega,by go_num,(unhide HX2).alloc _,(unhide HR2).alloc _,HP⟩
   ·have HU:Hid (ShapeSaid l x f n):=by
     rcases hc with hc | hc
     ·exact hc.2
     ·exact absurd hc.1 h0
    have h0':(x != 0)=true:=by simpa using h0
    have h0'':(x==0)=false:=beq_eq_false_iff_ne.2 h0
    have hx3:=hx2.alloc (.cells #[.int .i64 x,.int .i64 f,.int .i64 n] 39)
    have r0:=hx3.res 0 (by omega);have r1:=hx3.res 1 (by omega);have r2:=hx3.res 2 (by omega)
    have z0:=hx3.frozen 0;have z1:=hx3.frozen 1;have z2:=hx3.frozen 2
    have hs2:=hx2.size
    have hw1:w.heap.size+1<w2.heap.size:=by omega
    have hw2:w.heap.size+1<w2.heap.size+1:=by omega
    have BB:Hid (∀ v0 v1 v2,Below w.heap.size w ((((w2.alloc (.cells #[.int .i64 x,.int .i64 f,.int .i64 n] 39)).setCell ⟨w.heap.size+1,0,none⟩ v0).setCell ⟨w.heap.size+1,1,none⟩ v1).setCell ⟨w.heap.size+1,2,none⟩ v2)):=fun v0 v1 v2=>box2_set3 hx3 v0 v1 v2
    have BB2:Hid (∀ o v0 v1 v2,Below w.heap.size w ((((w2.setCell ⟨w.heap.size+1,0,none⟩ v0).setCell ⟨w.heap.size+1,1,none⟩ v1).setCell ⟨w.heap.size+1,2,none⟩ v2).alloc o)):=fun o v0 v1 v2=>(box2_set3 hx2 v0 v1 v2).alloc (by simp;omega) o
    have s0:=hx2.res 0 (by omega);have s1:=hx2.res 1 (by omega);have s2:=hx2.res 2 (by omega)
    have y0:=hx2.frozen 0;have y1:=hx2.frozen 1;have y2:=hx2.frozen 2
    clear hc hx3 hx2 hb2 HX HR CC HR2
    go_wp2_with fail
    refine bodyPost_ret (v:=.agg #[.int .i64 x,.int .i64 f,.int .i64 n]) (by simp[results,Tryz.results41,go_sem,r0,r1,r2,s0,s1,s2,hw1,hw2]) rfl ⟨x,f,n,rfl,HU.out,?_⟩
    first | exact BB.out _ _ _ | exact BB2.out _ _ _ _
  ·obtain rfl:k=7:=by omega
   have HU:Hid (ShapeSaid l 0 0 0):=hP.out.all (by omega)
   have r0:=hx.res 0 (by omega);have r1:=hx.res 1 (by omega);have r2:=hx.res 2 (by omega)
   have z0:=hx.frozen 0;have z1:=hx.frozen 1;have z2:=hx.frozen 2
   have BB:Hid (∀ v0 v1 v2,Below w.heap.size w (((wr.setCell ⟨w.heap.size+1,0,none⟩ v0).setCell ⟨w.heap.size+1,1,none⟩ v1).setCell ⟨w.heap.size+1,2,none⟩ v2)):=fun v0 v1 v2=>box2_set3 hx v0 v1 v2
   clear hR hP
   go_wp2_with fail
   refine bodyPost_ret (v:=.agg #[.int .i64 0,.int .i64 0,.int .i64 0]) (by simp[results,Tryz.results41,go_sem,r0,r1,r2]) rfl ⟨0,0,0,rfl,HU.out,BB.out _ _ _⟩
end Go.Proofs.YthmjjhfjkgaocaaGreatDoor
