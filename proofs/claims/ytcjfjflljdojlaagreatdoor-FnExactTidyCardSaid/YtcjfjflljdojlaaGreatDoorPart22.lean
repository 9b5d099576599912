import Derived.Test.YtcjfjflljdojlaaGreatDoorPart21
set_option linter.unusedSimpArgs false
set_option linter.unusedVariables false
set_option maxHeartbeats 8000000
set_option maxRecDepth 100000
namespace Go.Proofs.YtcjfjflljdojlaaGreatDoor
open Go.RowKit
structure gM (l:List ak)(k:Nat):Prop where
 size:1<=k->¬eE l
 heads:2<=k->km l
 no3:3<=k->rk l (oK l) (ku l)
 no4:4<=k->rk l (oU l) (jY l)
 no5:5<=k->rk l (j9 l) (hZ l)
 no6:6<=k->rk l (mO l) (iB l)
 made:7<=k->∀ g,1<=g->g<l.length->bm l l.length g=true
theorem gM.begin (l:List ak):gM l 0:=⟨by omega,by omega,by omega,by omega,by omega,by omega,by omega⟩
theorem gM.parts {l:List ak}{k:Nat}(h:gM l k)(hk:5<=k):eO l 0 0 0:=.inr (.inr (.inr (.inr (.inr ⟨h.size (by omega),h.heads (by omega),h.no3 (by omega),h.no4 (by omega),h.no5 hk,rfl,rfl,rfl⟩))))
theorem gM.all {l:List ak}{k:Nat}(h:gM l k)(hk:7<=k):da l 0 0 0:=.inr (.inr (.inr ⟨h.parts (by omega),h.no6 (by omega),rfl,rfl,rfl,h.made hk⟩))
def oL (l:List ak)(k:Nat)(w:World)(e:Ending)(w':World):Prop:=
 ∃ x f n:Int,e=.returned (.agg #[i_ x,i_ f,i_ n])/\((x≠0/\da l x f n)\/(x=0/\f=0/\n=0/\gM l (k+1)))/\b_ w w'
theorem Ur (a:o_)(l:List ak)(c:Nat)(S:Nat->Prop)(w:World)(hs:ao w S a l)(hB:∀ b,S b->b<w.heap.size)(hl:aI l<=1048576):c_ 70 #[.agg #[.slice a l.length c]] w (oL l 0 w):=by
 refine(sH a l c S w hs hB hl).mono ?_;rintro e w' ⟨x,f,n,rfl,h,hb⟩;refine⟨x,f,n,rfl,?_,hb⟩;rcases h with⟨h,rfl,rfl,rfl⟩ | ⟨h,rfl,rfl,rfl⟩
 ·exact .inl ⟨by decide,.inl ⟨.inl ⟨h,rfl,rfl,rfl⟩,by decide⟩⟩
 ·exact .inr ⟨rfl,rfl,rfl,⟨fun _=>h,by omega,by omega,by omega,by omega,by omega,by omega⟩⟩
theorem UH (a:o_)(l:List ak)(c:Nat)(S:Nat->Prop)(w:World)(hs:ao w S a l)(hB:∀ b,S b->b<w.heap.size)(hl:aI l<=1048576)(hP:gM l 1):c_ 71 #[.agg #[.slice a l.length c]] w (oL l 1 w):=by
 refine(sC a l c S w hs hB hl).mono ?_;rintro e w' ⟨x,f,n,rfl,h,hb⟩;refine⟨x,f,n,rfl,?_,hb⟩;rcases h with⟨rfl,rfl,F,rfl,h⟩ | ⟨h,rfl,rfl,rfl⟩
 ·exact .inl ⟨by decide,.inl ⟨.inr (.inl ⟨hP.size (by omega),rfl,rfl,F,rfl,h⟩),by decide⟩⟩
 ·exact .inr ⟨rfl,rfl,rfl,⟨fun _=>hP.size (by omega),fun _=>h,by omega,by omega,by omega,by omega,by omega⟩⟩
theorem UC (a:o_)(l:List ak)(c:Nat)(S:Nat->Prop)(w:World)(hs:ao w S a l)(hB:∀ b,S b->b<w.heap.size)(hl:aI l<=1048576)(hP:gM l 2):c_ 72 #[.agg #[.slice a l.length c]] w (oL l 2 w):=by
 refine(sE a l c S w hs hB hl).mono ?_;rintro e w' ⟨x,f,n,rfl,h,hb⟩;refine⟨x,f,n,rfl,?_,hb⟩;rcases h with⟨rfl,F,P,rfl,rfl,h⟩ | ⟨h,rfl,rfl,rfl⟩
 ·exact .inl ⟨by decide,.inl ⟨.inr (.inr (.inl ⟨hP.size (by omega),hP.heads (by omega),rfl,F,P,rfl,rfl,h⟩)),by decide⟩⟩
 ·exact .inr ⟨rfl,rfl,rfl,⟨fun _=>hP.size (by omega),fun _=>hP.heads (by omega),fun _=>h,by omega,by omega,by omega,by omega⟩⟩
theorem Ut (a:o_)(l:List ak)(c:Nat)(S:Nat->Prop)(w:World)(hs:ao w S a l)(hB:∀ b,S b->b<w.heap.size)(hl:aI l<=1048576)(hP:gM l 3):c_ 73 #[.agg #[.slice a l.length c]] w (oL l 3 w):=by
 refine(tC a l c S w hs hB hl (hP.heads (by omega))).mono ?_;rintro e w' ⟨x,f,n,rfl,h,hb⟩;refine⟨x,f,n,rfl,?_,hb⟩;rcases h with⟨rfl,F,P,rfl,rfl,h⟩ | ⟨h,rfl,rfl,rfl⟩
 ·exact .inl ⟨by decide,.inl ⟨.inr (.inr (.inr (.inl ⟨hP.size (by omega),hP.heads (by omega),hP.no3 (by omega),rfl,F,P,rfl,rfl,h⟩))),by decide⟩⟩
 ·exact .inr ⟨rfl,rfl,rfl,⟨fun _=>hP.size (by omega),fun _=>hP.heads (by omega),fun _=>hP.no3 (by omega),fun _=>h,by omega,by omega,by omega⟩⟩
theorem Uw (a:o_)(l:List ak)(c:Nat)(S:Nat->Prop)(w:World)(hs:ao w S a l)(hB:∀ b,S b->b<w.heap.size)(hl:aI l<=1048576)(hG:gh w)(hP:gM l 4):c_ 74 #[.agg #[.slice a l.length c]] w (oL l 4 w):=by
 refine(xL a l c S w hs hB hl (hP.heads (by omega)) hG).mono ?_;rintro e w' ⟨x,f,n,rfl,h,hb⟩;refine⟨x,f,n,rfl,?_,hb⟩;rcases h with⟨rfl,F,P,rfl,rfl,h⟩ | ⟨h,rfl,rfl,rfl⟩
 ·exact .inl ⟨by decide,.inl ⟨.inr (.inr (.inr (.inr (.inl ⟨hP.size (by omega),hP.heads (by omega),hP.no3 (by omega),hP.no4 (by omega),rfl,F,P,rfl,rfl,h⟩)))),by decide⟩⟩
 ·exact .inr ⟨rfl,rfl,rfl,⟨fun _=>hP.size (by omega),fun _=>hP.heads (by omega),fun _=>hP.no3 (by omega),fun _=>hP.no4 (by omega),fun _=>h,by omega,by omega⟩⟩
theorem Uy (a:o_)(l:List ak)(c:Nat)(S:Nat->Prop)(w:World)(hs:ao w S a l)(hB:∀ b,S b->b<w.heap.size)(hl:aI l<=1048576)(hP:gM l 5):c_ 75 #[.agg #[.slice a l.length c]] w (oL l 5 w):=by
 refine(xJ a l c S w hs hB hl (hP.heads (by omega)) (hP.no5 (by omega))).mono ?_;rintro e w' ⟨x,f,n,rfl,h,hb⟩;refine⟨x,f,n,rfl,?_,hb⟩;rcases h with⟨rfl,F,P,rfl,rfl,h⟩ | ⟨h,rfl,rfl,rfl⟩
 ·exact .inl ⟨by decide,.inr (.inl ⟨hP.parts (by omega),rfl,F,P,rfl,rfl,h⟩)⟩
 ·exact .inr ⟨rfl,rfl,rfl,⟨fun _=>hP.size (by omega),fun _=>hP.heads (by omega),fun _=>hP.no3 (by omega),fun _=>hP.no4 (by omega),fun _=>hP.no5 (by omega),fun _=>h,by omega⟩⟩
theorem UE (a:o_)(l:List ak)(c:Nat)(S:Nat->Prop)(w:World)(hs:ao w S a l)(hB:∀ b,S b->b<w.heap.size)(hl:aI l<=1048576)(hP:gM l 6):c_ 76 #[.agg #[.slice a l.length c]] w (oL l 6 w):=by
 refine(rd a l c S w hs hB hl (hP.no5 (by omega))).mono ?_;rintro e w' ⟨x,f,n,rfl,h,hb⟩;refine⟨x,f,n,rfl,?_,hb⟩;rcases h with⟨rfl,rfl,F,rfl,h⟩ | ⟨rfl,rfl,rfl,h⟩
 ·exact .inl ⟨by decide,.inr (.inr (.inl ⟨hP.parts (by omega),hP.no6 (by omega),rfl,rfl,F,rfl,h⟩))⟩
 ·exact .inr ⟨rfl,rfl,rfl,⟨fun _=>hP.size (by omega),fun _=>hP.heads (by omega),fun _=>hP.no3 (by omega),fun _=>hP.no4 (by omega),fun _=>hP.no5 (by omega),fun _=>hP.no6 (by omega),fun _=>h⟩⟩
def EJ:Nat->Value
 | 0=>.func (.func 70) #[] #[]
 | 1=>.func (.func 71) #[] #[]
 | 2=>.func (.func 72) #[] #[]
 | 3=>.func (.func 73) #[] #[]
 | 4=>.func (.func 74) #[] #[]
 | 5=>.func (.func 75) #[] #[]
 | _=>.func (.func 76) #[] #[]
theorem tV:FS gh:=by
 intro a l c S w hG hs hB hl;have X0:Hid (dP w a l.length c (kd w a l.length c)):=dP.start w a l.length c;have BS:Hid (∀ W,b_ w W->∀ b,S b->b<W.heap.size):=fun W hW b h=>l_ (hB b h) hW.size;have CH0:Hid (∀ W,b_ w W->c_ 70 #[.agg #[.slice a l.length c]] W (oL l 0 W)):=fun W hW=>Ur a l c S W (hs.keep hW hB) (aa BS W hW) hl;have CH1:Hid (∀ W,b_ w W->gM l 1->c_ 71 #[.agg #[.slice a l.length c]] W (oL l 1 W)):=fun W hW hP=>UH a l c S W (hs.keep hW hB) (aa BS W hW) hl hP;have CH2:Hid (∀ W,b_ w W->gM l 2->c_ 72 #[.agg #[.slice a l.length c]] W (oL l 2 W)):=fun W hW hP=>UC a l c S W (hs.keep hW hB) (aa BS W hW) hl hP;have CH3:Hid (∀ W,b_ w W->gM l 3->c_ 73 #[.agg #[.slice a l.length c]] W (oL l 3 W)):=fun W hW hP=>Ut a l c S W (hs.keep hW hB) (aa BS W hW) hl hP;have CH4:Hid (∀ W,b_ w W->gM l 4->c_ 74 #[.agg #[.slice a l.length c]] W (oL l 4 W)):=fun W hW hP=>Uw a l c S W (hs.keep hW hB) (aa BS W hW) hl (hG.keep hW hG.pos) hP;have CH5:Hid (∀ W,b_ w W->gM l 5->c_ 75 #[.agg #[.slice a l.length c]] W (oL l 5 W)):=fun W hW hP=>Uy a l c S W (hs.keep hW hB) (aa BS W hW) hl hP;have CH6:Hid (∀ W,b_ w W->gM l 6->c_ 76 #[.agg #[.slice a l.length c]] W (oL l 6 W)):=fun W hW hP=>UE a l c S W (hs.keep hW hB) (aa BS W hW) hl hP;have R0:Hid (((kd w a l.length c).alloc (.cells #[.func (.func 70) #[] #[],.func (.func 71) #[] #[],.func (.func 72) #[] #[],.func (.func 73) #[] #[],.func (.func 74) #[] #[],.func (.func 75) #[] #[],.func (.func 76) #[] #[]] 37)).rowIs (w.heap.size+2) 37 7 EJ):=by
  have h:=World.rowIs_alloc (kd w a l.length c) #[.func (.func 70) #[] #[],.func (.func 71) #[] #[],.func (.func 72) #[] #[],.func (.func 73) #[] #[],.func (.func 74) #[] #[],.func (.func 75) #[] #[],.func (.func 76) #[] #[]] 37 EJ (fun i hi=>by
   match i,hi with
   | 0,_=>rfl | 1,_=>rfl | 2,_=>rfl | 3,_=>rfl | 4,_=>rfl | 5,_=>rfl | 6,_=>rfl | n+7,h=>exact absurd h (by simp))
  rw[nS]at h;exact h
 clear hs hB hG hl BS;go_enter Tryz.func26,Tryz.ntmps26;go_wp2_with fail
 go_loopg [10] 7 (fun g i wr=>∃(k:Nat),k+g=7/\i=i_ k/\dP w a l.length c wr/\wr.rowIs (w.heap.size+2) 37 7 EJ/\Hid (gM l k))
 case atStart=>exact⟨0,by omega,rfl,(aa X0).alloc _,aa R0,gM.begin l⟩
 case round=>
  clear X0 R0;obtain⟨k,hk,rfl,hx,hR,hP⟩:=hrel;have u0:=hx.unit;have kq:=hx.size;have wi:=hR.lt;by_cases ax:k<7
  ·obtain⟨F,ck,qJ,CC⟩:∃ F,wr.cell? (a_ (w.heap.size+2) k)=some (.func (.func F) #[] #[])/\(∀ W:World,(callFunc F #[.agg #[.slice a l.length c]]).run Tryz.prog W=.ok (.enter F #[.agg #[.slice a l.length c]]) W)/\Hid (c_ F #[.agg #[.slice a l.length c]] wr (oL l k wr)):=by
    have Xk:k=0\/k=1\/k=2\/k=3\/k=4\/k=5\/k=6:=by omega
    rcases Xk with rfl | rfl | rfl | rfl | rfl | rfl | rfl
    ·exact⟨_,hR.cell (i:=0) (by omega),fun W=>by simp[callFunc,Tryz.func70,Tryz.f70,go_sem],aa CH0 wr hx.old⟩
    ·exact⟨_,hR.cell (i:=1) (by omega),fun W=>by simp[callFunc,Tryz.func71,Tryz.f71,go_sem],aa CH1 wr hx.old hP.out⟩
    ·exact⟨_,hR.cell (i:=2) (by omega),fun W=>by simp[callFunc,Tryz.func72,Tryz.f72,go_sem],aa CH2 wr hx.old hP.out⟩
    ·exact⟨_,hR.cell (i:=3) (by omega),fun W=>by simp[callFunc,Tryz.func73,Tryz.f73,go_sem],aa CH3 wr hx.old hP.out⟩
    ·exact⟨_,hR.cell (i:=4) (by omega),fun W=>by simp[callFunc,Tryz.func74,Tryz.f74,go_sem],aa CH4 wr hx.old hP.out⟩
    ·exact⟨_,hR.cell (i:=5) (by omega),fun W=>by simp[callFunc,Tryz.func75,Tryz.f75,go_sem],aa CH5 wr hx.old hP.out⟩
    ·exact⟨_,hR.cell (i:=6) (by omega),fun W=>by simp[callFunc,Tryz.func76,Tryz.f76,go_sem],aa CH6 wr hx.old hP.out⟩
   have HR:=af hR;have HX:=af hx;clear hR hx CH0 CH1 CH2 CH3 CH4 CH5 CH6;go_wp2_with fail
   refine(aa CC).mono ?_;rintro e w2 ⟨x,f,n,rfl,hc,bo⟩;have aO:=(aa HX).below' bo;have Uf:Hid (w2.rowIs (w.heap.size+2) 37 7 EJ):=(aa HR).of_block (bo.block _ (aa HR).lt);by_cases h0:x=0
   ·have HP:f=0/\n=0/\gM l (k+1):=by
     rcases hc with hc | hc
     ·exact absurd h0 hc.1
     ·exact hc.2
    obtain⟨rfl,rfl,hp2⟩:=HP;have HP:=af hp2;have BI:=af aO
    aj h0
    clear hc aO bo HX HR CC hp2;go_wp2_with fail
    go_roundg (7-(k+1))
    case measure=>omega
    case rel=>exact⟨k+1,by omega,by go_num,(aa BI).alloc _,(aa Uf).alloc _,HP⟩
   ·have HU:Hid (da l x f n):=by
     rcases hc with hc | hc
     ·exact hc.2
     ·exact absurd hc.1 h0
    have h0':(x != 0)=true:=by simpa using h0
    have h0'':(x==0)=false:=beq_eq_false_iff_ne.2 h0;have xf:=aO.alloc (.cells #[i_ x,i_ f,i_ n] 36);have r0:=xf.res 0 (by omega);have r1:=xf.res 1 (by omega);have r2:=xf.res 2 (by omega);have z0:=xf.frozen 0;have z1:=xf.frozen 1;have z2:=xf.frozen 2;have sr:=aO.size;have yU:w.heap.size+1<w2.heap.size:=by omega
    have BK:w.heap.size+1<w2.heap.size+1:=by omega
    have BB:Hid (∀ v0 v1 v2,b_ w ((((w2.alloc (.cells #[i_ x,i_ f,i_ n] 36)).setCell (a_ (w.heap.size+1) 0) v0).setCell (a_ (w.heap.size+1) 1) v1).setCell (a_ (w.heap.size+1) 2) v2)):=fun v0 v1 v2=>aK xf v0 v1 v2;have Rq:Hid (∀ o v0 v1 v2,b_ w ((((w2.setCell (a_ (w.heap.size+1) 0) v0).setCell (a_ (w.heap.size+1) 1) v1).setCell (a_ (w.heap.size+1) 2) v2).alloc o)):=fun o v0 v1 v2=>(aK aO v0 v1 v2).alloc (by simp;omega) o;have s0:=aO.res 0 (by omega);have s1:=aO.res 1 (by omega);have s2:=aO.res 2 (by omega);have y0:=aO.frozen 0;have y1:=aO.frozen 1;have y2:=aO.frozen 2;clear hc xf aO bo HX HR CC Uf;go_wp2_with fail
    refine bodyPost_ret (v:=.agg #[i_ x,i_ f,i_ n]) (by simp[results,Tryz.results26,go_sem,r0,r1,r2,s0,s1,s2,yU,BK]) rfl ⟨x,f,n,rfl,HU.out,?_⟩
    first | exact BB.out _ _ _ | exact Rq.out _ _ _ _
  ·obtain rfl:k=7:=by omega
   have HU:Hid (da l 0 0 0):=hP.out.all (by omega);have r0:=hx.res 0 (by omega);have r1:=hx.res 1 (by omega);have r2:=hx.res 2 (by omega);have z0:=hx.frozen 0;have z1:=hx.frozen 1;have z2:=hx.frozen 2;have BB:Hid (∀ v0 v1 v2,b_ w (((wr.setCell (a_ (w.heap.size+1) 0) v0).setCell (a_ (w.heap.size+1) 1) v1).setCell (a_ (w.heap.size+1) 2) v2)):=fun v0 v1 v2=>aK hx v0 v1 v2;clear hR hP;go_wp2_with fail
   refine bodyPost_ret (v:=.agg #[i_ 0,i_ 0,i_ 0]) (by simp[results,Tryz.results26,go_sem,r0,r1,r2]) rfl ⟨0,0,0,rfl,HU.out,BB.out _ _ _⟩
end Go.Proofs.YtcjfjflljdojlaaGreatDoor
