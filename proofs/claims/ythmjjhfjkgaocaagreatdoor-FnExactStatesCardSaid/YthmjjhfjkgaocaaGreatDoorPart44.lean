import Derived.Test.YthmjjhfjkgaocaaGreatDoorPart43
import Derived.BigRegion
import Derived.Deep.DeepCutAuto
import Derived.Deep.CutBlock
import Derived.Deep.CutRange
set_option linter.unusedSimpArgs false
set_option linter.unusedVariables false
set_option maxHeartbeats 8000000
set_option maxRecDepth 1000000
namespace Go.Proofs.YthmjjhfjkgaocaaGreatDoor
open Go.RowKit
theorem StF.cells {w1:World}{Z:Nat→Prop}{bT bF bX bA:Nat}{n:InsD}{s:StD}{tA gA:Value}{wr:World}(h:StF w1 Z bT bF bX bA n s tA gA wr):(wr.cell? ⟨bX,0,none⟩=some (.int .i64 n.op)∧wr.cell? ⟨bX,1,none⟩=some (.int .i64 n.fa)∧wr.cell? ⟨bX,2,none⟩=some (.int .i64 n.fb)∧wr.cell? ⟨bX,3,none⟩=some (.int .i64 n.fc)∧wr.cell? ⟨bX,4,none⟩=some (.int .i64 n.fd))∧(wr.cell? ⟨bA,0,none⟩=some (.bool true)∧wr.cell? ⟨bA,1,none⟩=some tA∧wr.cell? ⟨bA,2,none⟩=some gA)∧bF<wr.heap.size∧bX<wr.heap.size∧bA<wr.heap.size:=
 ⟨⟨h.ins.cell (i:=0) (by omega),h.ins.cell (i:=1) (by omega),h.ins.cell (i:=2) (by omega),h.ins.cell (i:=3) (by omega),h.ins.cell (i:=4) (by omega)⟩,⟨h.st.cell (i:=0) (by omega),h.st.cell (i:=1) (by omega),h.st.cell (i:=2) (by omega)⟩,h.res.lt,h.ins.lt,h.st.lt⟩
theorem three {f:Nat→Value}{a b c:Value}(h0:f 0=a)(h1:f 1=b)(h2:f 2=c):∀ i,i<3→(#[a,b,c]:Array Value)[i]? = some (f i):=fun i hi=>by
 match i,hi with
 | 0,_=>rw[h0];rfl
 | 1,_=>rw[h1];rfl
 | 2,_=>rw[h2];rfl
theorem five {f:Nat→Value}{a b c d e:Value}(h0:f 0=a)(h1:f 1=b)(h2:f 2=c)(h3:f 3=d)(h4:f 4=e):∀ i,i<5→(#[a,b,c,d,e]:Array Value)[i]? = some (f i):=fun i hi=>by
 match i,hi with
 | 0,_=>rw[h0];rfl
 | 1,_=>rw[h1];rfl
 | 2,_=>rw[h2];rfl
 | 3,_=>rw[h3];rfl
 | 4,_=>rw[h4];rfl
theorem three_allocs (wr:World)(o1 o2 o3:Obj):((((wr.alloc o1).alloc o2).alloc o3).drew.heap[wr.heap.size]? = some o1∧(((wr.alloc o1).alloc o2).alloc o3).drew.heap[wr.heap.size+1]? = some o2∧(((wr.alloc o1).alloc o2).alloc o3).drew.heap[wr.heap.size+1+1]? = some o3)∧Below wr.heap.size wr (((wr.alloc o1).alloc o2).alloc o3).drew:=by
 have s1:∀(W:World) (o:Obj),(W.alloc o).heap.size=W.heap.size+1:=fun W o=>by simp
 refine⟨⟨?_,?_,?_⟩,((((Below.refl _ _).alloc (Nat.le_refl _) _).alloc (by rw[s1];omega) _).alloc (by rw[s1,s1];omega) _).drew⟩
 ·show(((wr.alloc o1).alloc o2).alloc o3).heap[wr.heap.size]? = _
  rw[Below.heap_alloc _ _ _ (by rw[s1,s1];omega),Below.heap_alloc _ _ _ (by rw[s1];omega),Go.Deep.blk_alloc_new]
 ·show(((wr.alloc o1).alloc o2).alloc o3).heap[wr.heap.size+1]? = _
  have:=Go.Deep.blk_alloc_new (wr.alloc o1) o2
  rw[s1]at this
  rw[Below.heap_alloc _ _ _ (by rw[s1,s1];omega),this]
 ·show(((wr.alloc o1).alloc o2).alloc o3).heap[wr.heap.size+1+1]? = _
  have:=Go.Deep.blk_alloc_new ((wr.alloc o1).alloc o2) o3
  rw[s1,s1]at this
  exact this
theorem stF_new {Z:Nat→Prop}{bT bF bX bA:Nat}{n:InsD}{s:StD}{tA gA:Value}{wr w2:World}(h1:w2.heap[bF]? = some (.cells #[.int .i64 0,.int .i64 0,.int .i64 0] 39 (0,0)))(h2:w2.heap[bX]? = some (.cells #[.int .i64 n.op,.int .i64 n.fa,.int .i64 n.fb,.int .i64 n.fc,.int .i64 n.fd] 78 (0,0)))(h3:w2.heap[bA]? = some (.cells #[.bool true,tA,gA] 62 (0,0)))(hb:Below wr.heap.size wr w2)(oT:OwnI wr bT tA s.types)(oG:OwnG wr bT gA s.guards)(hfr:∀ k,k<bF→w2.heap[k]? = wr.heap[k]?):StF wr Z bT bF bX bA n s tA gA w2:=
 ⟨fun k hk _=>hfr k hk,⟨_,h1,rfl,three rfl rfl rfl⟩,⟨_,h2,rfl,five rfl rfl rfl rfl rfl⟩,⟨_,h3,rfl,three rfl rfl rfl⟩,oT.below hb,oG.below hb⟩
theorem OwnI.intsAt {w:World}{base:Nat}{a:Option Addr}{n c:Nat}{t:List Int}(h:OwnI w base (.slice a n c) t):IntsAt w (fun b=>b<w.heap.size) a t:=by
 refine⟨?_,fun h0=>?_⟩
 ·rcases h.2 with⟨e,h0⟩ | ⟨g,cap,cur,e,_,_,h1,h2,_⟩
  ·omega
  ·unfold maxLen at h2;omega
 ·obtain⟨g,cap,e,h1,h2,h3⟩:=h.at h0
  injection e with e1 e2 e3
  exact⟨g,0,e1,h2,fun j hj=>by rw[Nat.zero_add];exact h3 j hj⟩
theorem OwnG.gusAt {w:World}{base:Nat}{a:Option Addr}{n c:Nat}{t:List GuD}(h:OwnG w base (.slice a n c) t):GusAt w (fun b=>b<w.heap.size) a t:=by
 refine⟨?_,fun h0=>?_⟩
 ·rcases h.2 with⟨e,h0⟩ | ⟨g,cap,cur,e,_,_,h1,h2,_⟩
  ·omega
  ·unfold maxLen at h2;omega
 ·obtain⟨g,cap,e,h1,h2,_,h3⟩:=h.at h0
  injection e with e1 e2 e3
  exact⟨g,0,e1,h2,fun j hj=>by rw[Nat.zero_add];exact h3 j hj⟩
def StPost (w:World)(bV bS bT:Nat)(H:Nat→Value)(N p:Nat)(l:List ProtoD)(n:InsD)(a:Nat)(σ:Mst)(s:StD)(iv:Value)(wr:World)(e:Ending)(w':World):Prop:=
 ((∃(c:Int)(k:Nat),stepT l n a σ s=.inl (c,k)∧e=.returned (.agg #[.int .i64 c,.int .i64 (p:Int),.int .i64 (k:Int)])∧Below w.heap.size w w') ∨
 (∃ σ' R' iv' l',stepT l n a σ s=.inr σ'∧e=.returned (.agg #[.int .i64 0,.int .i64 0,.int .i64 0])∧VfW w bV bS bT H N σ' R' iv' l' w'∧∀ k,iv'.ownBlock=some k→iv.ownBlock=some k∨wr.heap.size≤k))∧∀ k,k<wr.heap.size→offV bV bS iv k→w'.heap[k]? = wr.heap[k]?
theorem heap_set3 {w:World}{b k:Nat}(h:k≠b)(v0 v1 v2:Value):(((w.setCell ⟨b,0,none⟩ v0).setCell ⟨b,1,none⟩ v1).setCell ⟨b,2,none⟩ v2).heap[k]? = w.heap[k]?:=by
 rw[heap_setCell_other _ ⟨b,_,none⟩ _ _ h,heap_setCell_other _ ⟨b,_,none⟩ _ _ h,heap_setCell_other _ ⟨b,_,none⟩ _ _ h]
theorem step_any (w:World)(bV bS bT:Nat)(H:Nat→Value)(N R0 p:Nat)(l:List ProtoD)(n:InsD)(a:Nat)(σ:Mst)(s:StD)(R:Nat→Value×Value)(iv:Value)(li:List Int)(ca:Option Addr)(cc b7 o7 c7:Nat)(S:Nat→Prop)(wr:World)
  (h:VfW w bV bS bT H N σ R iv li wr)(hB:VfB w bV bS bT)(hm:MOk R0 N σ)(hst:σ.st a=some s)(ha:a<N)(hN:N≤6000)(hR0:R0≤250)(hfit:InsFit l n a R0 N)(hG:RTab w)(hs:ProtosAt w S ca l)(hSB:∀ b,S b→b<w.heap.size)(hul:∀ x,x∈l→x.ups.length≤250)(hll:l.length≤1000000)
  (h0:H 0=.slice ca l.length cc)(h1:H 1=.int .i64 (p:Int))(h9:H 9=.slice (some ⟨b7,o7,none⟩) N c7)(hb7:b7<w.heap.size)(hx:InsCells w b7 (o7+a * 5) n) :
  Calls Tryz.prog 44 #[.pointer (some ⟨bV,0,none⟩),.int .i64 (a:Int)] wr (StPost w bV bS bT H N p l n a σ s iv wr):=by
 have hold:=h.old
 have hbV:=h.box.lt
 have hbS:=h.sts.lt
 have k0:wr.cell? ⟨bV,0,none⟩=some (.slice ca l.length cc):=by rw[←h0];exact h.box.cell (i:=0) (by omega)
 have k1:wr.cell? ⟨bV,1,none⟩=some (.int .i64 (p:Int)):=by rw[←h1];exact h.box.cell (i:=1) (by omega)
 have k9:wr.cell? ⟨bV,9,none⟩=some (.slice (some ⟨b7,o7,none⟩) N c7):=by rw[←h9];exact h.box.cell (i:=9) (by omega)
 have k11:wr.cell? ⟨bV,11,none⟩=some (.slice (some ⟨bS,0,none⟩) N N):=h.box.cell (i:=11) (by omega)
 obtain⟨q0,q1,q2⟩:=h.reached ha
 rw[hst]at q0
 change wr.cell? ⟨bS,a * 3,none⟩=some (.bool true)at q0
 obtain⟨oT,oG⟩:=h.own a s ha hst
 obtain⟨m1,m2,m3⟩:=(hm.st a s hst).2
 obtain⟨a1,c1,e1,I1⟩:=oT.ints (by omega)
 obtain⟨a2,c2,e2,I2⟩:=oG.gus (by omega)
 rw[e1]at q1 oT
 rw[e2]at q2 oG
 have hb7r:b7<wr.heap.size:=Nat.lt_of_lt_of_le hb7 hold.size
 have xc:∀ o,wr.cell? ⟨b7,o,none⟩=w.cell? ⟨b7,o,none⟩:=fun o=>hold.cell (p:=⟨b7,o,none⟩) hb7
 have x0:=(xc _).trans hx.op
 have x1:=(xc _).trans hx.fa
 have x2:=(xc _).trans hx.fb
 have x3:=(xc _).trans hx.fc
 have x4:=(xc _).trans hx.fd
 have haN:(a:Int)<N:=by omega
 obtain⟨ty,gl⟩:=s
 obtain⟨op',fa,fb,fc,fd⟩:=n
 obtain⟨op,rfl⟩:∃ op:Nat,op'=op:=⟨op'.toNat,by have:=hfit.op;dsimp only at this;omega⟩
 dsimp only at *
 have HV:=hide h
 have HVB:=hide hB
 have HM:=hide hm
 have HST:=hide hst
 have HFIT:=hide hfit
 have HG:=hide hG
 have HS:=hide hs
 have HSB:=hide hSB
 have HUL:=hide hul
 have HOT:=hide oT
 have HOG:=hide oG
 have HE:Hid ((R a).1=.slice a1 ty.length c1∧(R a).2=.slice a2 gl.length c2):=⟨e1,e2⟩
 have H0:=hide h0
 have H1:=hide h1
 have HM3:=hide m3
 subst m1
 clear h hB hm hst hfit hG hs hSB hul oT oG e1 e2 I1 I2 hx xc h0 h1 h9 m3 k1 k0
 obtain⟨u1,u2,u3⟩:bV<wr.heap.size+1∧bV<wr.heap.size+2∧bV<wr.heap.size+3:=by omega
 obtain⟨v1,v2,v3⟩:bS<wr.heap.size+1∧bS<wr.heap.size+2∧bS<wr.heap.size+3:=by omega
 obtain⟨y1,y2,y3⟩:b7<wr.heap.size+1∧b7<wr.heap.size+2∧b7<wr.heap.size+3:=by omega
 go_enter Tryz.func44,Tryz.ntmps44
 go_upto_region 1 with fail
 go_cut [5,6] (fun s5 s6 wc=>∃ bX bA,s5=.pointer (some ⟨bX,0,none⟩)∧s6=.pointer (some ⟨bA,0,none⟩)∧wr.heap.size<bX∧wr.heap.size<bA∧Hid (StF wr (offV bV bS iv) bT wr.heap.size bX bA ⟨op,fa,fb,fc,fd⟩ ⟨ty,gl⟩ (.slice a1 ty.length c1) (.slice a2 gl.length c2) wc)∧Hid (Below wr.heap.size wr wc))
 case first=>
  go_region
  all_goals (go_wp2_with fail)
  ·go_meet
   obtain⟨⟨t1,t2,t3⟩,t4⟩:=three_allocs wr (.cells #[.int .i64 0,.int .i64 0,.int .i64 0] 39) (.cells #[.int .i64 (op:Int),.int .i64 fa,.int .i64 fb,.int .i64 fc,.int .i64 fd] 78) (.cells #[.bool true,.slice a1 ty.length c1,.slice a2 gl.length c2] 62)
   exact⟨_,_,rfl,rfl,by omega,by omega,stF_new t1 t2 t3 t4 HOT.out HOG.out (fun k hk=>t4.block k hk),t4⟩
  ·go_meet
   obtain⟨⟨t1,t2,t3⟩,t4⟩:=three_allocs wr (.cells #[.int .i64 0,.int .i64 0,.int .i64 0] 39) (.cells #[.bool true,.slice a1 ty.length c1,.slice a2 gl.length c2] 62) (.cells #[.int .i64 (op:Int),.int .i64 fa,.int .i64 fb,.int .i64 fc,.int .i64 fd] 78)
   exact⟨_,_,rfl,rfl,by omega,by omega,stF_new t1 t3 t2 t4 HOT.out HOG.out (fun k hk=>t4.block k hk),t4⟩
 case rest=>
  obtain⟨bX,bA,rfl,rfl,hX0,hA0,HF,HB0⟩:=hcut
  have LOB:Hid (w.heap.size≤wr.heap.size):=HV.out.old.size
  have AV:Hid (∀ k,wr.heap.size≤k→k≠bV∧k≠bS∧iv.ownBlock≠some k∧∀ i,i<N→(R i).1.ownBlock≠some k∧(R i).2.ownBlock≠some k):=fun k hk=>⟨by omega,by omega,fun e=>by have:=(HV.out.its.lt' k e).2;omega,fun i hi=>⟨fun e=>by have:=((HV.out.rowLt hi).1 k e).2;omega,fun e=>by have:=((HV.out.rowLt hi).2 k e).2;omega⟩⟩
  have ROWS:Hid (∀ k,(Value.slice a1 ty.length c1).ownBlock=some k∨(Value.slice a2 gl.length c2).ownBlock=some k→k<wr.heap.size∧k≠bV∧k≠bS∧iv.ownBlock≠some k):=fun k hk=>by
   have b4:=HVB.out.o4;have b5:=HVB.out.o5
   rcases hk with hk | hk
   ·have:=HOT.out.lt' k hk
    refine⟨this.2,by omega,by omega,fun e=>?_⟩
    have d:=(HV.out.dis a ha).1 k e
    rw[HE.out.1]at d
    exact d hk
   ·have:=HOG.out.lt' k hk
    refine⟨this.2,by omega,by omega,fun e=>?_⟩
    have d:=(HV.out.dis a ha).2 k e
    rw[HE.out.2]at d
    exact d hk
  have HVc:=hide (HV.out.below HB0.out)
  have hszc:=HB0.out.size
  obtain⟨hop1,hop2⟩:=HFIT.out.op
  dsimp only at hop1 hop2
  have h43:op<43:=by omega
  have TOU:Hid (Calls Tryz.prog 81 #[.pointer (some ⟨bV,0,none⟩),.agg #[.int .i64 (op:Int),.int .i64 fa,.int .i64 fb,.int .i64 fc,.int .i64 fd],.slice a1 ty.length c1] wc (TouPost l ⟨(op:Int),fa,fb,fc,fd⟩ ty wc)):=
   touches_any l op fa fb fc fd ty a1 ca c1 cc bV (fun b=>b<wc.heap.size) wc (HG.out.keep HVc.out.old HG.out.pos) (by omega) h43 (by rw[←H0.out];exact HVc.out.box.cell (i:=0) (by omega)) ((HS.out.keep HVc.out.old HSB.out).mono (fun b h=>Nat.lt_of_lt_of_le (HSB.out b h) HVc.out.old.size)) (fun b h=>h) HF.out.ty.intsAt hR0 (fun k hk=>HFIT.out.fit k hk) HFIT.out.ups HUL.out hll (fun q hq=>HFIT.out.put ty rfl q hq)
  clear k9 k11 q0 q1 q2 x0 x1 x2 x3 x4 haN hb7r hb7 hold hbV hbS u1 u2 u3 v1 v2 v3 y1 y2 y3 hll
  obtain⟨⟨i0,i1,i2,i3,i4⟩,⟨s0,s1,s2⟩,lF,lX,lA⟩:=HF.out.cells
  dsimp only at i0 i1 i2 i3 i4
  generalize hbF:wr.heap.size=bF at *
  go_wp2_with fail
  refine(unhide TOU).mono ?_
  rintro e w1 ⟨bt,tv,sv,kv,pv,rfl,hT,hb1⟩
  have HF1:=hide (HF.out.below hb1)
  have HV1:=hide (HVc.out.below hb1)
  have HT1:=hide hT
  have hb1s:=hb1.size
  obtain⟨d0,d1,d2,d3,d4⟩:=hT.cells
  have lbt:=hT.row.lt
  clear i0 i1 i2 i3 i4 s0 s1 s2 lF lX lA
  clear hT hb1 TOU d0 d1 d2 d3
  obtain⟨⟨i0,i1,i2,i3,i4⟩,⟨s0,s1,s2⟩,lF,lX,lA⟩:=HF1.out.cells
  dsimp only at i0 i1 i2 i3 i4
  cases hw:(touchT l ⟨(op:Int),fa,fb,fc,fd⟩ ty).wrong with
  | true=>
   rw[hw]at d4
   have SD:Hid (stepT l ⟨(op:Int),fa,fb,fc,fd⟩ a σ ⟨ty,gl⟩=.inl (10,a)):=stepT_10 ((touch_wrong hop1 hop2 ty).1 hw)
   clear hw
   have FA:Hid (Calls Tryz.prog 47 #[.pointer (some ⟨bV,0,none⟩),.int .i64 10,.int .i64 (a:Int)] w1 fun e w'=>e=.returned (.agg #[.int .i64 10,.int .i64 (p:Int),.int .i64 (a:Int)])∧Below w1.heap.size w1 w'):=fault_any bV p 10 (a:Int) w1 ((HV1.out.box.cell (i:=1) (by omega)).trans (congrArg some H1.out))
   go_wp2_with fail
   refine(unhide FA).mono ?_
   rintro e wf ⟨rfl,hbf⟩
   have hFf:=HF1.out.below hbf
   have BO:Hid (Below w.heap.size w wf):=HV1.out.old.trans (hbf.mono HV1.out.old.size)
   have r0:=hFf.res.cell (i:=0) (by omega);have r1:=hFf.res.cell (i:=1) (by omega);have r2:=hFf.res.cell (i:=2) (by omega)
   have z0:=hFf.res.frozen 0;have z1:=hFf.res.frozen 1;have z2:=hFf.res.frozen 2
   have lf:=hFf.res.lt
   have BB:Hid (∀ v0 v1 v2,Below w.heap.size w (((wf.setCell ⟨bF,0,none⟩ v0).setCell ⟨bF,1,none⟩ v1).setCell ⟨bF,2,none⟩ v2)):=fun v0 v1 v2=>set3_old BO.out LOB.out v0 v1 v2
   have FRB:Hid (∀ v0 v1 v2 k,k<wr.heap.size→offV bV bS iv k→(((wf.setCell ⟨bF,0,none⟩ v0).setCell ⟨bF,1,none⟩ v1).setCell ⟨bF,2,none⟩ v2).heap[k]? = wr.heap[k]?):=fun v0 v1 v2 k hk hz=>(heap_set3 (by omega) v0 v1 v2).trans (hFf.frm k (by omega) hz)
   clear hFf hbf FA d4 lbt i0 i1 i2 i3 i4 s0 s1 s2 lF lX lA
   go_wp2_with fail
   exact bodyPost_ret (v:=.agg #[.int .i64 10,.int .i64 (p:Int),.int .i64 (a:Int)]) (by simp[results,Tryz.results44,go_sem,r0,r1,r2,lf]) rfl ⟨.inl ⟨10,a,SD.out,rfl,BB.out _ _ _⟩,FRB.out _ _ _⟩
  | false=>
   rw[hw]at d4
   cases hr:readC l ⟨(op:Int),fa,fb,fc,fd⟩ ty with
   | none=>exact absurd ((touch_wrong hop1 hop2 ty).2 hr) (by rw[hw];decide)
   | some r=>
    obtain⟨_,tt1,tt2⟩:=touch_is hop1 hop2 hr
    have TLEN:(touchT l ⟨(op:Int),fa,fb,fc,fd⟩ ty).types.length=ty.length:=by rw[tt1,writeC_len,readC_len hr]
    have AL:Hid (Calls Tryz.prog 82 #[.agg #[.int .i64 (op:Int),.int .i64 fa,.int .i64 fb,.int .i64 fc,.int .i64 fd],.slice a2 gl.length c2] w1 (AlPost (allowI ⟨(op:Int),fa,fb,fc,fd⟩ gl) w1)):=guardsAllow_any op fa fb fc fd a2 gl c2 (fun b=>b<w1.heap.size) w1 HF1.out.gu.gusAt (fun b h=>h) m2
    have HR:=hide hr
    have HTT1:=hide tt1
    have HTT2:=hide tt2
    have HTLEN:=hide TLEN
    clear hw hr tt1 tt2 TLEN
    go_wp2_with fail
    refine(unhide AL).mono ?_
    rintro e w2 ⟨rfl,hb2⟩
    have HF2:=hide (HF1.out.below hb2)
    have HV2:=hide (HV1.out.below hb2)
    have HT2:=hide (HT1.out.below hb2)
    have hb2s:=hb2.size
    clear i0 i1 i2 i3 i4 s0 s1 s2 lF lX lA
    clear hb2 AL d4 lbt
    obtain⟨⟨i0,i1,i2,i3,i4⟩,⟨s0,s1,s2⟩,lF,lX,lA⟩:=HF2.out.cells
    dsimp only at i0 i1 i2 i3 i4
    have CHG:=hide (change_is (n:=⟨(op:Int),fa,fb,fc,fd⟩) (g:=gl) (fun e=>(HFIT.out.try_ e).1) HFIT.out.keep)
    cases hal:allowI ⟨(op:Int),fa,fb,fc,fd⟩ gl with
    | false=>
     have SD:Hid (stepT l ⟨(op:Int),fa,fb,fc,fd⟩ a σ ⟨ty,gl⟩=.inl (11,a)):=stepT_11 HR.out (by have:=CHG.out;rw[hal]at this;exact this)
     clear hal
     have FA:Hid (Calls Tryz.prog 47 #[.pointer (some ⟨bV,0,none⟩),.int .i64 11,.int .i64 (a:Int)] w2 fun e w'=>e=.returned (.agg #[.int .i64 11,.int .i64 (p:Int),.int .i64 (a:Int)])∧Below w2.heap.size w2 w'):=fault_any bV p 11 (a:Int) w2 ((HV2.out.box.cell (i:=1) (by omega)).trans (congrArg some H1.out))
     go_wp2_with fail
     refine(unhide FA).mono ?_
     rintro e wf ⟨rfl,hbf⟩
     have hFf:=HF2.out.below hbf
     have BO:Hid (Below w.heap.size w wf):=HV2.out.old.trans (hbf.mono HV2.out.old.size)
     have r0:=hFf.res.cell (i:=0) (by omega);have r1:=hFf.res.cell (i:=1) (by omega);have r2:=hFf.res.cell (i:=2) (by omega)
     have z0:=hFf.res.frozen 0;have z1:=hFf.res.frozen 1;have z2:=hFf.res.frozen 2
     have lf:=hFf.res.lt
     have BB:Hid (∀ v0 v1 v2,Below w.heap.size w (((wf.setCell ⟨bF,0,none⟩ v0).setCell ⟨bF,1,none⟩ v1).setCell ⟨bF,2,none⟩ v2)):=fun v0 v1 v2=>set3_old BO.out LOB.out v0 v1 v2
     have FRB:Hid (∀ v0 v1 v2 k,k<wr.heap.size→offV bV bS iv k→(((wf.setCell ⟨bF,0,none⟩ v0).setCell ⟨bF,1,none⟩ v1).setCell ⟨bF,2,none⟩ v2).heap[k]? = wr.heap[k]?):=fun v0 v1 v2 k hk hz=>(heap_set3 (by omega) v0 v1 v2).trans (hFf.frm k (by omega) hz)
     clear hFf hbf FA i0 i1 i2 i3 i4 s0 s1 s2 lF lX lA
     go_wp2_with fail
     exact bodyPost_ret (v:=.agg #[.int .i64 11,.int .i64 (p:Int),.int .i64 (a:Int)]) (by simp[results,Tryz.results44,go_sem,r0,r1,r2,lf]) rfl ⟨.inl ⟨11,a,SD.out,rfl,BB.out _ _ _⟩,FRB.out _ _ _⟩
    | true=>
     have CH:Hid (changeC ⟨(op:Int),fa,fb,fc,fd⟩ gl=some (behindI ⟨(op:Int),fa,fb,fc,fd⟩ gl)):=by have:=CHG.out;rw[hal]at this;exact this
     have KP:Hid (Calls Tryz.prog 83 #[.pointer (some ⟨bt,0,none⟩),.agg #[.bool true,.slice a1 ty.length c1,.slice a2 gl.length c2]] w2 (AlPost (keptC ⟨(op:Int),fa,fb,fc,fd⟩ gl r.taken ty (writeC ⟨(op:Int),fa,fb,fc,fd⟩ r.types)) w2)):=
      keeps_any bt _ _ tv sv kv pv true ty gl a1 a2 c1 c2 (fun b=>b<w2.heap.size) w2 HT2.out HF2.out.ty.intsAt HF2.out.gu.gusAt (fun b h=>h) m2 HF2.out.ty.cap (high_le HM3.out) HTLEN.out hR0 (by rw[HTT2.out];have:=taken_len HR.out;omega) _ (by rw[HTT1.out,HTT2.out];exact kept_keeps (fun e=>read32 e HR.out))
     have HAL:=hide hal
     clear hal
     go_wp2_with fail
     refine(unhide KP).mono ?_
     rintro e w3 ⟨rfl,hb3⟩
     have HF3:=hide (HF2.out.below hb3)
     have HV3:=hide (HV2.out.below hb3)
     have HT3:=hide (HT2.out.below hb3)
     have hb3s:=hb3.size
     clear i0 i1 i2 i3 i4 s0 s1 s2 lF lX lA
     clear hb3 KP
     obtain⟨⟨i0,i1,i2,i3,i4⟩,⟨s0,s1,s2⟩,lF,lX,lA⟩:=HF3.out.cells
     dsimp only at i0 i1 i2 i3 i4
     cases hkp:keptC ⟨(op:Int),fa,fb,fc,fd⟩ gl r.taken ty (writeC ⟨(op:Int),fa,fb,fc,fd⟩ r.types)with
     | false=>
      have SD:Hid (stepT l ⟨(op:Int),fa,fb,fc,fd⟩ a σ ⟨ty,gl⟩=.inl (12,a)):=stepT_12 HR.out CH.out (by show ¬keptC ⟨(op:Int),fa,fb,fc,fd⟩ gl r.taken ty (writeC ⟨(op:Int),fa,fb,fc,fd⟩ r.types)=true;rw[hkp];decide)
      clear hkp
      have FA:Hid (Calls Tryz.prog 47 #[.pointer (some ⟨bV,0,none⟩),.int .i64 12,.int .i64 (a:Int)] w3 fun e w'=>e=.returned (.agg #[.int .i64 12,.int .i64 (p:Int),.int .i64 (a:Int)])∧Below w3.heap.size w3 w'):=fault_any bV p 12 (a:Int) w3 ((HV3.out.box.cell (i:=1) (by omega)).trans (congrArg some H1.out))
      go_wp2_with fail
      refine(unhide FA).mono ?_
      rintro e wf ⟨rfl,hbf⟩
      have hFf:=HF3.out.below hbf
      have BO:Hid (Below w.heap.size w wf):=HV3.out.old.trans (hbf.mono HV3.out.old.size)
      have r0:=hFf.res.cell (i:=0) (by omega);have r1:=hFf.res.cell (i:=1) (by omega);have r2:=hFf.res.cell (i:=2) (by omega)
      have z0:=hFf.res.frozen 0;have z1:=hFf.res.frozen 1;have z2:=hFf.res.frozen 2
      have lf:=hFf.res.lt
      have BB:Hid (∀ v0 v1 v2,Below w.heap.size w (((wf.setCell ⟨bF,0,none⟩ v0).setCell ⟨bF,1,none⟩ v1).setCell ⟨bF,2,none⟩ v2)):=fun v0 v1 v2=>set3_old BO.out LOB.out v0 v1 v2
      have FRB:Hid (∀ v0 v1 v2 k,k<wr.heap.size→offV bV bS iv k→(((wf.setCell ⟨bF,0,none⟩ v0).setCell ⟨bF,1,none⟩ v1).setCell ⟨bF,2,none⟩ v2).heap[k]? = wr.heap[k]?):=fun v0 v1 v2 k hk hz=>(heap_set3 (by omega) v0 v1 v2).trans (hFf.frm k (by omega) hz)
      clear hFf hbf FA i0 i1 i2 i3 i4 s0 s1 s2 lF lX lA
      go_wp2_with fail
      exact bodyPost_ret (v:=.agg #[.int .i64 12,.int .i64 (p:Int),.int .i64 (a:Int)]) (by simp[results,Tryz.results44,go_sem,r0,r1,r2,lf]) rfl ⟨.inl ⟨12,a,SD.out,rfl,BB.out _ _ _⟩,FRB.out _ _ _⟩
     | true=>
      have GO:=hide (stepT_go (l:=l) (n:=⟨(op:Int),fa,fb,fc,fd⟩) (a:=a) (σ:=σ) (s:=⟨ty,gl⟩) HR.out CH.out hkp)
      have BH:Hid (Calls Tryz.prog 84 #[.agg #[.int .i64 (op:Int),.int .i64 fa,.int .i64 fb,.int .i64 fc,.int .i64 fd],.slice a2 gl.length c2] w3 (OwnGRet (behindI ⟨(op:Int),fa,fb,fc,fd⟩ gl) w3)):=guardsBehind_any op fa fb fc fd gl a2 c2 (fun b=>b<w3.heap.size) w3 HF3.out.gu.gusAt (fun b h=>h) m2 HAL.out
      have GL:Hid ((behindI ⟨(op:Int),fa,fb,fc,fd⟩ gl).length≤50∧∀ i,i<(behindI ⟨(op:Int),fa,fb,fc,fd⟩ gl).length→((behindI ⟨(op:Int),fa,fb,fc,fd⟩ gl)[i]?.getD GuD.z).keep≤ty.length):=changeC_ok CH.out HFIT.out.inf m2 HM3.out
      clear hkp
      generalize hG:behindI ⟨(op:Int),fa,fb,fc,fd⟩ gl=G at *
      generalize hTW:writeC ⟨(op:Int),fa,fb,fc,fd⟩ r.types=T at *
      go_wp2_with fail
      refine(unhide BH).mono ?_
      rintro e w4 ⟨gv,rfl,hgv,hb4⟩
      obtain⟨a5,c5,rfl⟩:=hgv.lenV
      obtain⟨va,vc,rfl⟩:=HT3.out.ty.lenV
      have HF4:=hide (HF3.out.below hb4)
      have HV4:=hide (HV3.out.below hb4)
      have HT4:=hide (HT3.out.below hb4)
      have HG4:=hide hgv
      have hb4s:=hb4.size
      clear i0 i1 i2 i3 i4 s0 s1 s2 lF lX lA
      clear hb4 BH hgv
      obtain⟨⟨i0,i1,i2,i3,i4⟩,⟨s0,s1,s2⟩,lF,lX,lA⟩:=HF4.out.cells
      dsimp only at i0 i1 i2 i3 i4
      have GN:Hid (Calls Tryz.prog 85 #[.agg #[.int .i64 (op:Int),.int .i64 fa,.int .i64 fb,.int .i64 fc,.int .i64 fd]] w4 fun e w'=>e=.returned (.bool (sGoesOn op))∧Below w4.heap.size w4 w'):=goesOn_any op fa fb fc fd w4
      go_wp2_with fail
      refine(unhide GN).mono ?_
      rintro e w5 ⟨rfl,hb5⟩
      have HF5:=hide (HF4.out.below hb5)
      have HV5:=hide (HV4.out.below hb5)
      have HT5:=hide (HT4.out.below hb5)
      have HG5:=hide (HG4.out.below hb5)
      have hb5s:=hb5.size
      clear i0 i1 i2 i3 i4 s0 s1 s2 lF lX lA
      clear hb5 GN
      have TT:Hid ((touchT l ⟨(op:Int),fa,fb,fc,fd⟩ ty).types=T):=HTT1.out
      have TN2:Hid ((touchT l ⟨(op:Int),fa,fb,fc,fd⟩ ty).types.length=ty.length):=HTLEN.out
      obtain⟨tn,htn⟩:∃ tn,(touchT l ⟨(op:Int),fa,fb,fc,fd⟩ ty).types.length=tn:=⟨_,rfl⟩
      rw[htn]at HT5
      have TN3:Hid (tn=(touchT l ⟨(op:Int),fa,fb,fc,fd⟩ ty).types.length):=htn.symm
      have TN:Hid (tn=ty.length):=htn.symm.trans HTLEN.out
      have BLT:Hid (bF≤bt∧bt<w5.heap.size):=⟨by have:=HT5.out.ge;omega,HT5.out.row.lt⟩
      have BLF:Hid (bF<w5.heap.size):=HF5.out.res.lt
      have BLG:Hid (∀ k,(Value.slice va tn vc).ownBlock=some k→bF≤k∧k<w5.heap.size):=fun k e=>by have:=HT5.out.ty.lt' k e;omega
      have NBT:Hid (bF≠bt∧bX≠bt∧bA≠bt∧(∀ k,(Value.slice a1 ty.length c1).ownBlock=some k→k≠bt)∧∀ k,(Value.slice a2 gl.length c2).ownBlock=some k→k≠bt):=by
       have h1:=HT5.out.ge
       have h2:=HF.out.ins.lt;have h3:=HF.out.st.lt;have h4:=HF.out.res.lt
       exact⟨by omega,by omega,by omega,fun k e=>by have:=(ROWS.out k (.inl e)).1;omega,fun k e=>by have:=(ROWS.out k (.inr e)).1;omega⟩
      have NTG:Hid (∀ g,(Value.slice va tn vc).ownBlock=some g→bF≠g∧bX≠g∧bA≠g∧(∀ k,(Value.slice a1 ty.length c1).ownBlock=some k→k≠g)∧∀ k,(Value.slice a2 gl.length c2).ownBlock=some k→k≠g):=fun g hg=>by
       have h1:=HT5.out.ty.lt' g hg
       have h2:=HF.out.ins.lt;have h3:=HF.out.st.lt;have h4:=HF.out.res.lt
       exact⟨by omega,by omega,by omega,fun k e=>by have:=(ROWS.out k (.inl e)).1;omega,fun k e=>by have:=(ROWS.out k (.inr e)).1;omega⟩
      obtain⟨GB,hGB⟩:∃ GB,GB=w3.heap.size:=⟨_,rfl⟩
      rw[←hGB]at HG5
      have GBT:Hid (∀ g,(Value.slice va tn vc).ownBlock=some g→g<GB):=fun g hg=>by
       rw[hGB]
       have:=HT3.out.ty.lt' g (by rw[htn];exact hg)
       exact this.2
      cases hgo:sGoesOn op with
      | true=>
       obtain⟨d0,d1,d2,d3,d4⟩:=HT5.out.cells
       have lbt:=HT5.out.row.lt
       have gon:goesC ⟨(op:Int),fa,fb,fc,fd⟩=true:=hgo
       have RC:Hid (Calls Tryz.prog 42 #[.pointer (some ⟨bV,0,none⟩),.int .i64 ((a:Int)+1),.slice va tn vc,.slice a5 G.length c5] w5 (RcPost w bV bS bT H N σ R iv (a+1) ⟨T,G⟩ w5)):=by
        have hTl:T.length=tn:=by rw[←TT.out];exact htn
        have key:=reach_any w bV bS bT H N ty.length σ R iv li (a+1) ⟨T,G⟩ va a5 vc c5 (fun b=>b<w5.heap.size) w5 HV5.out HVB.out HM.out (HFIT.out.inf.next gon) hN hR0 (by have:=HT5.out.ty.intsAt;rw[TT.out]at this;exact this) HG5.out.gusAt (fun b h=>h) (by show T.length≤1000;have:=TN.out;omega) (by show G.length≤1000;have:=GL.out.1;omega)
        change Calls _ _ #[_,_,.slice va T.length vc,.slice a5 G.length c5] _ _ at key
        rw[hTl]at key
        exact key
       clear d1 d2 d3 d4 hgo
       go_wp2_with fail
       refine(unhide RC).mono ?_
       rintro e w6 (⟨hone,rfl,hb6⟩ | ⟨σ2,R2,iv2,l2,hone,rfl,hV6,hF6⟩)
       ·have SD:Hid (stepT l ⟨(op:Int),fa,fb,fc,fd⟩ a σ ⟨ty,gl⟩=.inl (13,a+1)):=GO.out.trans (step_end gon hone)
        have HF6:=hide (HF5.out.below hb6)
        have HV6:=hide (HV5.out.below hb6)
        clear hone hb6 RC d0 lbt gon
        have FA:Hid (Calls Tryz.prog 47 #[.pointer (some ⟨bV,0,none⟩),.int .i64 13,.int .i64 ((a:Int)+1)] w6 fun e w'=>e=.returned (.agg #[.int .i64 13,.int .i64 (p:Int),.int .i64 ((a:Int)+1)])∧Below w6.heap.size w6 w'):=fault_any bV p 13 ((a:Int)+1) w6 ((HV6.out.box.cell (i:=1) (by omega)).trans (congrArg some H1.out))
        go_wp2_with fail
        refine(unhide FA).mono ?_
        rintro e wf ⟨rfl,hbf⟩
        have hFf:=HF6.out.below hbf
        have BO:Hid (Below w.heap.size w wf):=HV6.out.old.trans (hbf.mono HV6.out.old.size)
        have r0:=hFf.res.cell (i:=0) (by omega);have r1:=hFf.res.cell (i:=1) (by omega);have r2:=hFf.res.cell (i:=2) (by omega)
        have z0:=hFf.res.frozen 0;have z1:=hFf.res.frozen 1;have z2:=hFf.res.frozen 2
        have lf:=hFf.res.lt
        have BB:Hid (∀ v0 v1 v2,Below w.heap.size w (((wf.setCell ⟨bF,0,none⟩ v0).setCell ⟨bF,1,none⟩ v1).setCell ⟨bF,2,none⟩ v2)):=fun v0 v1 v2=>set3_old BO.out LOB.out v0 v1 v2
        have FRB:Hid (∀ v0 v1 v2 k,k<wr.heap.size→offV bV bS iv k→(((wf.setCell ⟨bF,0,none⟩ v0).setCell ⟨bF,1,none⟩ v1).setCell ⟨bF,2,none⟩ v2).heap[k]? = wr.heap[k]?):=fun v0 v1 v2 k hk hz=>(heap_set3 (by omega) v0 v1 v2).trans (hFf.frm k (by omega) hz)
        clear hFf hbf FA
        go_wp2_with fail
        exact bodyPost_ret (v:=.agg #[.int .i64 13,.int .i64 (p:Int),.int .i64 ((a:Int)+1)]) (by simp[results,Tryz.results44,go_sem,r0,r1,r2,lf]) rfl ⟨.inl ⟨13,(a+1),SD.out,rfl,BB.out _ _ _⟩,FRB.out _ _ _⟩
       ·have FIN:Hid (∀ z,(match allM (jumpL ⟨(op:Int),fa,fb,fc,fd⟩ ⟨ty,gl⟩ T G) σ2 with | .inl y=>(Sum.inl (13,y):(Int×Nat) ⊕ Mst) | .inr σ'=>.inr σ')=z→stepT l ⟨(op:Int),fa,fb,fc,fd⟩ a σ ⟨ty,gl⟩=z):=fun z hz=>GO.out.trans ((step_one (.inl ⟨gon,hone⟩)).trans hz)
        have SM:∀ k,k<w5.heap.size→(k≠bV∧k≠bS∧iv.ownBlock≠some k)→w6.heap[k]? = w5.heap[k]?:=fun k hk hP=>hF6.same k hk hP.1 hP.2.1 hP.2.2
        have PF:∀ k,bF≤k→k≠bV∧k≠bS∧iv.ownBlock≠some k:=fun k hk=>⟨(AV.out k hk).1,(AV.out k hk).2.1,(AV.out k hk).2.2.1⟩
        have HF6:=hide (HF5.out.frame _ SM (PF bF (Nat.le_refl _)) (PF bX (by omega)) (PF bA (by omega)) (fun k e=>(ROWS.out k (.inl e)).2) (fun k e=>(ROWS.out k (.inr e)).2) (fun k _ h=>h))
        have HV6:=hide hV6
        have HT6:=hide (HT5.out.frame _ SM (fun k h1 _=>PF k (by omega)))
        have HG6:=hide (HG5.out.sameBlock (fun k e=>SM k (HG5.out.lt' k e).2 (PF k (by have:=(HG5.out.lt' k e).1;omega))))
        have AV2:Hid (∀ k,bF≤k→k<w5.heap.size→k≠bV∧k≠bS∧iv2.ownBlock≠some k∧∀ i,i<N→(R2 i).1.ownBlock≠some k∧(R2 i).2.ownBlock≠some k):=fun k hk hk2=>by
         obtain⟨n1,n2,n3,n4⟩:=AV.out k hk
         exact⟨n1,n2,fun e=>(hF6.new k e).elim n3 (fun h=>by omega),fun i hi=>⟨fun e=>((hF6.rows i k hi).1 e).elim (n4 i hi).1 (fun h=>by omega),fun e=>((hF6.rows i k hi).2 e).elim (n4 i hi).2 (fun h=>by omega)⟩⟩
        have HM2:Hid (MOk ty.length N σ2):=oneM_ok (R:=ty.length) ⟨HFIT.out.inf.next gon,by show T.length=_;rw[←TT.out];exact htn.trans TN.out,GL.out.1,GL.out.2⟩ HM.out hone
        have NEWI:Hid (∀ k,iv2.ownBlock=some k→iv.ownBlock=some k∨bF≤k):=fun k e=>(hF6.new k e).imp_right (fun h=>by have:=BLF.out;omega)
        clear SM PF hF6 hV6 hone RC d0 lbt gon
        have TG:Hid (Calls Tryz.prog 86 #[.agg #[.int .i64 (op:Int),.int .i64 fa,.int .i64 fb,.int .i64 fc,.int .i64 fd]] w6 (TgPost ⟨(op:Int),fa,fb,fc,fd⟩ w6)):=target_any op fa fb fc fd w6 (HG.out.keep HV6.out.old HG.out.pos) h43
        obtain⟨⟨i0,i1,i2,i3,i4⟩,⟨s0,s1,s2⟩,lF,lX,lA⟩:=HF6.out.cells
        dsimp only at i0 i1 i2 i3 i4
        go_wp2_with fail
        refine(unhide TG).mono ?_
        rintro e w7 ⟨rfl,hb7⟩
        have HF7:=hide (HF6.out.below hb7)
        have HV7:=hide (HV6.out.below hb7)
        have HT7:=hide (HT6.out.below hb7)
        have HG7:=hide (HG6.out.below hb7)
        have hb7s:=hb7.size
        clear hb7 TG
        clear i0 i1 i2 i3 i4 s0 s1 s2 lF lX lA
        cases htg:targT ⟨(op:Int),fa,fb,fc,fd⟩with
        | none=>
         have SD:Hid (stepT l ⟨(op:Int),fa,fb,fc,fd⟩ a σ ⟨ty,gl⟩=.inr σ2):=FIN.out _ (jump_none htg)
         have ROW:=HF7.out.res
         have r0:=ROW.cell (i:=0) (by omega);have r1:=ROW.cell (i:=1) (by omega);have r2:=ROW.cell (i:=2) (by omega)
         have z0:=ROW.frozen 0;have z1:=ROW.frozen 1;have z2:=ROW.frozen 2
         have lf:=ROW.lt
         have ZV:Hid (∀ v0 v1 v2,VfW w bV bS bT H N σ2 R2 iv2 l2 (((w7.setCell ⟨bF,0,none⟩ v0).setCell ⟨bF,1,none⟩ v1).setCell ⟨bF,2,none⟩ v2)):=fun v0 v1 v2=>by
          obtain⟨n1,n2,n3,n4⟩:=(unhide AV2 bF (Nat.le_refl _) BLF.out)
          exact((HV7.out.other bF 0 v0 LOB.out n1 n2 n3 n4).other bF 1 v1 LOB.out n1 n2 n3 n4).other bF 2 v2 LOB.out n1 n2 n3 n4
         have FRB:Hid (∀ v0 v1 v2 k,k<wr.heap.size→offV bV bS iv k→(((w7.setCell ⟨bF,0,none⟩ v0).setCell ⟨bF,1,none⟩ v1).setCell ⟨bF,2,none⟩ v2).heap[k]? = wr.heap[k]?):=fun v0 v1 v2 k hk hz=>(heap_set3 (by omega) v0 v1 v2).trans (HF7.out.frm k (by omega) hz)
         have NWB:Hid (∀ k,iv2.ownBlock=some k→iv.ownBlock=some k∨wr.heap.size≤k):=(fun k e=>(NEWI.out k e).imp_right (fun h=>by omega))
         clear ROW htg
         go_wp2_with fail
         exact bodyPost_ret (v:=.agg #[.int .i64 0,.int .i64 0,.int .i64 0]) (by simp[results,Tryz.results44,go_sem,r0,r1,r2,lf]) rfl ⟨.inr ⟨σ2,R2,iv2,l2,SD.out,rfl,ZV.out _ _ _,NWB.out⟩,FRB.out _ _ _⟩
        | some y=>
         obtain⟨hy0,hyN⟩:=HFIT.out.targ y htg
         obtain⟨yn,rfl⟩:=Int.eq_ofNat_of_zero_le hy0
         have hyN:yn<N:=hyN
         have htg:=hide htg
         clear hy0
         obtain⟨⟨i0,i1,i2,i3,i4⟩,⟨s0,s1,s2⟩,lF,lX,lA⟩:=HF7.out.cells
         dsimp only at i0 i1 i2 i3 i4
         obtain⟨d0,d1,d2,d3,d4⟩:=HT7.out.cells
         have lbt:=HT7.out.row.lt
         have zbt:=HT7.out.row.frozen 0
         clear d1 d2 d3 d4
         go_upto_block 0 with fail
         go_cut [8] (fun s8 wx=>∃(ta ga:Option Addr) (tc gc:Nat) (J:StD),s8=.slice ga J.guards.length gc∧Hid (jumpSt ⟨(op:Int),fa,fb,fc,fd⟩ ⟨ty,gl⟩ T G=J)∧wx.cell? ⟨bt,0,none⟩=some (.slice ta J.types.length tc)∧bt<wx.heap.size∧Hid (IntsAt wx (fun b=>b<wx.heap.size) ta J.types)∧Hid (GusAt wx (fun b=>b<wx.heap.size) ga J.guards)∧Hid (VfW w bV bS bT H N σ2 R2 iv2 l2 wx)∧Hid (StF wr (offV bV bS iv) bT bF bX bA ⟨(op:Int),fa,fb,fc,fd⟩ ⟨ty,gl⟩ (.slice a1 ty.length c1) (.slice a2 gl.length c2) wx)∧J.types.length≤1000∧J.guards.length≤1000)
         case first=>
          by_cases c31:op=31
          ·have hb31:((op:Int)==31)=true:=by simp;omega
           obtain⟨hfb0,hfb2⟩:=HFIT.out.try_ (by show(op:Int)=31;omega)
           obtain⟨K,hK⟩:=Int.eq_ofNat_of_zero_le hfb0
           dsimp only at hK hfb0 hfb2
           have hfb2:K+2≤ty.length:=by omega
           have HTY:Hid (∀ W,Below w7.heap.size w7 W→Calls Tryz.prog 87 #[.slice a1 ty.length c1,.int .i64 fb] W (OwnRet (handC ⟨(op:Int),fa,fb,fc,fd⟩ ty) W)):=fun W hW=>by
            have key:=handlerTypes_any ⟨(op:Int),fa,fb,fc,fd⟩ K hK a1 ty c1 (fun b=>b<W.heap.size) W (HF7.out.below hW).ty.intsAt (fun b h=>h) hR0 (HF7.out.ty.cap) hfb2
            have hK':fb=(K:Int):=hK
            rw[←hK']at key
            exact key
           have CL:Hid (∀ W,Below w7.heap.size w7 W→W.cell? ⟨bA,1,none⟩=some (.slice a1 ty.length c1)∧W.cell? ⟨bA,2,none⟩=some (.slice a2 gl.length c2)∧W.cell? ⟨bX,2,none⟩=some (.int .i64 fb)∧W.cell? ⟨bt,0,none⟩=some (.slice va tn vc)∧W.frozen? ⟨bt,0,none⟩=false∧bt<W.heap.size∧bA<W.heap.size∧bX<W.heap.size):=fun W hW=>⟨(hW.cell (p:=⟨bA,1,none⟩) lA).trans s1,(hW.cell (p:=⟨bA,2,none⟩) lA).trans s2,(hW.cell (p:=⟨bX,2,none⟩) lX).trans i2,(hW.cell (p:=⟨bt,0,none⟩) lbt).trans d0,(hW.frozen (p:=⟨bt,0,none⟩) lbt).trans zbt,Nat.lt_of_lt_of_le lbt hW.size,Nat.lt_of_lt_of_le lA hW.size,Nat.lt_of_lt_of_le lX hW.size⟩
           have hhl:(handC ⟨(op:Int),fa,fb,fc,fd⟩ ty).length=ty.length:=handC_len _ _ (by show fb.toNat≤_;omega)
           have FINI:Hid (∀(ha:Option Addr) (hc:Nat) (W:World),Below w7.heap.size w7 W→OwnI W w7.heap.size (.slice ha (handC ⟨(op:Int),fa,fb,fc,fd⟩ ty).length hc) (handC ⟨(op:Int),fa,fb,fc,fd⟩ ty)→∃(ta ga:Option Addr) (tc gc:Nat) (J:StD),Value.slice a2 gl.length c2=.slice ga J.guards.length gc∧Hid (jumpSt ⟨(op:Int),fa,fb,fc,fd⟩ ⟨ty,gl⟩ T G=J)∧(W.setCell ⟨bt,0,none⟩ (.slice ha (handC ⟨(op:Int),fa,fb,fc,fd⟩ ty).length hc)).cell? ⟨bt,0,none⟩=some (.slice ta J.types.length tc)∧bt<(W.setCell ⟨bt,0,none⟩ (.slice ha (handC ⟨(op:Int),fa,fb,fc,fd⟩ ty).length hc)).heap.size∧Hid (IntsAt (W.setCell ⟨bt,0,none⟩ (.slice ha (handC ⟨(op:Int),fa,fb,fc,fd⟩ ty).length hc)) (fun b=>b<(W.setCell ⟨bt,0,none⟩ (.slice ha (handC ⟨(op:Int),fa,fb,fc,fd⟩ ty).length hc)).heap.size) ta J.types)∧Hid (GusAt (W.setCell ⟨bt,0,none⟩ (.slice ha (handC ⟨(op:Int),fa,fb,fc,fd⟩ ty).length hc)) (fun b=>b<(W.setCell ⟨bt,0,none⟩ (.slice ha (handC ⟨(op:Int),fa,fb,fc,fd⟩ ty).length hc)).heap.size) ga J.guards)∧Hid (VfW w bV bS bT H N σ2 R2 iv2 l2 (W.setCell ⟨bt,0,none⟩ (.slice ha (handC ⟨(op:Int),fa,fb,fc,fd⟩ ty).length hc)))∧Hid (StF wr (offV bV bS iv) bT bF bX bA ⟨(op:Int),fa,fb,fc,fd⟩ ⟨ty,gl⟩ (.slice a1 ty.length c1) (.slice a2 gl.length c2) (W.setCell ⟨bt,0,none⟩ (.slice ha (handC ⟨(op:Int),fa,fb,fc,fd⟩ ty).length hc)))∧J.types.length≤1000∧J.guards.length≤1000):=fun ha hc W hW hO=>by
            obtain⟨n1,n2,n3,n4⟩:=unhide AV2 bt BLT.out.1 BLT.out.2
            have hF8:StF wr (offV bV bS iv) bT bF bX bA ⟨(op:Int),fa,fb,fc,fd⟩ ⟨ty,gl⟩ (.slice a1 ty.length c1) (.slice a2 gl.length c2) (W.setCell ⟨bt,0,none⟩ (.slice ha (handC ⟨(op:Int),fa,fb,fc,fd⟩ ty).length hc)):=(HF7.out.below hW).frame (fun k=>k≠bt) (fun k _ hk=>heap_setCell_other W ⟨bt,0,none⟩ k _ hk) NBT.out.1 NBT.out.2.1 NBT.out.2.2.1 NBT.out.2.2.2.1 NBT.out.2.2.2.2 (fun k hk _=>by have:=BLT.out.1;omega)
            obtain⟨_,_,_,g4,_,g6,_,_⟩:=CL.out W hW
            exact⟨ha,a2,hc,c2,⟨handC ⟨(op:Int),fa,fb,fc,fd⟩ ty,gl⟩,rfl,(by show jumpSt _ _ _ _=_;unfold jumpSt;rw[if_pos (by show(op:Int)=31;omega)]),(World.cell?_setCell_same W _ _ (by first | exact g4 | (rw[g4];rfl))),(by simpa using g6),(hO.setOther lbt).intsAt,hF8.gu.gusAt,(HV7.out.below hW).other bt 0 _ (Nat.le_trans LOB.out BLT.out.1) n1 n2 n3 n4,hF8,(by show(handC _ ty).length≤_;rw[hhl];omega),(by show gl.length≤1000;omega)⟩
           clear hK hfb0 hfb2 c31 hhl
           go_upto_region 17 with fail
           go_region_with (go_at_call 87;refine(unhide HTY _ (by exact(Below.refl _ _).drew)).mono ?_;rintro e w8 ⟨hv,rfl,hhv,hb8⟩;obtain⟨ha,hc,rfl⟩:=hhv.lenV;obtain⟨g1,g2,g3,g4,g5,g6,g7,g8⟩:=unhide CL w8 ((Below.refl _ _).drew.trans hb8))
           all_goals (go_wp2_with fail)
           all_goals go_meet
           all_goals exact FINI.out _ _ _ ((Below.refl _ _).drew.trans hb8) hhv
          ·have hb31:((op:Int)==31)=false:=by simp;omega
           by_cases c41:op=41
           ·have hb41:((op:Int)==41)=true:=by simp;omega
            obtain⟨hfc0,hfc1⟩:=HFIT.out.each (by show(op:Int)=41;omega)
            dsimp only at hfc0 hfc1
            obtain⟨C,rfl⟩:=Int.eq_ofNat_of_zero_le hfc0
            have hC:C<ty.length:=by omega
            have hCT:(C:Int)<tn:=by have:=TN.out;omega
            obtain⟨tg,tcap,eTV,_,htg2,htc⟩:=HT7.out.ty.at (by have:=TN.out;have:=TN3.out;omega)
            injection eTV with e4 e5 e6
            subst e4
            have ct:=htc C (by have:=TN.out;have:=TN3.out;omega)
            have zt:=HT7.out.ty.frozen TN3.out C
            obtain⟨rg,rcap,eRV,_,hrg2,hrc⟩:=HF7.out.ty.at (by show 0<ty.length;omega)
            injection eRV with f4 f5 f6
            subst f4
            have cr:w7.cell? ⟨rg,C,none⟩=some (.int .i64 (ty[C]?.getD 0)):=hrc C hC
            have ntg:tg≠bt:=fun e=>HT7.out.bt0 (by rw[←e];rfl)
            have FINI:Hid (∃(ta ga:Option Addr) (tc gc:Nat) (J:StD),Value.slice a5 G.length c5=.slice ga J.guards.length gc∧Hid (jumpSt ⟨(op:Int),fa,fb,(C:Int),fd⟩ ⟨ty,gl⟩ T G=J)∧(w7.drew.setCell ⟨tg,C,none⟩ (.int .i64 (ty[C]?.getD 0))).cell? ⟨bt,0,none⟩=some (.slice ta J.types.length tc)∧bt<(w7.drew.setCell ⟨tg,C,none⟩ (.int .i64 (ty[C]?.getD 0))).heap.size∧Hid (IntsAt (w7.drew.setCell ⟨tg,C,none⟩ (.int .i64 (ty[C]?.getD 0))) (fun b=>b<(w7.drew.setCell ⟨tg,C,none⟩ (.int .i64 (ty[C]?.getD 0))).heap.size) ta J.types)∧Hid (GusAt (w7.drew.setCell ⟨tg,C,none⟩ (.int .i64 (ty[C]?.getD 0))) (fun b=>b<(w7.drew.setCell ⟨tg,C,none⟩ (.int .i64 (ty[C]?.getD 0))).heap.size) ga J.guards)∧Hid (VfW w bV bS bT H N σ2 R2 iv2 l2 (w7.drew.setCell ⟨tg,C,none⟩ (.int .i64 (ty[C]?.getD 0))))∧Hid (StF wr (offV bV bS iv) bT bF bX bA ⟨(op:Int),fa,fb,(C:Int),fd⟩ ⟨ty,gl⟩ (.slice (some ⟨rg,0,none⟩) ty.length c1) (.slice a2 gl.length c2) (w7.drew.setCell ⟨tg,C,none⟩ (.int .i64 (ty[C]?.getD 0))))∧J.types.length≤1000∧J.guards.length≤1000):=by
             obtain⟨n1,n2,n3,n4⟩:=unhide AV2 tg (BLG.out tg rfl).1 (BLG.out tg rfl).2
             have bd:Below w7.heap.size w7 w7.drew:=(Below.refl _ _).drew
             have hk:∀ k,k≠tg→(w7.drew.setCell ⟨tg,C,none⟩ (.int .i64 (ty[C]?.getD 0))).heap[k]? = w7.heap[k]?:=fun k hk=>heap_setCell_other w7.drew ⟨tg,C,none⟩ k _ hk
             have hT8:=((HT7.out.below bd).setType TN3.out C (ty[C]?.getD 0)).ty
             change OwnI _ _ _ ((touchT l ⟨(op:Int),fa,fb,(C:Int),fd⟩ ty).types.set C (ty[C]?.getD 0))at hT8
             have hTl:(T.set C (ty[C]?.getD 0)).length=tn:=by rw[List.length_set,←TT.out];exact TN3.out.symm
             rw[TT.out]at hT8
             have hG8:OwnG (w7.drew.setCell ⟨tg,C,none⟩ (.int .i64 (ty[C]?.getD 0))) GB (.slice a5 G.length c5) G:=HG7.out.sameBlock (fun k e=>hk k (fun e2=>by have:=GBT.out tg rfl;have:=(HG7.out.lt' k e).1;omega))
             exact⟨some ⟨tg,0,none⟩,a5,vc,c5,⟨T.set C (ty[C]?.getD 0),G⟩,rfl,(by show jumpSt _ _ _ _=_;unfold jumpSt;rw[if_neg (by show ¬(op:Int)=31;omega),if_pos (by show(op:Int)=41;omega)];rfl),(by rw[World.cell?_of_block (a:=⟨bt,0,none⟩) (hk bt (fun e=>ntg e.symm)),d0,hTl]),(by simpa using lbt),hT8.intsAt,hG8.gusAt,(HV7.out.below bd).other tg C _ (Nat.le_trans LOB.out (BLG.out tg rfl).1) n1 n2 n3 n4,HF7.out.frame (fun k=>k≠tg) (fun k _ h=>hk k h) (NTG.out tg rfl).1 (NTG.out tg rfl).2.1 (NTG.out tg rfl).2.2.1 (NTG.out tg rfl).2.2.2.1 (NTG.out tg rfl).2.2.2.2 (fun k hk _=>by have:=(BLG.out tg rfl).1;omega),(by show(T.set C _).length≤1000;have:=TN.out;omega),(by show G.length≤1000;have:=GL.out.1;omega)⟩
            generalize (touchT l ⟨(op:Int),fa,fb,(C:Int),fd⟩ ty).types[C]?.getD 0=ov at ct
            generalize ty[C]?.getD 0=yC at cr FINI
            clear htc hrc e5 e6 f5 f6 hfc0 c31 c41 ntg
            go_upto_region 19 with fail
            go_region
            all_goals (go_wp2_with fail)
            all_goals go_meet
            all_goals exact FINI.out
           ·have hb41:((op:Int)==41)=false:=by simp;omega
            have FINI:Hid (∃(ta ga:Option Addr) (tc gc:Nat) (J:StD),Value.slice a5 G.length c5=.slice ga J.guards.length gc∧Hid (jumpSt ⟨(op:Int),fa,fb,fc,fd⟩ ⟨ty,gl⟩ T G=J)∧w7.cell? ⟨bt,0,none⟩=some (.slice ta J.types.length tc)∧bt<w7.heap.size∧Hid (IntsAt w7 (fun b=>b<w7.heap.size) ta J.types)∧Hid (GusAt w7 (fun b=>b<w7.heap.size) ga J.guards)∧Hid (VfW w bV bS bT H N σ2 R2 iv2 l2 w7)∧Hid (StF wr (offV bV bS iv) bT bF bX bA ⟨(op:Int),fa,fb,fc,fd⟩ ⟨ty,gl⟩ (.slice a1 ty.length c1) (.slice a2 gl.length c2) w7)∧J.types.length≤1000∧J.guards.length≤1000):=by
             have hTl:T.length=tn:=by rw[←TT.out];exact TN3.out.symm
             have hT8:=HT7.out.ty
             rw[TT.out]at hT8
             exact⟨va,a5,vc,c5,⟨T,G⟩,rfl,(by show jumpSt _ _ _ _=_;unfold jumpSt;rw[if_neg (by show ¬(op:Int)=31;omega),if_neg (by show ¬(op:Int)=41;omega)]),(by rw[d0,hTl]),lbt,hT8.intsAt,HG7.out.gusAt,HV7.out,HF7.out,(by show T.length≤1000;have:=TN.out;omega),(by show G.length≤1000;have:=GL.out.1;omega)⟩
            clear c31 c41
            go_wp2_with fail
            go_meet
            exact FINI.out
         case rest=>
          obtain⟨ta,ga,tc,gc,J,rfl,HJ,cB,lB,HIA,HGA,HV8,HF8,hJ1,hJ2⟩:=hcut
          clear i0 i1 i2 i3 i4 s0 s1 s2 lF lX lA
          clear d0 zbt lbt
          have RC:Hid (Calls Tryz.prog 42 #[.pointer (some ⟨bV,0,none⟩),.int .i64 (yn:Int),.slice ta J.types.length tc,.slice ga J.guards.length gc] wc (RcPost w bV bS bT H N σ2 R2 iv2 yn J wc)):=reach_any w bV bS bT H N ty.length σ2 R2 iv2 l2 yn J ta ga tc gc (fun b=>b<wc.heap.size) wc HV8.out HVB.out HM2.out hyN hN hR0 HIA.out HGA.out (fun b h=>h) hJ1 hJ2
          go_wp2_with fail
          refine(unhide RC).mono ?_
          rintro e w9 (⟨hone,rfl,hb9⟩ | ⟨σ3,R3,iv3,l3,hone,rfl,hV9,hF9⟩)
          ·have SD:Hid (stepT l ⟨(op:Int),fa,fb,fc,fd⟩ a σ ⟨ty,gl⟩=.inl (13,yn)):=FIN.out _ (jump_bad htg.out (by rw[HJ.out];exact hone))
           have HF9:=hide (HF8.out.below hb9)
           have HV9:=hide (HV8.out.below hb9)
           clear hone hb9 RC cB lB
           have FA:Hid (Calls Tryz.prog 47 #[.pointer (some ⟨bV,0,none⟩),.int .i64 13,.int .i64 (yn:Int)] w9 fun e w'=>e=.returned (.agg #[.int .i64 13,.int .i64 (p:Int),.int .i64 (yn:Int)])∧Below w9.heap.size w9 w'):=fault_any bV p 13 (yn:Int) w9 ((HV9.out.box.cell (i:=1) (by omega)).trans (congrArg some H1.out))
           go_wp2_with fail
           refine(unhide FA).mono ?_
           rintro e wf ⟨rfl,hbf⟩
           have hFf:=HF9.out.below hbf
           have BO:Hid (Below w.heap.size w wf):=HV9.out.old.trans (hbf.mono HV9.out.old.size)
           have r0:=hFf.res.cell (i:=0) (by omega);have r1:=hFf.res.cell (i:=1) (by omega);have r2:=hFf.res.cell (i:=2) (by omega)
           have z0:=hFf.res.frozen 0;have z1:=hFf.res.frozen 1;have z2:=hFf.res.frozen 2
           have lf:=hFf.res.lt
           have BB:Hid (∀ v0 v1 v2,Below w.heap.size w (((wf.setCell ⟨bF,0,none⟩ v0).setCell ⟨bF,1,none⟩ v1).setCell ⟨bF,2,none⟩ v2)):=fun v0 v1 v2=>set3_old BO.out LOB.out v0 v1 v2
           have FRB:Hid (∀ v0 v1 v2 k,k<wr.heap.size→offV bV bS iv k→(((wf.setCell ⟨bF,0,none⟩ v0).setCell ⟨bF,1,none⟩ v1).setCell ⟨bF,2,none⟩ v2).heap[k]? = wr.heap[k]?):=fun v0 v1 v2 k hk hz=>(heap_set3 (by omega) v0 v1 v2).trans (hFf.frm k (by omega) hz)
           clear hFf hbf FA
           go_wp2_with fail
           exact bodyPost_ret (v:=.agg #[.int .i64 13,.int .i64 (p:Int),.int .i64 (yn:Int)]) (by simp[results,Tryz.results44,go_sem,r0,r1,r2,lf]) rfl ⟨.inl ⟨13,yn,SD.out,rfl,BB.out _ _ _⟩,FRB.out _ _ _⟩
          ·have SD:Hid (stepT l ⟨(op:Int),fa,fb,fc,fd⟩ a σ ⟨ty,gl⟩=.inr σ3):=FIN.out _ (jump_ok htg.out (by rw[HJ.out];exact hone))
           have lFw:=HF8.out.res.lt
           obtain⟨n1,n2,n3,n4⟩:=(unhide AV2 bF (Nat.le_refl _) BLF.out)
           have ROW:=HF8.out.res.of_block (hF9.same bF lFw n1 n2 n3)
           have AV3:bF≠bV∧bF≠bS∧iv3.ownBlock≠some bF∧∀ i,i<N→(R3 i).1.ownBlock≠some bF∧(R3 i).2.ownBlock≠some bF:=⟨n1,n2,fun e=>(hF9.new bF e).elim n3 (fun h=>by omega),fun i hi=>⟨fun e=>((hF9.rows i bF hi).1 e).elim (n4 i hi).1 (fun h=>by omega),fun e=>((hF9.rows i bF hi).2 e).elim (n4 i hi).2 (fun h=>by omega)⟩⟩
           have FR9:∀ k,k<bF→offV bV bS iv k→w9.heap[k]? = wr.heap[k]?:=fun k hk hz=>(hF9.same k (by omega) hz.1 hz.2.1 (fun e=>(NEWI.out k e).elim hz.2.2 (fun h=>by omega))).trans (HF8.out.frm k hk hz)
           have HV9:=hide hV9
           have r0:=ROW.cell (i:=0) (by omega);have r1:=ROW.cell (i:=1) (by omega);have r2:=ROW.cell (i:=2) (by omega)
           have z0:=ROW.frozen 0;have z1:=ROW.frozen 1;have z2:=ROW.frozen 2
           have lf:=ROW.lt
           have ZV:Hid (∀ v0 v1 v2,VfW w bV bS bT H N σ3 R3 iv3 l3 (((w9.setCell ⟨bF,0,none⟩ v0).setCell ⟨bF,1,none⟩ v1).setCell ⟨bF,2,none⟩ v2)):=fun v0 v1 v2=>by
            obtain⟨n1,n2,n3,n4⟩:=AV3
            exact((HV9.out.other bF 0 v0 LOB.out n1 n2 n3 n4).other bF 1 v1 LOB.out n1 n2 n3 n4).other bF 2 v2 LOB.out n1 n2 n3 n4
           have FRB:Hid (∀ v0 v1 v2 k,k<wr.heap.size→offV bV bS iv k→(((w9.setCell ⟨bF,0,none⟩ v0).setCell ⟨bF,1,none⟩ v1).setCell ⟨bF,2,none⟩ v2).heap[k]? = wr.heap[k]?):=fun v0 v1 v2 k hk hz=>(heap_set3 (by omega) v0 v1 v2).trans (FR9 k (by omega) hz)
           have NWB:Hid (∀ k,iv3.ownBlock=some k→iv.ownBlock=some k∨wr.heap.size≤k):=(fun k e=>(hF9.new k e).elim (fun e=>(NEWI.out k e).imp_right (fun h=>by omega)) (fun h=>.inr (by omega)))
           clear ROW AV3 hV9 hF9 hone n1 n2 n3 n4 lFw RC cB lB FR9
           go_wp2_with fail
           exact bodyPost_ret (v:=.agg #[.int .i64 0,.int .i64 0,.int .i64 0]) (by simp[results,Tryz.results44,go_sem,r0,r1,r2,lf]) rfl ⟨.inr ⟨σ3,R3,iv3,l3,SD.out,rfl,ZV.out _ _ _,NWB.out⟩,FRB.out _ _ _⟩
      | false=>
       have gon:goesC ⟨(op:Int),fa,fb,fc,fd⟩=false:=hgo
       have FIN:Hid (∀ z,(match allM (jumpL ⟨(op:Int),fa,fb,fc,fd⟩ ⟨ty,gl⟩ T G) σ with | .inl y=>(Sum.inl (13,y):(Int×Nat) ⊕ Mst) | .inr σ'=>.inr σ')=z→stepT l ⟨(op:Int),fa,fb,fc,fd⟩ a σ ⟨ty,gl⟩=z):=fun z hz=>GO.out.trans ((step_one (.inr ⟨gon,rfl⟩)).trans hz)
       have HF6:=HF5
       have HV6:=HV5
       have HT6:=HT5
       have HG6:=HG5
       have AV2:Hid (∀ k,bF≤k→k<w5.heap.size→k≠bV∧k≠bS∧iv.ownBlock≠some k∧∀ i,i<N→(R i).1.ownBlock≠some k∧(R i).2.ownBlock≠some k):=fun k hk _=>AV.out k hk
       have HM2:=HM
       have NEWI:Hid (∀ k,iv.ownBlock=some k→iv.ownBlock=some k∨bF≤k):=fun k e=>.inl e
       clear gon hgo
       have TG:Hid (Calls Tryz.prog 86 #[.agg #[.int .i64 (op:Int),.int .i64 fa,.int .i64 fb,.int .i64 fc,.int .i64 fd]] w5 (TgPost ⟨(op:Int),fa,fb,fc,fd⟩ w5)):=target_any op fa fb fc fd w5 (HG.out.keep HV6.out.old HG.out.pos) h43
       obtain⟨⟨i0,i1,i2,i3,i4⟩,⟨s0,s1,s2⟩,lF,lX,lA⟩:=HF6.out.cells
       dsimp only at i0 i1 i2 i3 i4
       go_wp2_with fail
       refine(unhide TG).mono ?_
       rintro e w7 ⟨rfl,hb7⟩
       have HF7:=hide (HF6.out.below hb7)
       have HV7:=hide (HV6.out.below hb7)
       have HT7:=hide (HT6.out.below hb7)
       have HG7:=hide (HG6.out.below hb7)
       have hb7s:=hb7.size
       clear hb7 TG
       clear i0 i1 i2 i3 i4 s0 s1 s2 lF lX lA
       cases htg:targT ⟨(op:Int),fa,fb,fc,fd⟩with
       | none=>
        have SD:Hid (stepT l ⟨(op:Int),fa,fb,fc,fd⟩ a σ ⟨ty,gl⟩=.inr σ):=FIN.out _ (jump_none htg)
        have ROW:=HF7.out.res
        have r0:=ROW.cell (i:=0) (by omega);have r1:=ROW.cell (i:=1) (by omega);have r2:=ROW.cell (i:=2) (by omega)
        have z0:=ROW.frozen 0;have z1:=ROW.frozen 1;have z2:=ROW.frozen 2
        have lf:=ROW.lt
        have ZV:Hid (∀ v0 v1 v2,VfW w bV bS bT H N σ R iv li (((w7.setCell ⟨bF,0,none⟩ v0).setCell ⟨bF,1,none⟩ v1).setCell ⟨bF,2,none⟩ v2)):=fun v0 v1 v2=>by
         obtain⟨n1,n2,n3,n4⟩:=(unhide AV2 bF (Nat.le_refl _) BLF.out)
         exact((HV7.out.other bF 0 v0 LOB.out n1 n2 n3 n4).other bF 1 v1 LOB.out n1 n2 n3 n4).other bF 2 v2 LOB.out n1 n2 n3 n4
        have FRB:Hid (∀ v0 v1 v2 k,k<wr.heap.size→offV bV bS iv k→(((w7.setCell ⟨bF,0,none⟩ v0).setCell ⟨bF,1,none⟩ v1).setCell ⟨bF,2,none⟩ v2).heap[k]? = wr.heap[k]?):=fun v0 v1 v2 k hk hz=>(heap_set3 (by omega) v0 v1 v2).trans (HF7.out.frm k (by omega) hz)
        have NWB:Hid (∀ k,iv.ownBlock=some k→iv.ownBlock=some k∨wr.heap.size≤k):=(fun k e=>(NEWI.out k e).imp_right (fun h=>by omega))
        clear ROW htg
        go_wp2_with fail
        exact bodyPost_ret (v:=.agg #[.int .i64 0,.int .i64 0,.int .i64 0]) (by simp[results,Tryz.results44,go_sem,r0,r1,r2,lf]) rfl ⟨.inr ⟨σ,R,iv,li,SD.out,rfl,ZV.out _ _ _,NWB.out⟩,FRB.out _ _ _⟩
       | some y=>
        obtain⟨hy0,hyN⟩:=HFIT.out.targ y htg
        obtain⟨yn,rfl⟩:=Int.eq_ofNat_of_zero_le hy0
        have hyN:yn<N:=hyN
        have htg:=hide htg
        clear hy0
        obtain⟨⟨i0,i1,i2,i3,i4⟩,⟨s0,s1,s2⟩,lF,lX,lA⟩:=HF7.out.cells
        dsimp only at i0 i1 i2 i3 i4
        obtain⟨d0,d1,d2,d3,d4⟩:=HT7.out.cells
        have lbt:=HT7.out.row.lt
        have zbt:=HT7.out.row.frozen 0
        clear d1 d2 d3 d4
        go_upto_block 0 with fail
        go_cut [8] (fun s8 wx=>∃(ta ga:Option Addr) (tc gc:Nat) (J:StD),s8=.slice ga J.guards.length gc∧Hid (jumpSt ⟨(op:Int),fa,fb,fc,fd⟩ ⟨ty,gl⟩ T G=J)∧wx.cell? ⟨bt,0,none⟩=some (.slice ta J.types.length tc)∧bt<wx.heap.size∧Hid (IntsAt wx (fun b=>b<wx.heap.size) ta J.types)∧Hid (GusAt wx (fun b=>b<wx.heap.size) ga J.guards)∧Hid (VfW w bV bS bT H N σ R iv li wx)∧Hid (StF wr (offV bV bS iv) bT bF bX bA ⟨(op:Int),fa,fb,fc,fd⟩ ⟨ty,gl⟩ (.slice a1 ty.length c1) (.slice a2 gl.length c2) wx)∧J.types.length≤1000∧J.guards.length≤1000)
        case first=>
         by_cases c31:op=31
         ·have hb31:((op:Int)==31)=true:=by simp;omega
          obtain⟨hfb0,hfb2⟩:=HFIT.out.try_ (by show(op:Int)=31;omega)
          obtain⟨K,hK⟩:=Int.eq_ofNat_of_zero_le hfb0
          dsimp only at hK hfb0 hfb2
          have hfb2:K+2≤ty.length:=by omega
          have HTY:Hid (∀ W,Below w7.heap.size w7 W→Calls Tryz.prog 87 #[.slice a1 ty.length c1,.int .i64 fb] W (OwnRet (handC ⟨(op:Int),fa,fb,fc,fd⟩ ty) W)):=fun W hW=>by
           have key:=handlerTypes_any ⟨(op:Int),fa,fb,fc,fd⟩ K hK a1 ty c1 (fun b=>b<W.heap.size) W (HF7.out.below hW).ty.intsAt (fun b h=>h) hR0 (HF7.out.ty.cap) hfb2
           have hK':fb=(K:Int):=hK
           rw[←hK']at key
           exact key
          have CL:Hid (∀ W,Below w7.heap.size w7 W→W.cell? ⟨bA,1,none⟩=some (.slice a1 ty.length c1)∧W.cell? ⟨bA,2,none⟩=some (.slice a2 gl.length c2)∧W.cell? ⟨bX,2,none⟩=some (.int .i64 fb)∧W.cell? ⟨bt,0,none⟩=some (.slice va tn vc)∧W.frozen? ⟨bt,0,none⟩=false∧bt<W.heap.size∧bA<W.heap.size∧bX<W.heap.size):=fun W hW=>⟨(hW.cell (p:=⟨bA,1,none⟩) lA).trans s1,(hW.cell (p:=⟨bA,2,none⟩) lA).trans s2,(hW.cell (p:=⟨bX,2,none⟩) lX).trans i2,(hW.cell (p:=⟨bt,0,none⟩) lbt).trans d0,(hW.frozen (p:=⟨bt,0,none⟩) lbt).trans zbt,Nat.lt_of_lt_of_le lbt hW.size,Nat.lt_of_lt_of_le lA hW.size,Nat.lt_of_lt_of_le lX hW.size⟩
          have hhl:(handC ⟨(op:Int),fa,fb,fc,fd⟩ ty).length=ty.length:=handC_len _ _ (by show fb.toNat≤_;omega)
          have FINI:Hid (∀(ha:Option Addr) (hc:Nat) (W:World),Below w7.heap.size w7 W→OwnI W w7.heap.size (.slice ha (handC ⟨(op:Int),fa,fb,fc,fd⟩ ty).length hc) (handC ⟨(op:Int),fa,fb,fc,fd⟩ ty)→∃(ta ga:Option Addr) (tc gc:Nat) (J:StD),Value.slice a2 gl.length c2=.slice ga J.guards.length gc∧Hid (jumpSt ⟨(op:Int),fa,fb,fc,fd⟩ ⟨ty,gl⟩ T G=J)∧(W.setCell ⟨bt,0,none⟩ (.slice ha (handC ⟨(op:Int),fa,fb,fc,fd⟩ ty).length hc)).cell? ⟨bt,0,none⟩=some (.slice ta J.types.length tc)∧bt<(W.setCell ⟨bt,0,none⟩ (.slice ha (handC ⟨(op:Int),fa,fb,fc,fd⟩ ty).length hc)).heap.size∧Hid (IntsAt (W.setCell ⟨bt,0,none⟩ (.slice ha (handC ⟨(op:Int),fa,fb,fc,fd⟩ ty).length hc)) (fun b=>b<(W.setCell ⟨bt,0,none⟩ (.slice ha (handC ⟨(op:Int),fa,fb,fc,fd⟩ ty).length hc)).heap.size) ta J.types)∧Hid (GusAt (W.setCell ⟨bt,0,none⟩ (.slice ha (handC ⟨(op:Int),fa,fb,fc,fd⟩ ty).length hc)) (fun b=>b<(W.setCell ⟨bt,0,none⟩ (.slice ha (handC ⟨(op:Int),fa,fb,fc,fd⟩ ty).length hc)).heap.size) ga J.guards)∧Hid (VfW w bV bS bT H N σ R iv li (W.setCell ⟨bt,0,none⟩ (.slice ha (handC ⟨(op:Int),fa,fb,fc,fd⟩ ty).length hc)))∧Hid (StF wr (offV bV bS iv) bT bF bX bA ⟨(op:Int),fa,fb,fc,fd⟩ ⟨ty,gl⟩ (.slice a1 ty.length c1) (.slice a2 gl.length c2) (W.setCell ⟨bt,0,none⟩ (.slice ha (handC ⟨(op:Int),fa,fb,fc,fd⟩ ty).length hc)))∧J.types.length≤1000∧J.guards.length≤1000):=fun ha hc W hW hO=>by
           obtain⟨n1,n2,n3,n4⟩:=unhide AV2 bt BLT.out.1 BLT.out.2
           have hF8:StF wr (offV bV bS iv) bT bF bX bA ⟨(op:Int),fa,fb,fc,fd⟩ ⟨ty,gl⟩ (.slice a1 ty.length c1) (.slice a2 gl.length c2) (W.setCell ⟨bt,0,none⟩ (.slice ha (handC ⟨(op:Int),fa,fb,fc,fd⟩ ty).length hc)):=(HF7.out.below hW).frame (fun k=>k≠bt) (fun k _ hk=>heap_setCell_other W ⟨bt,0,none⟩ k _ hk) NBT.out.1 NBT.out.2.1 NBT.out.2.2.1 NBT.out.2.2.2.1 NBT.out.2.2.2.2 (fun k hk _=>by have:=BLT.out.1;omega)
           obtain⟨_,_,_,g4,_,g6,_,_⟩:=CL.out W hW
           exact⟨ha,a2,hc,c2,⟨handC ⟨(op:Int),fa,fb,fc,fd⟩ ty,gl⟩,rfl,(by show jumpSt _ _ _ _=_;unfold jumpSt;rw[if_pos (by show(op:Int)=31;omega)]),(World.cell?_setCell_same W _ _ (by first | exact g4 | (rw[g4];rfl))),(by simpa using g6),(hO.setOther lbt).intsAt,hF8.gu.gusAt,(HV7.out.below hW).other bt 0 _ (Nat.le_trans LOB.out BLT.out.1) n1 n2 n3 n4,hF8,(by show(handC _ ty).length≤_;rw[hhl];omega),(by show gl.length≤1000;omega)⟩
          clear hK hfb0 hfb2 c31 hhl
          go_upto_region 17 with fail
          go_region_with (go_at_call 87;refine(unhide HTY _ (by exact(Below.refl _ _).drew)).mono ?_;rintro e w8 ⟨hv,rfl,hhv,hb8⟩;obtain⟨ha,hc,rfl⟩:=hhv.lenV;obtain⟨g1,g2,g3,g4,g5,g6,g7,g8⟩:=unhide CL w8 ((Below.refl _ _).drew.trans hb8))
          all_goals (go_wp2_with fail)
          all_goals go_meet
          all_goals exact FINI.out _ _ _ ((Below.refl _ _).drew.trans hb8) hhv
         ·have hb31:((op:Int)==31)=false:=by simp;omega
          by_cases c41:op=41
          ·have hb41:((op:Int)==41)=true:=by simp;omega
           obtain⟨hfc0,hfc1⟩:=HFIT.out.each (by show(op:Int)=41;omega)
           dsimp only at hfc0 hfc1
           obtain⟨C,rfl⟩:=Int.eq_ofNat_of_zero_le hfc0
           have hC:C<ty.length:=by omega
           have hCT:(C:Int)<tn:=by have:=TN.out;omega
           obtain⟨tg,tcap,eTV,_,htg2,htc⟩:=HT7.out.ty.at (by have:=TN.out;have:=TN3.out;omega)
           injection eTV with e4 e5 e6
           subst e4
           have ct:=htc C (by have:=TN.out;have:=TN3.out;omega)
           have zt:=HT7.out.ty.frozen TN3.out C
           obtain⟨rg,rcap,eRV,_,hrg2,hrc⟩:=HF7.out.ty.at (by show 0<ty.length;omega)
           injection eRV with f4 f5 f6
           subst f4
           have cr:w7.cell? ⟨rg,C,none⟩=some (.int .i64 (ty[C]?.getD 0)):=hrc C hC
           have ntg:tg≠bt:=fun e=>HT7.out.bt0 (by rw[←e];rfl)
           have FINI:Hid (∃(ta ga:Option Addr) (tc gc:Nat) (J:StD),Value.slice a5 G.length c5=.slice ga J.guards.length gc∧Hid (jumpSt ⟨(op:Int),fa,fb,(C:Int),fd⟩ ⟨ty,gl⟩ T G=J)∧(w7.drew.setCell ⟨tg,C,none⟩ (.int .i64 (ty[C]?.getD 0))).cell? ⟨bt,0,none⟩=some (.slice ta J.types.length tc)∧bt<(w7.drew.setCell ⟨tg,C,none⟩ (.int .i64 (ty[C]?.getD 0))).heap.size∧Hid (IntsAt (w7.drew.setCell ⟨tg,C,none⟩ (.int .i64 (ty[C]?.getD 0))) (fun b=>b<(w7.drew.setCell ⟨tg,C,none⟩ (.int .i64 (ty[C]?.getD 0))).heap.size) ta J.types)∧Hid (GusAt (w7.drew.setCell ⟨tg,C,none⟩ (.int .i64 (ty[C]?.getD 0))) (fun b=>b<(w7.drew.setCell ⟨tg,C,none⟩ (.int .i64 (ty[C]?.getD 0))).heap.size) ga J.guards)∧Hid (VfW w bV bS bT H N σ R iv li (w7.drew.setCell ⟨tg,C,none⟩ (.int .i64 (ty[C]?.getD 0))))∧Hid (StF wr (offV bV bS iv) bT bF bX bA ⟨(op:Int),fa,fb,(C:Int),fd⟩ ⟨ty,gl⟩ (.slice (some ⟨rg,0,none⟩) ty.length c1) (.slice a2 gl.length c2) (w7.drew.setCell ⟨tg,C,none⟩ (.int .i64 (ty[C]?.getD 0))))∧J.types.length≤1000∧J.guards.length≤1000):=by
            obtain⟨n1,n2,n3,n4⟩:=unhide AV2 tg (BLG.out tg rfl).1 (BLG.out tg rfl).2
            have bd:Below w7.heap.size w7 w7.drew:=(Below.refl _ _).drew
            have hk:∀ k,k≠tg→(w7.drew.setCell ⟨tg,C,none⟩ (.int .i64 (ty[C]?.getD 0))).heap[k]? = w7.heap[k]?:=fun k hk=>heap_setCell_other w7.drew ⟨tg,C,none⟩ k _ hk
            have hT8:=((HT7.out.below bd).setType TN3.out C (ty[C]?.getD 0)).ty
            change OwnI _ _ _ ((touchT l ⟨(op:Int),fa,fb,(C:Int),fd⟩ ty).types.set C (ty[C]?.getD 0))at hT8
            have hTl:(T.set C (ty[C]?.getD 0)).length=tn:=by rw[List.length_set,←TT.out];exact TN3.out.symm
            rw[TT.out]at hT8
            have hG8:OwnG (w7.drew.setCell ⟨tg,C,none⟩ (.int .i64 (ty[C]?.getD 0))) GB (.slice a5 G.length c5) G:=HG7.out.sameBlock (fun k e=>hk k (fun e2=>by have:=GBT.out tg rfl;have:=(HG7.out.lt' k e).1;omega))
            exact⟨some ⟨tg,0,none⟩,a5,vc,c5,⟨T.set C (ty[C]?.getD 0),G⟩,rfl,(by show jumpSt _ _ _ _=_;unfold jumpSt;rw[if_neg (by show ¬(op:Int)=31;omega),if_pos (by show(op:Int)=41;omega)];rfl),(by rw[World.cell?_of_block (a:=⟨bt,0,none⟩) (hk bt (fun e=>ntg e.symm)),d0,hTl]),(by simpa using lbt),hT8.intsAt,hG8.gusAt,(HV7.out.below bd).other tg C _ (Nat.le_trans LOB.out (BLG.out tg rfl).1) n1 n2 n3 n4,HF7.out.frame (fun k=>k≠tg) (fun k _ h=>hk k h) (NTG.out tg rfl).1 (NTG.out tg rfl).2.1 (NTG.out tg rfl).2.2.1 (NTG.out tg rfl).2.2.2.1 (NTG.out tg rfl).2.2.2.2 (fun k hk _=>by have:=(BLG.out tg rfl).1;omega),(by show(T.set C _).length≤1000;have:=TN.out;omega),(by show G.length≤1000;have:=GL.out.1;omega)⟩
           generalize (touchT l ⟨(op:Int),fa,fb,(C:Int),fd⟩ ty).types[C]?.getD 0=ov at ct
           generalize ty[C]?.getD 0=yC at cr FINI
           clear htc hrc e5 e6 f5 f6 hfc0 c31 c41 ntg
           go_upto_region 19 with fail
           go_region
           all_goals (go_wp2_with fail)
           all_goals go_meet
           all_goals exact FINI.out
          ·have hb41:((op:Int)==41)=false:=by simp;omega
           have FINI:Hid (∃(ta ga:Option Addr) (tc gc:Nat) (J:StD),Value.slice a5 G.length c5=.slice ga J.guards.length gc∧Hid (jumpSt ⟨(op:Int),fa,fb,fc,fd⟩ ⟨ty,gl⟩ T G=J)∧w7.cell? ⟨bt,0,none⟩=some (.slice ta J.types.length tc)∧bt<w7.heap.size∧Hid (IntsAt w7 (fun b=>b<w7.heap.size) ta J.types)∧Hid (GusAt w7 (fun b=>b<w7.heap.size) ga J.guards)∧Hid (VfW w bV bS bT H N σ R iv li w7)∧Hid (StF wr (offV bV bS iv) bT bF bX bA ⟨(op:Int),fa,fb,fc,fd⟩ ⟨ty,gl⟩ (.slice a1 ty.length c1) (.slice a2 gl.length c2) w7)∧J.types.length≤1000∧J.guards.length≤1000):=by
            have hTl:T.length=tn:=by rw[←TT.out];exact TN3.out.symm
            have hT8:=HT7.out.ty
            rw[TT.out]at hT8
            exact⟨va,a5,vc,c5,⟨T,G⟩,rfl,(by show jumpSt _ _ _ _=_;unfold jumpSt;rw[if_neg (by show ¬(op:Int)=31;omega),if_neg (by show ¬(op:Int)=41;omega)]),(by rw[d0,hTl]),lbt,hT8.intsAt,HG7.out.gusAt,HV7.out,HF7.out,(by show T.length≤1000;have:=TN.out;omega),(by show G.length≤1000;have:=GL.out.1;omega)⟩
           clear c31 c41
           go_wp2_with fail
           go_meet
           exact FINI.out
        case rest=>
         obtain⟨ta,ga,tc,gc,J,rfl,HJ,cB,lB,HIA,HGA,HV8,HF8,hJ1,hJ2⟩:=hcut
         clear i0 i1 i2 i3 i4 s0 s1 s2 lF lX lA
         clear d0 zbt lbt
         have RC:Hid (Calls Tryz.prog 42 #[.pointer (some ⟨bV,0,none⟩),.int .i64 (yn:Int),.slice ta J.types.length tc,.slice ga J.guards.length gc] wc (RcPost w bV bS bT H N σ R iv yn J wc)):=reach_any w bV bS bT H N ty.length σ R iv li yn J ta ga tc gc (fun b=>b<wc.heap.size) wc HV8.out HVB.out HM2.out hyN hN hR0 HIA.out HGA.out (fun b h=>h) hJ1 hJ2
         go_wp2_with fail
         refine(unhide RC).mono ?_
         rintro e w9 (⟨hone,rfl,hb9⟩ | ⟨σ3,R3,iv3,l3,hone,rfl,hV9,hF9⟩)
         ·have SD:Hid (stepT l ⟨(op:Int),fa,fb,fc,fd⟩ a σ ⟨ty,gl⟩=.inl (13,yn)):=FIN.out _ (jump_bad htg.out (by rw[HJ.out];exact hone))
          have HF9:=hide (HF8.out.below hb9)
          have HV9:=hide (HV8.out.below hb9)
          clear hone hb9 RC cB lB
          have FA:Hid (Calls Tryz.prog 47 #[.pointer (some ⟨bV,0,none⟩),.int .i64 13,.int .i64 (yn:Int)] w9 fun e w'=>e=.returned (.agg #[.int .i64 13,.int .i64 (p:Int),.int .i64 (yn:Int)])∧Below w9.heap.size w9 w'):=fault_any bV p 13 (yn:Int) w9 ((HV9.out.box.cell (i:=1) (by omega)).trans (congrArg some H1.out))
          go_wp2_with fail
          refine(unhide FA).mono ?_
          rintro e wf ⟨rfl,hbf⟩
          have hFf:=HF9.out.below hbf
          have BO:Hid (Below w.heap.size w wf):=HV9.out.old.trans (hbf.mono HV9.out.old.size)
          have r0:=hFf.res.cell (i:=0) (by omega);have r1:=hFf.res.cell (i:=1) (by omega);have r2:=hFf.res.cell (i:=2) (by omega)
          have z0:=hFf.res.frozen 0;have z1:=hFf.res.frozen 1;have z2:=hFf.res.frozen 2
          have lf:=hFf.res.lt
          have BB:Hid (∀ v0 v1 v2,Below w.heap.size w (((wf.setCell ⟨bF,0,none⟩ v0).setCell ⟨bF,1,none⟩ v1).setCell ⟨bF,2,none⟩ v2)):=fun v0 v1 v2=>set3_old BO.out LOB.out v0 v1 v2
          have FRB:Hid (∀ v0 v1 v2 k,k<wr.heap.size→offV bV bS iv k→(((wf.setCell ⟨bF,0,none⟩ v0).setCell ⟨bF,1,none⟩ v1).setCell ⟨bF,2,none⟩ v2).heap[k]? = wr.heap[k]?):=fun v0 v1 v2 k hk hz=>(heap_set3 (by omega) v0 v1 v2).trans (hFf.frm k (by omega) hz)
          clear hFf hbf FA
          go_wp2_with fail
          exact bodyPost_ret (v:=.agg #[.int .i64 13,.int .i64 (p:Int),.int .i64 (yn:Int)]) (by simp[results,Tryz.results44,go_sem,r0,r1,r2,lf]) rfl ⟨.inl ⟨13,yn,SD.out,rfl,BB.out _ _ _⟩,FRB.out _ _ _⟩
         ·have SD:Hid (stepT l ⟨(op:Int),fa,fb,fc,fd⟩ a σ ⟨ty,gl⟩=.inr σ3):=FIN.out _ (jump_ok htg.out (by rw[HJ.out];exact hone))
          have lFw:=HF8.out.res.lt
          obtain⟨n1,n2,n3,n4⟩:=(unhide AV2 bF (Nat.le_refl _) BLF.out)
          have ROW:=HF8.out.res.of_block (hF9.same bF lFw n1 n2 n3)
          have AV3:bF≠bV∧bF≠bS∧iv3.ownBlock≠some bF∧∀ i,i<N→(R3 i).1.ownBlock≠some bF∧(R3 i).2.ownBlock≠some bF:=⟨n1,n2,fun e=>(hF9.new bF e).elim n3 (fun h=>by omega),fun i hi=>⟨fun e=>((hF9.rows i bF hi).1 e).elim (n4 i hi).1 (fun h=>by omega),fun e=>((hF9.rows i bF hi).2 e).elim (n4 i hi).2 (fun h=>by omega)⟩⟩
          have FR9:∀ k,k<bF→offV bV bS iv k→w9.heap[k]? = wr.heap[k]?:=fun k hk hz=>(hF9.same k (by omega) hz.1 hz.2.1 (fun e=>(NEWI.out k e).elim hz.2.2 (fun h=>by omega))).trans (HF8.out.frm k hk hz)
          have HV9:=hide hV9
          have r0:=ROW.cell (i:=0) (by omega);have r1:=ROW.cell (i:=1) (by omega);have r2:=ROW.cell (i:=2) (by omega)
          have z0:=ROW.frozen 0;have z1:=ROW.frozen 1;have z2:=ROW.frozen 2
          have lf:=ROW.lt
          have ZV:Hid (∀ v0 v1 v2,VfW w bV bS bT H N σ3 R3 iv3 l3 (((w9.setCell ⟨bF,0,none⟩ v0).setCell ⟨bF,1,none⟩ v1).setCell ⟨bF,2,none⟩ v2)):=fun v0 v1 v2=>by
           obtain⟨n1,n2,n3,n4⟩:=AV3
           exact((HV9.out.other bF 0 v0 LOB.out n1 n2 n3 n4).other bF 1 v1 LOB.out n1 n2 n3 n4).other bF 2 v2 LOB.out n1 n2 n3 n4
          have FRB:Hid (∀ v0 v1 v2 k,k<wr.heap.size→offV bV bS iv k→(((w9.setCell ⟨bF,0,none⟩ v0).setCell ⟨bF,1,none⟩ v1).setCell ⟨bF,2,none⟩ v2).heap[k]? = wr.heap[k]?):=fun v0 v1 v2 k hk hz=>(heap_set3 (by omega) v0 v1 v2).trans (FR9 k (by omega) hz)
          have NWB:Hid (∀ k,iv3.ownBlock=some k→iv.ownBlock=some k∨wr.heap.size≤k):=(fun k e=>(hF9.new k e).elim (fun e=>(NEWI.out k e).imp_right (fun h=>by omega)) (fun h=>.inr (by omega)))
          clear ROW AV3 hV9 hF9 hone n1 n2 n3 n4 lFw RC cB lB FR9
          go_wp2_with fail
          exact bodyPost_ret (v:=.agg #[.int .i64 0,.int .i64 0,.int .i64 0]) (by simp[results,Tryz.results44,go_sem,r0,r1,r2,lf]) rfl ⟨.inr ⟨σ3,R3,iv3,l3,SD.out,rfl,ZV.out _ _ _,NWB.out⟩,FRB.out _ _ _⟩
end Go.Proofs.YthmjjhfjkgaocaaGreatDoor
