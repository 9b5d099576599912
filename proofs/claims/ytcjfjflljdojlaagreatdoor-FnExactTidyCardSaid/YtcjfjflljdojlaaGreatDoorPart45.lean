import Derived.Test.YtcjfjflljdojlaaGreatDoorPart43
set_option linter.unusedSimpArgs false
set_option linter.unusedVariables false
set_option maxHeartbeats 4000000
set_option maxRecDepth 100000
namespace Go.Proofs.YtcjfjflljdojlaaGreatDoor
open Go.RowKit
def iU (n:aA)(a:Nat):List Nat:=
 if n.op=1\/n.op=3\/n.op=28\/(n.op=18/\n.fb=12)then[]
 else(if de n=true/\n.op≠41 then[a+1]else[])++(match cE n with | none=>[] | some y=>[y.toNat])
theorem A7 (n:aA)(a x:Nat):x∈iU n a↔x∈ep n a:=by
 by_cases c1:n.op=1\/n.op=3\/n.op=28
 ·unfold iU ep;rw[if_pos (by omega),if_pos (by omega)]
 by_cases c2:n.op=18/\n.fb=12
 ·unfold iU ep;rw[if_pos (by omega),if_neg (by omega),if_pos c2]
 by_cases c3:n.op=29
 ·simp[iU,ep,cE,de,c3]
 by_cases c4:n.op=30
 ·simp[iU,ep,cE,de,c4]
 by_cases c5:n.op=19
 ·simp[iU,ep,cE,de,c5]
 by_cases c6:n.op=41
 ·simp[iU,ep,cE,de,c6]
 by_cases c7:n.op=31
 ·simp[iU,ep,cE,de,c7,or_comm]
 by_cases c8:n.op=20
 ·simp[iU,ep,cE,de,c8,or_comm]
 by_cases c9:n.op=21
 ·simp[iU,ep,cE,de,c9,or_comm]
 by_cases c10:n.op=38
 ·simp[iU,ep,cE,de,c10,or_comm]
 by_cases c11:n.op=39
 ·simp[iU,ep,cE,de,c11,or_comm]
 ·have hg:de n=true:=by simp[de,c3,c4,c5]
  have ht:cE n=none:=by simp[cE,c5,c6,c7,c8,c9,c10,c11]
  unfold iU ep;rw[if_neg (by omega),if_pos ⟨hg,c6⟩,ht,if_neg (by omega),if_neg c2,if_neg c5,if_neg c6,if_neg (by omega),if_neg c7];simp
theorem IT (n:aA)(a:Nat):(iU n a).length<=2:=by
 unfold iU;split
 ·simp
 ·rw[List.length_append];have h1:(if de n=true/\n.op≠41 then[a+1]else[]).length<=1:=by split<;>simp
  have h2:(match cE n with | none=>[] | some y=>[y.toNat]:List Nat).length<=1:=by split<;>simp
  omega
theorem wC {E E':Nat->List Nat}(h:∀ x y,y∈E x->y∈E' x){x y:Nat}(hr:mu E x y):mu E' x y:=by
 obtain⟨n,hn⟩:=hr;refine⟨n,?_⟩
 induction n generalizing x with
 | zero=>exact hn
 | succ n ih=>obtain⟨z,hz,hn⟩:=hn;exact⟨z,h x z hz,ih hn⟩
theorem Cu {E E':Nat->List Nat}(h:∀ x y,y∈E x↔y∈E' x){x:Nat}:iu E x↔iu E' x:=
 ⟨fun⟨z,h1,h2⟩=>⟨z,(h x z).1 h1,wC (fun x y=>(h x y).1) h2⟩,fun⟨z,h1,h2⟩=>⟨z,(h x z).2 h1,wC (fun x y=>(h x y).2) h2⟩⟩
theorem pT (v:Value)(l:List Int)(y:Int)(base vb:Nat)(w:World)(h:ar w base v l)(kO:base<=w.heap.size)(hl:l.length<=1000000)(hv:w.heap[vb]? = some (.cells #[i_ y] 3 (0,0))) :
  ∃ g cap w1,(Builtin.append_ #[70,70] 70 #[v,.slice (some (a_ vb 0)) 1 1]).run Tryz.prog w=.ok (.slice (some (a_ g 0)) (l.length+1) cap) w1/\ar w1 base (.slice (some (a_ g 0)) (l.length+1) cap) (l++[y])/\w.grownBy w1 v.ownBlock/\(v.ownBlock=some g\/g=w.heap.size)/\g<w1.heap.size:=by
 obtain⟨i0,hi,dE,cT,dB⟩:=aN dT;obtain⟨g,cap,w1,h1,h2,h3,h4,h5⟩:=run_append_lies (P:=Tryz.prog) w 70 70 base 3 i0 (i_ 0) 1 8 Tryz.underlying70 hi dE cT dB rfl (by decide) v l.length _ h (a_ vb 0) 1 1 [i_ y] rfl (fun j u hj=>by
  cases j with
  | zero=>simp at hj;aj hj;rw[Addr.add_lit];simp[World.cell?,hv]
  | succ j=>simp at hj) (fun u hu=>by simp at hu;aj hu;rfl) (by omega) (by unfold maxLen;omega) (by omega) kO _ rfl
 exact⟨g,cap,w1,h1,ar.push h2,h3,h4,h5⟩
theorem kx {B:Nat}{w w1:World}{row:Option Nat}(h:w.grownBy w1 row)(hr:∀ k,row=some k->B<=k)(hB:B<=w.heap.size):Below B w w1:=
 (Below.refl B w).grown h hB hr
theorem sB (bV b7 o7 c7 N op:Nat)(fa fb fc fd:Int)(a:Nat)(w:World)(hG:gh w)(mj:op<43)(ha:a<N)(hN:N<=6000)(k9:w.cell? (a_ bV 9)=some (.slice (some (a_ b7 o7)) N c7))(hx:aL w b7 (o7+a * 5) ⟨(op:Int),fa,fb,fc,fd⟩)(ht:∀ y,cE ⟨(op:Int),fa,fb,fc,fd⟩=some y->0<=y) :
  c_ 126 #[.pointer (some (a_ bV 0)),i_ (a:Int)] w (kf (aH (iU ⟨(op:Int),fa,fb,fc,fd⟩ a)) w):=by
 obtain⟨x0,x1,x2,x3,x4⟩:=hx;dsimp only at x0 x1 x2 x3 x4;have OK:bV<w.heap.size:=World.block_lt_of_cell? _ _ k9;have kw:b7<w.heap.size:=World.block_lt_of_cell? _ _ x0;have ZE:(a:Int)<N:=by omega
 have hA:b_ w (w.alloc (.cells #[i_ (op:Int),i_ fa,i_ fb,i_ fc,i_ fd] 51)):=r_.alloc n_ _;have HA:=af hA;have TG:Hid (c_ 83 #[.agg #[i_ (op:Int),i_ fa,i_ fb,i_ fc,i_ fd]] (w.alloc (.cells #[i_ (op:Int),i_ fa,i_ fb,i_ fc,i_ fd] 51)) (oO ⟨(op:Int),fa,fb,fc,fd⟩ (w.alloc (.cells #[i_ (op:Int),i_ fa,i_ fb,i_ fc,i_ fd] 51)))):=i9 op fa fb fc fd _ (hG.keep hA hG.pos) mj;have XC:Hid (∀ W,Below (w.heap.size+1) (w.alloc (.cells #[i_ (op:Int),i_ fa,i_ fb,i_ fc,i_ fd] 51)) W->(W.cell? (a_ w.heap.size 0)=some (i_ (op:Int))/\W.cell? (a_ w.heap.size 1)=some (i_ fa)/\W.cell? (a_ w.heap.size 2)=some (i_ fb)/\W.cell? (a_ w.heap.size 3)=some (i_ fc)/\W.cell? (a_ w.heap.size 4)=some (i_ fd))/\w.heap.size<W.heap.size):=fun W hW=>by
  have e:∀ o,W.cell? (a_ w.heap.size o)=(w.alloc (.cells #[i_ (op:Int),i_ fa,i_ fb,i_ fc,i_ fd] 51)).cell? (a_ w.heap.size o):=fun o=>hW.cell (p:=(a_ w.heap.size o)) (by show w.heap.size<w.heap.size+1;omega);refine⟨⟨(e 0).trans (by simp[go_sem]),(e 1).trans (by simp[go_sem]),(e 2).trans (by simp[go_sem]),(e 3).trans (by simp[go_sem]),(e 4).trans (by simp[go_sem])⟩,?_⟩;have:=hW.size;simp at this;omega
 have HT:=af ht;obtain⟨RL,hRL⟩:∃ RL,iU ⟨(op:Int),fa,fb,fc,fd⟩ a=RL:=⟨_,rfl⟩;rw[hRL];have RE:=af hRL;clear hG ht hA hRL;go_enter Tryz.func126,Tryz.ntmps126;go_wp2_with fail
 refine(aa TG).mono ?_;rintro e w1 ⟨rfl,au⟩;have Fs:(w.alloc (.cells #[i_ (op:Int),i_ fa,i_ fb,i_ fc,i_ fd] 51)).heap.size=w.heap.size+1:=by simp
 rw[Fs]at au;have dM:Hid (b_ w w1):=HA.out.trans (au.mono (by omega));obtain⟨⟨i0,i1,i2,i3,i4⟩,lX⟩:=aa XC w1 au;have HC1:=af au;have jf:=dM.out.size;clear au TG k9 x0 x1 x2 x3 x4 OK kw ZE Fs HA;by_cases c1:op=1\/op=3\/op=28\/(op=18/\fb=12)
 ·have vl:Hid (RL=[]):=by
   show RL=_;rw[<-RE.out];unfold iU;rw[if_pos (by show(op:Int)=1\/(op:Int)=3\/(op:Int)=28\/((op:Int)=18/\fb=12);omega)]
  clear RE;have YI:Hid (ar w1 w.heap.size (.slice none 0 0) (aH RL)):=by show ar _ _ _ _;rw[vl.out];exact World.ownsRow_nil _ _ _ _
  rcases c1 with c | c | c | ⟨c,c'⟩
  ·aj c
   go_wp2_with fail
   go_ret;exact⟨_,rfl,YI.out,dM.out⟩
  ·aj c
   go_wp2_with fail
   go_ret;exact⟨_,rfl,YI.out,dM.out⟩
  ·aj c
   go_wp2_with fail
   go_ret;exact⟨_,rfl,YI.out,dM.out⟩
  ·aj c
   aj c'
   go_wp2_with fail
   go_ret;exact⟨_,rfl,YI.out,dM.out⟩
 ·have e1:((op:Int)==1)=false:=by simp;omega
  have e2:((op:Int)==3)=false:=by simp;omega
  have e3:((op:Int)==28)=false:=by simp;omega
  have vl:Hid (RL=(if de ⟨(op:Int),fa,fb,fc,fd⟩=true/\(op:Int)≠41 then[a+1]else[])++(match cE ⟨(op:Int),fa,fb,fc,fd⟩with | none=>[] | some y=>[y.toNat])):=by
   show RL=_;rw[<-RE.out];unfold iU;rw[if_neg (by show ¬((op:Int)=1\/(op:Int)=3\/(op:Int)=28\/((op:Int)=18/\fb=12));omega)]
  clear RE;have GN:Hid (c_ 116 #[.agg #[i_ (op:Int),i_ fa,i_ fb,i_ fc,i_ fd]] w1 fun e w'=>e=.returned (.bool (eF op))/\b_ w1 w'):=me op fa fb fc fd w1;have C18:Hid (((op:Int)==18)=false\/(((op:Int)==18)=true/\(fb==12)=false)):=by
   by_cases c:op=18
   ·exact .inr ⟨by simp;omega,by simp;omega⟩
   ·exact .inl (by simp;omega)
  clear c1;have abc:∀(HH:((op:Int)==18)=false\/(((op:Int)==18)=true/\(fb==12)=false)),True:=fun _=>trivial;clear abc;rcases C18.out with c18 | ⟨c18,c12⟩
  all_goals
   go_wp2_with fail
   refine(aa GN).mono ?_;rintro e w2 ⟨rfl,bo⟩;have fN:Hid (b_ w w2):=dM.out.trans (bo.mono jf);have SU:Hid (Below (w.heap.size+1) (w.alloc (.cells #[i_ (op:Int),i_ fa,i_ fb,i_ fc,i_ fd] 51)) w2):=HC1.out.trans (bo.mono (by omega));clear i0 i1 i2 i3 i4 lX;obtain⟨⟨i0,i1,i2,i3,i4⟩,lX⟩:=aa XC w2 SU.out;have sr:=bo.size;clear bo i1 i2 i3 i4;have GOE:Hid (de ⟨(op:Int),fa,fb,fc,fd⟩=eF op):=rfl;by_cases cg:eF op=true/\op≠41
   ·have Lp:(if de ⟨(op:Int),fa,fb,fc,fd⟩=true/\(op:Int)≠41 then[a+1]else[])=[a+1]:=if_pos ⟨GOE.out.trans cg.1,by have:=cg.2;omega⟩;rw[cg.1];have Xx:Hid (RL=[a+1]++(match cE ⟨(op:Int),fa,fb,fc,fd⟩with | none=>[] | some y=>[y.toNat])):=by show RL=_;rw[vl.out,Lp]
    clear Lp;have e41:((op:Int) != 41)=true:=by have:=cg.2;simp;omega
    obtain⟨g1,q1,w3,r1,O1,Sh,Yk,l1⟩:=pT (.slice none 0 0) [] ((a:Int)+1) w2.heap.size w2.heap.size (w2.alloc (.cells #[i_ ((a:Int)+1)] 3)) (World.ownsRow_nil _ _ _ _) (by simp) (by simp) (Go.Deep.blk_alloc_new _ _);have RK:b_ w2 (w2.alloc (.cells #[i_ ((a:Int)+1)] 3)):=r_.alloc n_ _;have B3:b_ w2 w3:=RK.trans (kx Sh (fun k hk=>by cases hk) RK.size);have jg:Hid (b_ w w3):=fN.out.trans (B3.mono (by omega));have PT:ar w3 w.heap.size (.slice (some (a_ g1 0)) 1 q1) [(a:Int)+1]:=O1.base_le (by omega);have xg:w.heap.size<=g1:=(PT.lt' g1 rfl).1;have RP:=af r1;have Iv:=B3.size;clear RK B3 O1 Sh Yk r1 cg;cases sV:cE ⟨(op:Int),fa,fb,fc,fd⟩with
    | none=>
     have HO:Hid (ar w3 w.heap.size (.slice (some (a_ g1 0)) 1 q1) (aH RL)):=by show ar _ _ _ _;rw[Xx.out,sV];exact PT
     clear PT;go_wp2_with (at_builtin;refine bJ rfl _ _ 70 rfl _ _ rfl rfl (aa RP) ?_)
     go_ret;exact⟨_,rfl,HO.out,jg.out⟩
    | some y=>
     obtain⟨yn,rfl⟩:=Int.eq_ofNat_of_zero_le (HT.out y sV);obtain⟨g2,q2,w4,r2,O2,VD,at2,l2⟩:=pT (.slice (some (a_ g1 0)) 1 q1) [(a:Int)+1] (yn:Int) w.heap.size w3.heap.size (w3.alloc (.cells #[i_ (yn:Int)] 3)) (PT.alloc _) (by simp;omega) (by simp) (Go.Deep.blk_alloc_new _ _);have Nx:b_ w (w3.alloc (.cells #[i_ (yn:Int)] 3)):=jg.out.alloc (by omega) _;have Ma:Hid (b_ w w4):=Nx.trans (kx VD (fun k hk=>by have:g1=k:=Option.some.inj hk;omega) Nx.size);have US:=af r2;have HO:Hid (ar w4 w.heap.size (.slice (some (a_ g2 0)) 2 q2) (aH RL)):=by show ar _ _ _ _;rw[Xx.out,sV];exact O2
     clear PT O2 VD at2 r2 Nx;go_wp2_with (first
      | (at_builtin;refine bJ rfl _ _ 70 rfl _ _ rfl rfl (aa RP) ?_)
      | (at_builtin;refine bJ rfl _ _ 70 rfl _ _ rfl rfl (aa US) ?_))
     go_ret;exact⟨_,rfl,HO.out,Ma.out⟩
   ·have Lp:(if de ⟨(op:Int),fa,fb,fc,fd⟩=true/\(op:Int)≠41 then[a+1]else[])=[]:=if_neg (fun h=>cg ⟨GOE.out.symm.trans h.1,by have:=h.2;omega⟩);have Xx:Hid (RL=[]++(match cE ⟨(op:Int),fa,fb,fc,fd⟩with | none=>[] | some y=>[y.toNat])):=by show RL=_;rw[vl.out,Lp]
    clear Lp;have NG:(eF op=false)\/(eF op=true/\((op:Int) != 41)=false):=by
     cases h:eF op with
     | false=>exact .inl rfl
     | true=>exact .inr ⟨rfl,by have:op=41:=Classical.byContradiction (fun c=>cg ⟨h,c⟩);aj this;rfl⟩
    clear cg;cases sV:cE ⟨(op:Int),fa,fb,fc,fd⟩with
    | none=>
     have HO:Hid (ar w2 w.heap.size (.slice none 0 0) (aH RL)):=by show ar _ _ _ _;rw[Xx.out,sV];exact World.ownsRow_nil _ _ _ _
     rcases NG with ng | ⟨ng,ng2⟩
     all_goals
      rw[ng];go_wp2_with fail
      go_ret;exact⟨_,rfl,HO.out,fN.out⟩
    | some y=>
     obtain⟨yn,rfl⟩:=Int.eq_ofNat_of_zero_le (HT.out y sV);obtain⟨g2,q2,w4,r2,O2,VD,at2,l2⟩:=pT (.slice none 0 0) [] (yn:Int) w2.heap.size w2.heap.size (w2.alloc (.cells #[i_ (yn:Int)] 3)) (World.ownsRow_nil _ _ _ _) (by simp) (by simp) (Go.Deep.blk_alloc_new _ _);have RK:b_ w2 (w2.alloc (.cells #[i_ (yn:Int)] 3)):=r_.alloc n_ _;have Ma:Hid (b_ w w4):=fN.out.trans ((RK.trans (kx VD (fun k hk=>by cases hk) RK.size)).mono (by omega));have HO:Hid (ar w4 w.heap.size (.slice (some (a_ g2 0)) 1 q2) (aH RL)):=by show ar _ _ _ _;rw[Xx.out,sV];exact O2.base_le (by omega)
     have US:=af r2;clear O2 VD at2 r2 RK;rcases NG with ng | ⟨ng,ng2⟩
     all_goals
      rw[ng];go_wp2_with (at_builtin;refine bJ rfl _ _ 70 rfl _ _ rfl rfl (aa US) ?_)
      go_ret;exact⟨_,rfl,HO.out,Ma.out⟩
def mq (l:List Int):Nat->Int
 | 0=>l[0]?.getD 0
 | k+1=>min (mq l k) (l[k+1]?.getD 0)
theorem zI (l:List Int):∀ k j,j<=k->mq l k<=l[j]?.getD 0
 | 0,j,h=>by
  have:j=0:=by omega
  aj this;exact Int.le_refl _
 | k+1,j,h=>by
  show min (mq l k) (l[k+1]?.getD 0)<=_;by_cases e:j=k+1
  ·aj e;omega
  ·have:=zI l k j (by omega);omega
theorem AP (l:List Int):∀ k,∃ j,j<=k/\mq l k=l[j]?.getD 0
 | 0=>⟨0,n_,rfl⟩
 | k+1=>by
  obtain⟨j,hj,e⟩:=AP l k;show ∃ j,j<=k+1/\min (mq l k) (l[k+1]?.getD 0)=_;by_cases c:mq l k<=l[k+1]?.getD 0
  ·exact⟨j,by omega,by omega⟩
  ·exact⟨k+1,n_,by omega⟩
def C8 (l:List Int)(w:World)(e:Ending)(w':World):Prop:=∃ y,e=.returned (i_ y)/\y∈l/\(∀ z,z∈l->y<=z)/\w'=w
theorem MV (a:o_)(l:List Int)(c:Nat)(S:Nat->Prop)(w:World)(hs:aR w S a l)(hl:l.length<=1000000)(h0:0<l.length) :
  c_ 158 #[.slice a l.length c] w (C8 l w):=by
 obtain⟨b,off,rfl,_,aE⟩:=hs.2 h0;have PB:=af aE;have q0:=aE 0 h0;rw[Nat.add_zero]at q0;change w.cell? (a_ b off)=some (i_ (mq l 0))at q0;have cZ:b<w.heap.size:=World.block_lt_of_cell? _ _ q0;have Hy:(0:Int)<l.length:=by omega
 have abR:¬((l.length:Int)<1):=by omega
 have eM:Hid (C8 l w (.returned (i_ (mq l (l.length-1)))) w):=by
  obtain⟨j,hj,e⟩:=AP l (l.length-1);refine⟨_,rfl,?_,fun z hz=>?_,rfl⟩
  ·rw[e,g_ (by omega)];exact List.getElem_mem _
  ·obtain⟨i,hi,rfl⟩:=List.getElem_of_mem hz;have:=zI l (l.length-1) i (by omega);rw[g_ hi]at this;exact this
 clear aE hs;go_enter Tryz.func158,Tryz.ntmps158;go_wp2_with fail
 go_loopg [3,4] (l.length-1) (fun gg m i wr=>∃ q:Nat,q+gg=l.length/\1<=q/\i=i_ q/\m=i_ (mq l (q-1))/\wr=w)
 case atStart=>exact⟨1,by omega,by omega,rfl,rfl,rfl⟩
 case round=>
  clear q0;obtain⟨q,hq,Rb,rfl,rfl,rfl⟩:=hrel;by_cases ax:q<l.length
  ·have qc:=aa PB q ax;have Rs:(q:Int)<l.length:=by omega
   obtain⟨k,rfl⟩:∃ k,q=k+1:=⟨q-1,by omega⟩;have MT:Hid (mq l (k+1)=min (mq l k) (l[k+1]?.getD 0)):=rfl;rw[Nat.add_sub_cancel];generalize l[k+1]?.getD 0=y at *;generalize mq l k=m at *;go_wp2_with fail
   all_goals
    go_roundg (l.length-(k+1+1))
    case measure=>omega
    case rel=>exact⟨k+1+1,by omega,by omega,by go_num,by first | (rw[Nat.add_sub_cancel,MT.out];done) | (rw[Nat.add_sub_cancel,MT.out];congr 1;omega),rfl⟩
  ·have mz:q=l.length:=by omega
   aj mz
   go_wp2_with fail
   go_ret;exact eM.out
end Go.Proofs.YtcjfjflljdojlaaGreatDoor
