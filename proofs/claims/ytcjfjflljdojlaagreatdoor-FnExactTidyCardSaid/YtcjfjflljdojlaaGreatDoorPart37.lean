import Derived.Test.YtcjfjflljdojlaaGreatDoorPart35
set_option linter.all false
set_option maxHeartbeats 4000000
set_option maxRecDepth 100000
namespace Go.Proofs.YtcjfjflljdojlaaGreatDoor
open Go.RowKit
def iP (n:az)(a:Nat):List Nat:=
 if n.op=1\/n.op=3\/n.op=28\/(n.op=18/\n.fb=12)then[]
 else(if dc n=true/\n.op≠41 then[a+1]else[])++(match cp n with | none=>[] | some y=>[y.toNat])
theorem Al (n:az)(a x:Nat):x∈iP n a↔x∈ep n a:=by
 by_cases c1:n.op=1\/n.op=3\/n.op=28;{unfold iP ep;rw[zca (by omega),zca (by omega)]};by_cases c2:n.op=18/\n.fb=12;{unfold iP ep;rw[zca (by omega),zcb (by omega),zca c2]};by_cases c3:n.op=29;{simp[iP,ep,cp,dc,c3]};by_cases c4:n.op=30;{simp[iP,ep,cp,dc,c4]};by_cases c5:n.op=19;{simp[iP,ep,cp,dc,c5]};by_cases c6:n.op=41;{simp[iP,ep,cp,dc,c6]};by_cases c7:n.op=31;{simp[iP,ep,cp,dc,c7,or_comm]};by_cases c8:n.op=20;{simp[iP,ep,cp,dc,c8,or_comm]};by_cases c9:n.op=21;{simp[iP,ep,cp,dc,c9,or_comm]};by_cases c10:n.op=38;{simp[iP,ep,cp,dc,c10,or_comm]};by_cases c11:n.op=39;{simp[iP,ep,cp,dc,c11,or_comm]};{have hg:dc n=true:=by{simp[dc,c3,c4,c5]};have ht:cp n=none:=by{simp[cp,c5,c6,c7,c8,c9,c10,c11]};unfold iP ep;rw[zcb (by omega),zca ⟨hg,c6⟩,ht,zcb (by omega),zcb c2,zcb c5,zcb c6,zcb (by omega),zcb c7];simp}
theorem Ja (n:az)(a:Nat):(iP n a).length<=2:=by
 unfold iP;split;{simp};{rw[zad];have h1:(if dc n=true/\n.op≠41 then[a+1]else[]).length<=1:=by{split<;>simp};have h2:(match cp n with | none=>[] | some y=>[y.toNat]:List Nat).length<=1:=by{split<;>simp};omega}
theorem wX {E E':Nat->List Nat}(h:∀ x y,y∈E x->y∈E' x){x y:Nat}(hr:mq E x y):mq E' x y:=by
 obtain⟨n,hn⟩:=hr;refine⟨n,?_⟩
 induction n generalizing x with
 | zero=>exact hn
 | succ n ih=>obtain⟨z,hz,hn⟩:=hn;exact⟨z,h x z hz,ih hn⟩
theorem CM {E E':Nat->List Nat}(h:∀ x y,y∈E x↔y∈E' x){x:Nat}:ir E x↔ir E' x:=
 ⟨fun⟨z,h1,h2⟩=>⟨z,(h x z).1 h1,wX (fun x y=>(h x y).1) h2⟩,fun⟨z,h1,h2⟩=>⟨z,(h x z).2 h1,wX (fun x y=>(h x y).2) h2⟩⟩
theorem pz (v:Value)(l:List Int)(y:Int)(base vb:Nat)(w:w_)(h:ao w base v l)(kN:base<=w.heap.size)(hl:l.length<=1000000)(hv:w.heap[vb]? = some (.cells #[i_ y] 3 (0,0))) :
  ∃ g cap w1,(Builtin.append_ #[70,70] 70 #[v,s_ vb 0 1 1]).run Tryz.prog w=.ok (s_ g 0 (l.length+1) cap) w1/\ao w1 base (s_ g 0 (l.length+1) cap) (l++[y])/\w.grownBy w1 v.ownBlock/\(v.ownBlock=some g\/g=w.heap.size)/\g<w1.heap.size:=by
 obtain⟨i0,hi,dE,cS,dA⟩:=aM dR;obtain⟨g,cap,w1,h1,h2,h3,h4,h5⟩:=run_append_lies (P:=Tryz.prog) w 70 70 base 3 i0 (i_ 0) 1 8 Tryz.underlying70 hi dE cS dA rfl (by decide) v l.length _ h (a_ vb 0) 1 1 [i_ y] rfl (fun j u hj=>by
  cases j with
  | zero=>simp at hj;subst hj;rw[Addr.add_lit];simp[World.cell?,hv]
  | succ j=>simp at hj) (fun u hu=>by simp at hu;subst hu;rfl) (by omega) (by unfold maxLen;omega) (by omega) kN _ rfl
 exact⟨g,cap,w1,h1,ao.push h2,h3,h4,h5⟩
theorem kC {B:Nat}{w w1:w_}{row:Option Nat}(h:w.grownBy w1 row)(hr:∀ k,row=some k->B<=k)(hB:B<=w.heap.size):Below B w w1:=
 (Below.refl B w).grown h hB hr
theorem sx (bV b7 o7 c7 N op:Nat)(fa fb fc fd:Int)(a:Nat)(w:w_)(hG:gd w)(mi:op<43)(ha:a<N)(hN:N<=6000)(k9:w.cell? (a_ bV 9)=some (s_ b7 o7 N c7))(hx:aK w b7 (o7+a * 5) ⟨(op:Int),fa,fb,fc,fd⟩)(ht:∀ y,cp ⟨(op:Int),fa,fb,fc,fd⟩=some y->0<=y) :
  c_ 126 #[.pointer (some (a_ bV 0)),i_ (a:Int)] w (jU (aG (iP ⟨(op:Int),fa,fb,fc,fd⟩ a)) w):=by
 obtain⟨x0,x1,x2,x3,x4⟩:=hx;dsimp only at x0 x1 x2 x3 x4;have OM:bV<w.heap.size:=zbd _ _ k9;have ku:b7<w.heap.size:=zbd _ _ x0;have haN:(a:Int)<N:=by{omega};have hA:b_ w (w.alloc (.cells #[i_ (op:Int),i_ fa,i_ fb,i_ fc,i_ fd] 51)):=r_.alloc n_ _;have HA:=af hA;have TG:H_ (c_ 83 #[.agg #[i_ (op:Int),i_ fa,i_ fb,i_ fc,i_ fd]] (w.alloc (.cells #[i_ (op:Int),i_ fa,i_ fb,i_ fc,i_ fd] 51)) (pe ⟨(op:Int),fa,fb,fc,fd⟩ (w.alloc (.cells #[i_ (op:Int),i_ fa,i_ fb,i_ fc,i_ fd] 51)))):=iR op fa fb fc fd _ (hG.keep hA hG.pos) mi;have XC:H_ (∀ W,Below (w.heap.size+1) (w.alloc (.cells #[i_ (op:Int),i_ fa,i_ fb,i_ fc,i_ fd] 51)) W->(W.cell? (a_ w.heap.size 0)=some (i_ (op:Int))/\W.cell? (a_ w.heap.size 1)=some (i_ fa)/\W.cell? (a_ w.heap.size 2)=some (i_ fb)/\W.cell? (a_ w.heap.size 3)=some (i_ fc)/\W.cell? (a_ w.heap.size 4)=some (i_ fd))/\w.heap.size<W.heap.size):=fun W hW=>by
  have e:∀ o,W.cell? (a_ w.heap.size o)=(w.alloc (.cells #[i_ (op:Int),i_ fa,i_ fb,i_ fc,i_ fd] 51)).cell? (a_ w.heap.size o):=fun o=>hW.cell (p:=(a_ w.heap.size o)) (by show w.heap.size<w.heap.size+1;omega);refine⟨⟨(e 0).trans (by simp[go_sem]),(e 1).trans (by simp[go_sem]),(e 2).trans (by simp[go_sem]),(e 3).trans (by simp[go_sem]),(e 4).trans (by simp[go_sem])⟩,?_⟩;have:=hW.size;simp at this;omega
 have HT:=af ht;obtain⟨RL,hRL⟩:∃ RL,iP ⟨(op:Int),fa,fb,fc,fd⟩ a=RL:=⟨_,rfl⟩;rw[hRL];have RE:=af hRL;clear hG ht hA hRL;go_enter Tryz.func126,Tryz.ntmps126;go_wp2_with fail
 refine(aa TG).mono ?_;rintro e w1 ⟨rfl,ar⟩;have Fe:(w.alloc (.cells #[i_ (op:Int),i_ fa,i_ fb,i_ fc,i_ fd] 51)).heap.size=w.heap.size+1:=by{simp};replace ar:=ar.mono (Nat.le_of_eq Fe.symm);have dL:H_ (b_ w w1):=HA.o.trans (ar.mono (by omega));obtain⟨⟨i0,i1,i2,i3,i4⟩,lX⟩:=aa XC w1 ar;have HC1:=af ar;have je:=dL.o.size;clear ar TG k9 x0 x1 x2 x3 x4 OM ku haN Fe HA;by_cases c1:op=1\/op=3\/op=28\/(op=18/\fb=12);{have vj:H_ (RL=[]):=by{show RL=_;rw[<-RE.o];unfold iP;rw[zca (by show(op:Int)=1\/(op:Int)=3\/(op:Int)=28\/((op:Int)=18/\fb=12);omega)]};clear RE;have YC:H_ (ao w1 w.heap.size (.slice none 0 0) (aG RL)):=by{show ao _ _ _ _;rw[vj.o];exact zbh _ _ _ _};rcases c1 with c | c | c | ⟨c,c'⟩;{subst c;go_wp2;go_ret;exact⟨_,rfl,YC.o,dL.o⟩};{subst c;go_wp2;go_ret;exact⟨_,rfl,YC.o,dL.o⟩};{subst c;go_wp2;go_ret;exact⟨_,rfl,YC.o,dL.o⟩};{subst c;subst c';go_wp2;go_ret;exact⟨_,rfl,YC.o,dL.o⟩}}
 ·have e1:((op:Int)==1)=false:=by{simp;omega};have e2:((op:Int)==3)=false:=by{simp;omega};have e3:((op:Int)==28)=false:=by{simp;omega};have vj:H_ (RL=(if dc ⟨(op:Int),fa,fb,fc,fd⟩=true/\(op:Int)≠41 then[a+1]else[])++(match cp ⟨(op:Int),fa,fb,fc,fd⟩with | none=>[] | some y=>[y.toNat])):=by{show RL=_;rw[<-RE.o];unfold iP;rw[zcb (by show ¬((op:Int)=1\/(op:Int)=3\/(op:Int)=28\/((op:Int)=18/\fb=12));omega)]};clear RE;have GN:H_ (c_ 116 #[.agg #[i_ (op:Int),i_ fa,i_ fb,i_ fc,i_ fd]] w1 fun e w'=>e=.returned (.bool (eE op))/\b_ w1 w'):=lK op fa fb fc fd w1;have C18:H_ (((op:Int)==18)=false\/(((op:Int)==18)=true/\(fb==12)=false)):=by by_cases c:op=18;{exact .inr ⟨by simp;omega,by simp;omega⟩};{exact .inl (by simp;omega)}
  clear c1;have ZO:∀(HH:((op:Int)==18)=false\/(((op:Int)==18)=true/\(fb==12)=false)),True:=fun _=>trivial;clear ZO;rcases C18.o with c18 | ⟨c18,c12⟩
  all_goals
   go_wp2_with fail;refine(aa GN).mono ?_;rintro e w2 ⟨rfl,bj⟩;have fM:H_ (b_ w w2):=dL.o.trans (bj.mono je);have Rp:H_ (Below (w.heap.size+1) (w.alloc (.cells #[i_ (op:Int),i_ fa,i_ fb,i_ fc,i_ fd] 51)) w2):=HC1.o.trans (bj.mono (by omega));clear i0 i1 i2 i3 i4 lX;obtain⟨⟨i0,i1,i2,i3,i4⟩,lX⟩:=aa XC w2 Rp.o;have sn:=bj.size;clear bj i1 i2 i3 i4;have GOE:H_ (dc ⟨(op:Int),fa,fb,fc,fd⟩=eE op):=rfl;by_cases cg:eE op=true/\op≠41
   ·have KY:(if dc ⟨(op:Int),fa,fb,fc,fd⟩=true/\(op:Int)≠41 then[a+1]else[])=[a+1]:=zca ⟨GOE.o.trans cg.1,by have:=cg.2;omega⟩;rw[cg.1];have Vr:H_ (RL=[a+1]++(match cp ⟨(op:Int),fa,fb,fc,fd⟩with | none=>[] | some y=>[y.toNat])):=by{show RL=_;rw[vj.o,KY]};clear KY;have e41:((op:Int) != 41)=true:=by{have:=cg.2;simp;omega};obtain⟨g1,q1,w3,r1,O1,RK,Ys,l1⟩:=pz (.slice none 0 0) [] ((a:Int)+1) w2.heap.size w2.heap.size (w2.alloc (.cells #[i_ ((a:Int)+1)] 3)) (zbh _ _ _ _) (by simp) (by simp) (Go.Deep.blk_alloc_new _ _);have QJ:b_ w2 (w2.alloc (.cells #[i_ ((a:Int)+1)] 3)):=r_.alloc n_ _;have B3:b_ w2 w3:=QJ.trans (kC RK (fun k hk=>by cases hk) QJ.size);have jg:H_ (b_ w w3):=fM.o.trans (B3.mono (by omega));have Py:ao w3 w.heap.size (s_ g1 0 1 q1) [(a:Int)+1]:=O1.base_le (by omega);have xi:w.heap.size<=g1:=(Py.lt' g1 rfl).1;have Rm:=af r1;have Im:=B3.size;clear QJ B3 O1 RK Ys r1 cg;cases sL:cp ⟨(op:Int),fa,fb,fc,fd⟩with
    | none=>
     have HO:H_ (ao w3 w.heap.size (s_ g1 0 1 q1) (aG RL)):=by{show ao _ _ _ _;rw[Vr.o,sL];exact Py};clear Py;go_wp2_with (at_builtin;refine bJ rfl _ _ 70 rfl _ _ rfl rfl (aa Rm) ?_);go_ret;exact⟨_,rfl,HO.o,jg.o⟩
    | some y=>
     obtain⟨yn,rfl⟩:=iV (HT.o y sL);obtain⟨g2,q2,w4,r2,O2,Va,at2,l2⟩:=pz (s_ g1 0 1 q1) [(a:Int)+1] (yn:Int) w.heap.size w3.heap.size (w3.alloc (.cells #[i_ (yn:Int)] 3)) (Py.alloc _) (by simp;omega) (by simp) (Go.Deep.blk_alloc_new _ _);have NW:b_ w (w3.alloc (.cells #[i_ (yn:Int)] 3)):=jg.o.alloc (by omega) _;have LP:H_ (b_ w w4):=NW.trans (kC Va (fun k hk=>by have:g1=k:=Option.some.inj hk;omega) NW.size);have We:=af r2;have HO:H_ (ao w4 w.heap.size (s_ g2 0 2 q2) (aG RL)):=by show ao _ _ _ _;rw[Vr.o,sL];exact O2
     clear Py O2 Va at2 r2 NW;go_wp2_with (first
      | (at_builtin;refine bJ rfl _ _ 70 rfl _ _ rfl rfl (aa Rm) ?_)
      | (at_builtin;refine bJ rfl _ _ 70 rfl _ _ rfl rfl (aa We) ?_))
     go_ret;exact⟨_,rfl,HO.o,LP.o⟩
   ·have KY:(if dc ⟨(op:Int),fa,fb,fc,fd⟩=true/\(op:Int)≠41 then[a+1]else[])=[]:=zcb (fun h=>cg ⟨GOE.o.symm.trans h.1,by have:=h.2;omega⟩);have Vr:H_ (RL=[]++(match cp ⟨(op:Int),fa,fb,fc,fd⟩with | none=>[] | some y=>[y.toNat])):=by{show RL=_;rw[vj.o,KY]};clear KY;have NG:(eE op=false)\/(eE op=true/\((op:Int) != 41)=false):=by
     cases h:eE op with
     | false=>exact .inl rfl
     | true=>exact .inr ⟨rfl,by have:op=41:=Classical.byContradiction (fun c=>cg ⟨h,c⟩);subst this;rfl⟩
    clear cg;cases sL:cp ⟨(op:Int),fa,fb,fc,fd⟩with
    | none=>
     have HO:H_ (ao w2 w.heap.size (.slice none 0 0) (aG RL)):=by{show ao _ _ _ _;rw[Vr.o,sL];exact zbh _ _ _ _};rcases NG with ng | ⟨ng,ng2⟩;all_goals rw[ng];go_wp2;go_ret;exact⟨_,rfl,HO.o,fM.o⟩
    | some y=>
     obtain⟨yn,rfl⟩:=iV (HT.o y sL);obtain⟨g2,q2,w4,r2,O2,Va,at2,l2⟩:=pz (.slice none 0 0) [] (yn:Int) w2.heap.size w2.heap.size (w2.alloc (.cells #[i_ (yn:Int)] 3)) (zbh _ _ _ _) (by simp) (by simp) (Go.Deep.blk_alloc_new _ _);have QJ:b_ w2 (w2.alloc (.cells #[i_ (yn:Int)] 3)):=r_.alloc n_ _;have LP:H_ (b_ w w4):=fM.o.trans ((QJ.trans (kC Va (fun k hk=>by cases hk) QJ.size)).mono (by omega));have HO:H_ (ao w4 w.heap.size (s_ g2 0 1 q2) (aG RL)):=by{show ao _ _ _ _;rw[Vr.o,sL];exact O2.base_le (by omega)};have We:=af r2;clear O2 Va at2 r2 QJ;rcases NG with ng | ⟨ng,ng2⟩;all_goals rw[ng];go_wp2_with (at_builtin;refine bJ rfl _ _ 70 rfl _ _ rfl rfl (aa We) ?_);go_ret;exact⟨_,rfl,HO.o,LP.o⟩
def ms (l:List Int):Nat->Int
 | 0=>l[0]?.getD 0
 | k+1=>min (ms l k) (l[k+1]?.getD 0)
theorem zX (l:List Int):∀ k j,j<=k->ms l k<=l[j]?.getD 0
 | 0,j,h=>by
  have:j=0:=by omega
  subst this;exact Int.le_refl _
 | k+1,j,h=>by
  show min (ms l k) (l[k+1]?.getD 0)<=_;by_cases e:j=k+1
  ·subst e;omega
  ·have:=zX l k j (by omega);omega
theorem Af (l:List Int):∀ k,∃ j,j<=k/\ms l k=l[j]?.getD 0
 | 0=>⟨0,n_,rfl⟩
 | k+1=>by
  obtain⟨j,hj,e⟩:=Af l k;show ∃ j,j<=k+1/\min (ms l k) (l[k+1]?.getD 0)=_;by_cases c:ms l k<=l[k+1]?.getD 0
  ·exact⟨j,by omega,by omega⟩
  ·exact⟨k+1,n_,by omega⟩
def DG (l:List Int)(w:w_)(e:Ending)(w':w_):Prop:=∃ y,e=.returned (i_ y)/\y∈l/\(∀ z,z∈l->y<=z)/\w'=w
theorem Mt (a:o_)(l:List Int)(c:Nat)(S:Nat->Prop)(w:w_)(hs:aQ w S a l)(hl:l.length<=1000000)(h0:0<l.length) :
  c_ 158 #[.slice a l.length c] w (DG l w):=by
 obtain⟨b,off,rfl,_,aC⟩:=hs.2 h0;have Pk:=af aC;have q0:=aC 0 h0;rw[Nat.add_zero]at q0;change w.cell? (a_ b off)=some (i_ (ms l 0))at q0;have cY:b<w.heap.size:=zbd _ _ q0;have Hh:(0:Int)<l.length:=by{omega};have acp:¬((l.length:Int)<1):=by{omega};have eL:H_ (DG l w (.returned (i_ (ms l (l.length-1)))) w):=by obtain⟨j,hj,e⟩:=Af l (l.length-1);refine⟨_,rfl,?_,fun z hz=>?_,rfl⟩;{rw[e,g_ (by omega)];exact zab _};{obtain⟨i,hi,rfl⟩:=zaf hz;have:=zX l (l.length-1) i (by omega);rw[g_ hi]at this;exact this}
 clear aC hs;go_enter Tryz.func158,Tryz.ntmps158;go_wp2
 go_loopg [3,4] (l.length-1) (fun gg m i wr=>∃ q:Nat,q+gg=l.length/\1<=q/\i=i_ q/\m=i_ (ms l (q-1))/\wr=w);(case atStart=>exact⟨1,by omega,by omega,rfl,rfl,rfl⟩);case round=>
  clear q0;obtain⟨q,hq,RY,rfl,rfl,rfl⟩:=hrel;by_cases au:q<l.length
  ·have qc:=aa Pk q au;have Rz:(q:Int)<l.length:=by omega
   obtain⟨k,rfl⟩:∃ k,q=k+1:=⟨q-1,by omega⟩;have MT:H_ (ms l (k+1)=min (ms l k) (l[k+1]?.getD 0)):=rfl;rw[Nat.add_sub_cancel];generalize l[k+1]?.getD 0=y at *;generalize ms l k=m at *;go_wp2_with fail
   all_goals go_roundg (l.length-(k+1+1));(case measure=>omega);case rel=>exact⟨k+1+1,by omega,by omega,by go_num,by first | (rw[Nat.add_sub_cancel,MT.o];done) | (rw[Nat.add_sub_cancel,MT.o];congr 1;omega),rfl⟩
  {have mx:q=l.length:=by{omega};subst mx;go_wp2;go_ret;exact eL.o}
end Go.Proofs.YtcjfjflljdojlaaGreatDoor
