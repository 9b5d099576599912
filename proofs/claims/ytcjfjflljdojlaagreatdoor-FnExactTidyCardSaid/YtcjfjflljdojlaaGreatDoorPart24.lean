import Derived.Test.YtcjfjflljdojlaaGreatDoorPart23
set_option linter.all false
set_option maxHeartbeats 4000000
set_option maxRecDepth 100000
namespace Go.Proofs.YtcjfjflljdojlaaGreatDoor
open Go.RowKit
def OV (op fa fb fc fd:Int):Prop:=∀ w:w_,c_ 60 #[.agg #[i_ op,i_ fa,i_ fb,i_ fc,i_ fd],.slice none 0 0] w fun e w'=>e=.returned (.tuple #[])/\b_ w w'
theorem tF (op:Int)(r:List Nat)(hr:bh op=some r)(qK:r[0]?.getD 0≠1)(fm:op≠6/\op≠22/\op≠27/\op≠28/\op≠40/\op≠41/\op≠42)(fa fb fc fd:Int):OV op fa fb fc fd:=by
 intro w;obtain⟨n6,n22,n27,n28,n40,n41,n42⟩:=fm;have RO:=af (fun W=>ij op W);rw[hr]at RO;have b6:(op==6)=false:=by{simpa using n6};have b22:(op==22)=false:=by{simpa using n22};have b27:(op==27)=false:=by{simpa using n27};have b28:(op==28)=false:=by{simpa using n28};have b40:(op==40)=false:=by{simpa using n40};have b41:(op==41)=false:=by{simpa using n41};have b42:(op==42)=false:=by simpa using n42
 have Lu:=af qK;clear hr qK n6 n22 n27 n28 n40 n41 n42;go_enter Tryz.func60,Tryz.ntmps60;go_wp2_with fail
 refine(aa RO _).mono ?_;rintro e w1 hF;obtain⟨b1,rfl,ar,bx,jN⟩:=ld hF;have f0:=bx.cell (i:=0) (by omega);have je:w.heap.size<w1.heap.size:=by{have:=jN.size;simp at this;omega};have B1:H_ (b_ w w1):=(r_.alloc n_ _).trans (jN.mono (by simp));have vl:(((r[0]?.getD 0:Nat):Int)==1)=false:=by{have:=Lu.o;simp;omega};generalize r[0]?.getD 0=q at *;clear hF bx jN RO;go_wp2;go_end0;exact⟨rfl,aa B1⟩
theorem zJ (op:Int)(fa fb fc fd:Int)(fm:1<=op/\op<=42)(hf:xr op fa fc 0):OV op fa fb fc fd:=by
 obtain⟨f1,f2,f3,f4⟩:=hf;by_cases c6:op=6;{subst c6;have:=f1 (by decide);omega};by_cases c22:op=22;{subst c22;have:=f1 (by decide);omega};by_cases c27:op=27;{subst c27;have:=f1 (by decide);omega};by_cases c28:op=28;{subst c28;have:=f1 (by decide);omega};by_cases c40:op=40;{subst c40;have:=f3 rfl;omega};by_cases c41:op=41;{subst c41;have:=f4 rfl;omega};by_cases c42:op=42;{subst c42;have:=f2 rfl;omega}
 cases hr:bh op with
 | none=>
  obtain⟨k,rfl⟩:∃ k:Nat,op=k:=⟨op.toNat,by omega⟩;rw[kW k (by omega) (by omega)]at hr;cases hr
 | some r=>
  rw[hr]at f1;by_cases h1:r[0]?.getD 0=1;{have:=f1 h1;omega};{exact tF op r hr h1 ⟨c6,c22,c27,c28,c40,c41,c42⟩ fa fb fc fd}
theorem tV {w:w_}{base:Nat}:ao w base (.slice none 0 0) []:=zbh _ _ _ _
theorem zl (n:az)(t:List Int):(bg n t).length=t.length:=by
 unfold bg;(repeat' split);all_goals simp
theorem Ck (n:az):bg n []=[]:=zac (by rw[zl];rfl)
theorem zM (op:Int)(fa fb fc fd:Int)(base:Nat)(v:Value)(t:List Int)(w:w_)(bb:ao w base v t)(aO:t.length<=250)(ei:base<=w.heap.size)(fm:1<=op/\op<=42)(hf:xr op fa fc t.length) :
  c_ 60 #[.agg #[i_ op,i_ fa,i_ fb,i_ fc,i_ fd],v] w (jt base v (bg ⟨op,fa,fb,fc,fd⟩ t) w):=by
 have di:=bb;rcases bb.2 with⟨rfl,h0⟩ | ⟨g,cap,gh,rfl,hb,hg,_⟩;{obtain rfl:t=[]:=zac h0;refine(zJ op fa fb fc fd fm hf w).mono ?_;rintro e w' ⟨rfl,hb⟩;refine⟨rfl,?_,hb.mono ei,fun k hk _=>hb.block k hk⟩;rw[Ck];exact tV};{exact AN op fa fb fc fd base g t.length cap t w di rfl aO hb (zbc.1 hg).1 fm hf}
def OX (S:Option gY)(base:Nat)(v:Value)(w:w_)(e:Ending)(w':w_):Prop:=
 ∃(tv:Value) (b:Bool),e=.returned (.tuple #[tv,.bool b])/\(b=true->∃ s,S=some s/\ao w' base v s.d/\ao w' w.heap.size tv (aG s.p))/\(b=false->S=none)/\Below base w w'
theorem uj {r:List Nat}{n:az}(hf:mV r n 0){k:Nat}(hk:k<4):(cM (r[k]?.getD 0)).1=0:=by
 obtain⟨f1,f2,f3,f4⟩:=hf k hk;by_cases h:(cM (r[k]?.getD 0)).1=0;{exact h};{rcases rO h with c | c | c | c | c | c | c | c;{exact zcc (f1 (.inl c)) (by omega)};{exact zcc (f1 (.inr c)) (by omega)};{exact zcc (f2 (.inl c)) (by omega)};{exact zcc (f2 (.inr (.inl c))) (by omega)};{exact zcc (f2 (.inr (.inr c))) (by omega)};{exact zcc (f3 c) (by omega)};{exact zcc (f4 (.inl c)) (by omega)};{exact zcc (f4 (.inr c)) (by omega)}}
theorem nw {r:List Nat}{n:az}{s:gY}(hf:mV r n 0):∀{k:Nat},k<=4->aW r n s k=some s
 | 0,_=>rfl
 | k+1,h=>by
  rw[ew (nw hf (k:=k) (by omega))];exact pV (uj hf (by omega))
theorem vr {l:List aj}{n:az}{r:List Nat}{t:List Int}(hr:bh n.op=some r)(hf:mV r n 0)(hu:tW l n 0):bH l n t=some ⟨t,[],[]⟩:=by
 unfold bH;have e:(bh n.op).getD []=r:=by{rw[hr];rfl};rw[e,nw hf (Nat.le_refl 4)];show(if _ then _ else _)=_;rw[zcb];rintro⟨h1,h2⟩;rw[List.any_eq_true]at h2;obtain⟨u,hm,UG⟩:=h2;obtain⟨_,_,h3⟩:=hu h1;cases e1:u.1 with
 | false=>rw[e1]at UG;cases UG
 | true=>exact zcc (h3 u hm e1) (by omega)
structure S4 (w:w_)(b1 b2:Nat)(a:o_)(m c:Nat)(n:az)(r:List Nat)(wr:w_):Prop where
 old:b_ w wr
 code:wr.cell? (a_ w.heap.size 0)=some (.slice a m c)
 u:aK wr (w.heap.size+1) 0 n
 T:wr.rowIs b1 3 4 (fun j=>i_ ((r[j]?.getD 0:Nat):Int))
 flds:wr.rowIs b2 3 4 (fun j=>i_ (dj n j))
theorem S4.below {w:w_}{b1 b2:Nat}{a:o_}{m c:Nat}{n:az}{r:List Nat}{wr w2:w_}(h:S4 w b1 b2 a m c n r wr)(hb:b_ wr w2):S4 w b1 b2 a m c n r w2:=by
 have au:w.heap.size+1<wr.heap.size:=zbd _ _ h.u.op;have e1:∀ o,w2.cell? (a_ (w.heap.size+1) o)=wr.cell? (a_ (w.heap.size+1) o):=fun o=>hb.cell (p:=(a_ (w.heap.size+1) o)) au;exact⟨h.old.trans (hb.mono h.old.size),(hb.cell (p:=(a_ w.heap.size 0)) (zbd _ _ h.code)).trans h.code,⟨(e1 _).trans h.u.op,(e1 _).trans h.u.fa,(e1 _).trans h.u.fb,(e1 _).trans h.u.fc,(e1 _).trans h.u.fd⟩,
  h.T.of_block (hb.block _ h.T.lt),h.flds.of_block (hb.block _ h.flds.lt)⟩
theorem B9 (l:List aj)(op fa fb fc fd:Int)(p:Int)(r:List Nat)(c:Nat)(S:Nat->Prop)(a:o_)(w:w_)(hs:am w S a l)(hB:∀ b,S b->b<w.heap.size)(hr:bh op=some r)(hf:mV r ⟨op,fa,fb,fc,fd⟩ 0)(hu:tW l ⟨op,fa,fb,fc,fd⟩ 0)(sP:∀ x,x∈l->x.s.length<=1000000)(pt:l.length<=1000000) :
    c_ 58 #[.agg #[.slice a l.length c],i_ p,.agg #[i_ op,i_ fa,i_ fb,i_ fc,i_ fd],.slice none 0 0] w fun e w'=>e=.returned (.tuple #[.slice none 0 0,.bool true])/\b_ w w':=by
  have hA:∀ o1 o2,b_ w ((w.alloc o1).alloc o2):=fun o1 o2=>(r_.alloc n_ o1).alloc (by simp) o2;have HR:=af hr;have HF:=af hf;have PB:=af hu;have qJ:=af hs;have gV:=af hB;have Ks:=af sP;obtain⟨m,hm⟩:∃ m,l.length=m:=⟨_,rfl⟩;have HM:=af hm;rw[hm]at pt;rw[hm];have RO:=af (fun W=>ij op W);rw[HR.o]at RO;clear hr hf hu hs hB sP hm;go_enter Tryz.func58,Tryz.ntmps58;go_wp2_with fail
  refine(aa RO _).mono ?_;rintro e w1 hF;obtain⟨b1,rfl,ar,sm,lr⟩:=ld hF;have e2:∀ o1 o2,((w.alloc o1).alloc o2).heap.size=w.heap.size+2:=fun _ _=>by simp
  rw[e2]at ar;replace lr:=lr.mono (Nat.le_of_eq (e2 _ _).symm);obtain⟨cT,fI⟩:=cz (W:=(w.alloc (.cells #[.slice a m c] 28)).alloc (.cells #[i_ op,i_ fa,i_ fb,i_ fc,i_ fd] 51)) (w1:=w1) (by rw[e2];exact lr);rw[e2]at cT;have j0:w1.cell? (a_ (w.heap.size+1) 0)=some (i_ op):=by{rw[cT _ _ (by omega)];simp[go_sem]};have j1:w1.cell? (a_ (w.heap.size+1) 1)=some (i_ fa):=by{rw[cT _ _ (by omega)];simp[go_sem]};have j2:w1.cell? (a_ (w.heap.size+1) 2)=some (i_ fb):=by{rw[cT _ _ (by omega)];simp[go_sem]};have j3:w1.cell? (a_ (w.heap.size+1) 3)=some (i_ fc):=by{rw[cT _ _ (by omega)];simp[go_sem]};have j4:w1.cell? (a_ (w.heap.size+1) 4)=some (i_ fd):=by{rw[cT _ _ (by omega)];simp[go_sem]};have jc:w1.cell? (a_ w.heap.size 0)=some (.slice a m c):=by{rw[cT _ _ (by omega)];simp[go_sem]};have je:w.heap.size+1<w1.heap.size:=by{have:=lr.size;rw[e2]at this;omega};have dL:H_ (b_ w w1):=(hA _ _).trans (lr.mono (by omega));have rB:=af sm;clear hF sm lr cT fI RO e2;go_wp2_with fail
  refine(lE op fa fb fc fd w1).mono ?_;rintro e w2 ⟨b2,rfl,bj,qv,mz⟩;have sn:=mz.size;obtain⟨e9,wd⟩:=cz mz;have Kp:=(aa rB).lt;have W0:H_ (S4 w b1 b2 a m c ⟨op,fa,fb,fc,fd⟩ r w2):=
    ⟨(aa dL).trans (mz.mono (aa dL).size),(e9 _ _ (by omega)).trans jc,
     ⟨(e9 _ _ (by omega)).trans j0,(e9 _ _ (by omega)).trans j1,(e9 _ _ (by omega)).trans j2,(e9 _ _ (by omega)).trans j3,(e9 _ _ (by omega)).trans j4⟩,
     (aa rB).of_block (mz.block _ Kp),qv⟩
  clear mz qv e9 wd sn j0 j1 j2 j3 j4 jc rB dL Kp;go_wp2;go_loopg [10,30] 4 (fun gg tv i wr=>∃ k:Nat,k+gg=4/\i=i_ k/\tv=.slice none 0 0/\S4 w b1 b2 a m c ⟨op,fa,fb,fc,fd⟩ r wr);(case atStart=>exact⟨0,by omega,rfl,rfl,aa W0⟩);case round=>
    clear W0;obtain⟨k,hk,rfl,rfl,hW⟩:=hrel;by_cases gz:k<4;{have y1:=hW.T.cell (i:=k) gz;have y2:=hW.flds.cell (i:=k) gz;have y3:=hW.T.lt;have y4:=hW.flds.lt;have mj:r[k]?.getD 0<=21:=fC HR.o k;have hz:=uj (aa HF) gz;generalize r[k]?.getD 0=q at *;have WA:=af (fun W=>er q mj W);rw[hz]at WA;have HW:=af hW;clear hW hz;go_wp2_with fail;refine(aa WA _).mono ?_;rintro e w3 ⟨rfl,rfl⟩;go_wp2;go_roundg (4-(k+1));(case measure=>omega);case rel=>exact⟨k+1,by omega,by go_num,rfl,aa HW⟩}
    · have HW:=af hW;have c0:=hW.u.op;have cb:=hW.u.fb;have cc:=hW.code;have zz:w.heap.size+1<wr.heap.size:=zbd _ _ c0;rw[Nat.zero_add]at cb;clear hW HF;by_cases fm:op=11
      · obtain⟨f0,f1,qC⟩:=PB.o fm;change 0<=fb at f0;change fb<l.length at f1;obtain⟨F,rfl⟩:=iV f0;have Ht:F<l.length:=by{omega};obtain⟨pb,po,rfl,PM,uV⟩:=(aa qJ).2 (by omega);have PC:=uV F Ht;obtain⟨ua,uc,Bp,PH⟩:=PC.s;have Vz:=((aa HW).old.cell (p:=(a_ pb (po+F * 9+5))) (aa gV pb PM)).trans Bp;have eZ:(l[F]?.getD aj.z)∈l:=by rw[g_ Ht];exact zab Ht
        have sP:=aa Ks _ eZ;change ∀ u,u∈(l[F]?.getD aj.z).s->u.1=true->0<=u.2/\u.2<((0:Nat):Int)at qC;have KU:pb<wr.heap.size:=l_ (aa gV pb PM) (aa HW).old.size;have VM:=af PH;have Bb:=af qC;have hFm:(F:Int)<m:=by have:=HM.o;omega
        have Zb:(0:Int)<=(F:Int):=by{omega};have ob:(op==11)=true:=by{simpa using fm};clear uV PC PH qC eZ f0 f1 fm PB Bp;generalize (l[F]?.getD aj.z).s=us at *;go_wp2;go_loopg [136] us.length (fun gg i wr'=>∃ q:Nat,q+gg=us.length/\i=i_ q/\S4 w b1 b2 (some (a_ pb po)) m c ⟨op,fa,(F:Int),fc,fd⟩ r wr');(case atStart=>exact⟨0,by omega,rfl,aa HW⟩);case round=>clear HW c0 cb cc Vz KU;obtain⟨q,hq,rfl,hW⟩:=hrel;have zz:w.heap.size+1<wr.heap.size:=zbd _ _ hW.u.op;by_cases fq:q<us.length;{obtain⟨ub,uo,rfl,VH,Ph⟩:=((aa VM).keep hW.old (aa gV)).2 (by omega);obtain⟨e0,e1⟩:=Ph q fq;have eZ:us[q]?.getD (false,0)∈us:=by{rw[g_ fq];exact zab fq};have UX:=af (aa Bb _ eZ);have UZ:ub<wr.heap.size:=l_ (aa gV ub VH) hW.old.size;clear Ph eZ;generalize us[q]?.getD (false,0)=u at *;obtain⟨BF,ix⟩:=u;dsimp only at *;cases BF;{have LX:=af (hW.below (r_.alloc n_ (.cells #[.bool false,i_ ix] 46)));clear hW;go_wp2;go_roundg (us.length-(q+1));(case measure=>omega);case rel=>exact⟨q+1,by omega,by go_num,aa LX⟩};{exact zcc (aa UX rfl) (by omega)}};{have HW:=af hW;clear hW;go_wp2;go_ret2;exact⟨rfl,(aa HW).old⟩}
      {have ob:(op==11)=false:=by{simpa using fm};clear fm;go_wp2;go_ret2;exact⟨rfl,(aa HW).old⟩}
theorem Dp (l:List aj)(op fa fb fc fd:Int)(p:Int)(r:List Nat)(t:List Int)(base c:Nat)(v:Value)(S:Nat->Prop)(a:o_)(w:w_)(hs:am w S a l)(hB:∀ b,S b->b<base)(hr:bh op=some r)(hf:mV r ⟨op,fa,fb,fc,fd⟩ t.length)(hu:tW l ⟨op,fa,fb,fc,fd⟩ t.length)(sP:∀ x,x∈l->x.s.length<=1000000)(pt:l.length<=1000000)
  (bb:ao w base v t)(aO:t.length<=250)(ei:base<=w.heap.size) :
  c_ 58 #[.agg #[.slice a l.length c],i_ p,.agg #[i_ op,i_ fa,i_ fb,i_ fc,i_ fd],v] w (OX (bH l ⟨op,fa,fb,fc,fd⟩ t) base v w):=by
 have di:=bb;rcases bb.2 with⟨rfl,h0⟩ | ⟨g,cap,gh,rfl,hb,hg,_⟩;{obtain rfl:t=[]:=zac h0;refine(B9 l op fa fb fc fd p r c S a w hs (fun b h=>l_ (hB b h) ei) hr hf hu sP pt).mono ?_;rintro e w' ⟨rfl,hb⟩;exact⟨_,true,rfl,fun _=>⟨_,vr hr hf hu,tV,tV⟩,fun h=>Bool.noConfusion h,hb.mono ei⟩};{refine(Ci l op fa fb fc fd p r t base g t.length cap c S a w hs hB hr hf hu sP pt di rfl aO hb (zbc.1 hg).1).mono ?_;exact fun e w' h=>h}
def vL (σ:dW)(R:Nat->Value×Value)(j:Nat):Value:=if j % 3=0 then .bool (σ.st (j / 3)).isSome else if j % 3=1 then(R (j / 3)).1 else(R (j / 3)).2
def mE:Value×Value:=(.slice none 0 0,.slice none 0 0)
structure LI (w:w_)(bC bF bP bS bD bT:Nat):Prop where
 o1:w.heap.size<=bC
 o2:bC<bF
 o3:bF<bP
 o4:bP<bS
 o5:bS<bD
 o6:bD<bT
structure oq (w:w_)(bC bF bP bS bD bT:Nat)(a:o_)(m c:Nat)(nm:ByteArray)(ln pr:Int)(rs:Bool)(rg:Int)(v5 v6 v7 v8:Value)(N:Nat)(σ:dW)(R:Nat->Value×Value)(wr:w_):Prop where
 old:b_ w wr
 size:bT<=wr.heap.size
 code:wr.cell? (a_ bC 0)=some (.slice a m c)
 res:wr.rowIs bF 36 3 (fun _=>i_ 0)
 prot:gM wr bP nm ln pr rs rg v5 v6 v7 v8
 sts:wr.rowIs bS 97 (N * 3) (vL σ R)
 b:wr.rowIs bD 4 N (fun j=>.bool (σ.b j))
 own:∀ i s,i<N->σ.st i=some s->ao wr bT (R i).1 s.d/\cd wr bT (R i).2 s.r
 none_:∀ i,i<N->σ.st i=none->R i=mE
section
variable {w:w_} {bC bF bP bS bD bT:Nat} {a:o_} {m c:Nat} {nm:ByteArray} {ln pr:Int} {rs:Bool} {rg:Int} {v5 v6 v7 v8:Value} {N:Nat} {σ σ':dW} {R R':Nat->Value×Value} {wr w2:w_}
theorem oq.below (h:oq w bC bF bP bS bD bT a m c nm ln pr rs rg v5 v6 v7 v8 N σ R wr)(hB:LI w bC bF bP bS bD bT)(hb:b_ wr w2):oq w bC bF bP bS bD bT a m c nm ln pr rs rg v5 v6 v7 v8 N σ R w2 where
 old:=h.old.trans (hb.mono h.old.size)
 size:=zah h.size hb.size
 code:=(hb.cell (p:=(a_ bC 0)) (by have:=h.size;obtain⟨_,_,_,_,_,_⟩:=hB;show bC<wr.heap.size;omega)).trans h.code
 res:=h.res.of_block (hb.block _ h.res.lt)
 prot:=h.prot.keep hb (by have:=h.size;obtain⟨_,_,_,_,_,_⟩:=hB;omega)
 sts:=h.sts.of_block (hb.block _ h.sts.lt)
 b:=h.b.of_block (hb.block _ h.b.lt)
 own i s hi hs:=⟨(h.own i s hi hs).1.below hb,(h.own i s hi hs).2.below hb⟩
 none_:=h.none_
theorem cd.setOther {base:Nat}{v:Value}{t:List bc}{W:w_}(h:cd W base v t){D j:Nat}{u:Value}(hD:D<base):cd (W.setCell (a_ D j) u) base v t:=by
 refine⟨h.1,?_⟩;rcases h.2 with hn | ⟨g,cap,gh,rfl,h1,hg,h2⟩;{exact .inl hn};{exact .inr ⟨g,cap,gh,rfl,h1,(zbg W (a_ D j) g u (fun e=>by have e:g=D:=e;omega)).trans hg,h2⟩}
theorem nC {W:w_}{b D j:Nat}{u:Value}(h:gM W b nm ln pr rs rg v5 v6 v7 v8)(hD:D≠b):gM (W.setCell (a_ D j) u) b nm ln pr rs rg v5 v6 v7 v8:=by
 obtain⟨h0,h1,h2,h3,h4,h5,h6,h7,h8⟩:=h;have e:∀ o,(W.setCell (a_ D j) u).cell? (a_ b o)=W.cell? (a_ b o):=fun o=>zbe (a:=(a_ b o)) (zbg W (a_ D j) b u (fun e=>hD e.symm));exact⟨(e _).trans h0,(e _).trans h1,(e _).trans h2,(e _).trans h3,(e _).trans h4,(e _).trans h5,(e _).trans h6,(e _).trans h7,(e _).trans h8⟩
theorem oq.setDue (h:oq w bC bF bP bS bD bT a m c nm ln pr rs rg v5 v6 v7 v8 N σ R wr)(hB:LI w bC bF bP bS bD bT)(i:Nat)(x:Bool):oq w bC bF bP bS bD bT a m c nm ln pr rs rg v5 v6 v7 v8 N ⟨σ.st,bY σ.b i x⟩ R (wr.setCell (a_ bD i) (.bool x)):=by
 obtain⟨o1,o2,o3,o4,o5,o6⟩:=hB;exact {
  old:=h.old.setCell (by show w.heap.size<=bD;omega) _
  size:=by have:=h.size;simpa using this
  code:=by rw[World.cell?_setCell_other (h:=by intro e;injection e;omega)];exact h.code
  res:=h.res.of_block (zbg wr (a_ bD i) _ _ (by show bF≠bD;omega))
  prot:=nC h.prot (by omega)
  sts:=h.sts.of_block (zbg wr (a_ bD i) _ _ (by show bS≠bD;omega))
  b:=(h.b.set i _).congr (fun j hj=>by
   show _=Value.bool (bY σ.b i x j);unfold bY;split<;>rfl)
  own:=fun j s hj hs=>⟨(h.own j s hj hs).1.setOther (by omega),(h.own j s hj hs).2.setOther (by omega)⟩
  none_:=h.none_ }
theorem oq.setSt (h:oq w bC bF bP bS bD bT a m c nm ln pr rs rg v5 v6 v7 v8 N σ R wr)(hB:LI w bC bF bP bS bD bT)(i:Nat)(s:fK)(tv gv:Value)(h1:ao wr bT tv s.d)(h2:cd wr bT gv s.r) :
  oq w bC bF bP bS bD bT a m c nm ln pr rs rg v5 v6 v7 v8 N ⟨bY σ.st i (some s),σ.b⟩ (bY R i (tv,gv)) (((wr.setCell (a_ bS (i * 3)) (.bool true)).setCell (a_ bS (i * 3+1)) tv).setCell (a_ bS (i * 3+2)) gv):=by
 obtain⟨o1,o2,o3,o4,o5,o6⟩:=hB;have hk:∀ k,k≠bS->(((wr.setCell (a_ bS (i * 3)) (.bool true)).setCell (a_ bS (i * 3+1)) tv).setCell (a_ bS (i * 3+2)) gv).heap[k]? = wr.heap[k]?:=fun k hk=>by
  rw[zbg _ (a_ bS _) _ _ hk,zbg _ (a_ bS _) _ _ hk,zbg _ (a_ bS _) _ _ hk]
 exact {
  old:=((h.old.setCell (by show w.heap.size<=bS;omega) _).setCell (by show w.heap.size<=bS;omega) _).setCell (by show w.heap.size<=bS;omega) _
  size:=by have:=h.size;simpa using this
  code:=(zbe (a:=(a_ bC 0)) (hk bC (by omega))).trans h.code
  res:=h.res.of_block (hk bF (by omega))
  prot:=nC (nC (nC h.prot (by omega)) (by omega)) (by omega)
  sts:=by
   refine(((h.sts.set (i * 3) _).set (i * 3+1) _).set (i * 3+2) _).congr fun j hj=>?_;show(if j=i * 3+2 then gv else if j=i * 3+1 then tv else if j=i * 3 then .bool true else vL σ R j)=vL ⟨bY σ.st i (some s),σ.b⟩ (bY R i (tv,gv)) j;unfold vL bY;by_cases e:j / 3=i
   ·by_cases e0:j % 3=0
    ·rw[zcb (by omega),zcb (by omega),zca (by omega),zca e0];simp[e]
    ·by_cases e1:j % 3=1
     ·rw[zcb (by omega),zca (by omega),zcb e0,zca e1];simp[e]
     ·rw[zca (by omega),zcb e0,zcb e1];simp[e]
   ·rw[zcb (by omega),zcb (by omega),zcb (by omega)];simp[e]
  b:=h.b.of_block (hk bD (by omega))
  own:=fun j t hj ht=>by
   change bY σ.st i (some s) j=some t at ht;unfold bY at ht ⊢;by_cases e:j=i
   ·rw[zca e]at ht ⊢;cases ht;exact⟨((h1.setOther (by omega)).setOther (by omega)).setOther (by omega),((h2.setOther (by omega)).setOther (by omega)).setOther (by omega)⟩
   ·rw[zcb e]at ht ⊢;obtain⟨k1,k2⟩:=h.own j t hj ht;exact⟨((k1.setOther (by omega)).setOther (by omega)).setOther (by omega),((k2.setOther (by omega)).setOther (by omega)).setOther (by omega)⟩
  none_:=fun j hj hn=>by
   change bY σ.st i (some s) j=none at hn;unfold bY at hn ⊢;by_cases e:j=i
   ·rw[zca e]at hn;cases hn
   ·rw[zcb e]at hn ⊢;exact h.none_ j hj hn }
theorem oq.reached (h:oq w bC bF bP bS bD bT a m c nm ln pr rs rg v5 v6 v7 v8 N σ R wr){i:Nat}(hi:i<N):wr.cell? (a_ bS (i * 3))=some (.bool (σ.st i).isSome):=by
 have:=h.sts.cell (i:=i * 3) (by omega);rw[this];unfold vL;rw[zca (by omega),show i * 3 / 3=i by omega]
theorem oq.typesV (h:oq w bC bF bP bS bD bT a m c nm ln pr rs rg v5 v6 v7 v8 N σ R wr){i:Nat}(hi:i<N):wr.cell? (a_ bS (i * 3+1))=some (R i).1:=by
 have:=h.sts.cell (i:=i * 3+1) (by omega);rw[this];unfold vL;rw[zcb (by omega),zca (by omega),show(i * 3+1) / 3=i by omega]
theorem oq.guardsV (h:oq w bC bF bP bS bD bT a m c nm ln pr rs rg v5 v6 v7 v8 N σ R wr){i:Nat}(hi:i<N):wr.cell? (a_ bS (i * 3+2))=some (R i).2:=by
 have:=h.sts.cell (i:=i * 3+2) (by omega);rw[this];unfold vL;rw[zcb (by omega),zcb (by omega),show(i * 3+2) / 3=i by omega]
end
theorem ao.ints {w:w_}{base:Nat}{v:Value}{t:List Int}(h:ao w base v t)(hl:t.length<=1000000):∃ a c,v=.slice a t.length c/\aQ w (fun b=>base<=b/\b<w.heap.size) a t:=by
 by_cases h0:0<t.length;{obtain⟨g,cap,rfl,h1,h2,h3⟩:=h.at h0;exact⟨_,_,rfl,by omega,fun _=>⟨g,0,rfl,⟨h1,h2⟩,fun j hj=>by rw[Nat.zero_add];exact h3 j hj⟩⟩};{obtain⟨a,c,rfl⟩:=h.lenV;exact⟨a,c,rfl,by omega,fun h=>zcc h h0⟩}
theorem cd.gus {w:w_}{base:Nat}{v:Value}{t:List bc}(h:cd w base v t)(hl:t.length<=1000000):∃ a c,v=.slice a t.length c/\bw w (fun b=>base<=b/\b<w.heap.size) a t:=by
 by_cases h0:0<t.length;{obtain⟨g,cap,rfl,h1,h2,_,h3⟩:=h.at h0;exact⟨_,_,rfl,by omega,fun _=>⟨g,0,rfl,⟨h1,h2⟩,fun j hj=>by rw[Nat.zero_add];exact h3 j hj⟩⟩};{obtain⟨a,c,rfl⟩:=h.lenV;exact⟨a,c,rfl,by omega,fun h=>zcc h h0⟩}
theorem un {W:w_}{G T n i:Nat}{f:Nat->Value}(h:W.rowIs G T n f)(hi:n<=i):W.cell? (a_ G i)=none:=by
 obtain⟨cs,h1,h2,_⟩:=h;unfold World.cell?;simp only[h1];simp;omega
theorem tD {W:w_}{S:Nat->Prop}{a:o_}{t:List Int}{G n T:Nat}{f:Nat->Value}(h:aQ W S a t)(hr:W.rowIs G T n f)(hf:∀ j,j<n->∀ x:Int,f j≠i_ x):aQ W (fun b=>S b/\b≠G) a t:=
 ⟨h.1,fun h0=>by
  obtain⟨b,off,rfl,hs,hc⟩:=h.2 h0;refine⟨b,off,rfl,⟨hs,fun e=>?_⟩,hc⟩;subst e;have c0:=hc 0 h0;by_cases hj:off+0<n
  ·rw[hr.cell hj]at c0;exact hf _ hj _ (Option.some.inj c0)
  ·rw[un hr (i:=off+0) (by omega)]at c0;cases c0⟩
theorem ws {W:w_}{S:Nat->Prop}{a:o_}{t:List bc}{G n T:Nat}{f:Nat->Value}(h:bw W S a t)(hr:W.rowIs G T n f)(hf:∀ j,j<n->∀ x:Int,f j≠i_ x):bw W (fun b=>S b/\b≠G) a t:=
 ⟨h.1,fun h0=>by
  obtain⟨b,off,rfl,hs,hc⟩:=h.2 h0;refine⟨b,off,rfl,⟨hs,fun e=>?_⟩,hc⟩;subst e;have c0:=(hc 0 h0).keep;by_cases hj:off+0 * 3+1<n
  ·rw[hr.cell hj]at c0;exact hf _ hj _ (Option.some.inj c0)
  ·rw[un hr (i:=off+0 * 3+1) (by omega)]at c0;cases c0⟩
theorem Nn {σ:dW}{R:Nat->Value×Value}{N:Nat}(h1:∀ i,i<N->∃ a n c,(R i).1=.slice a n c)(h2:∀ i,i<N->∃ a n c,(R i).2=.slice a n c)(j:Nat)(hj:j<N * 3)(x:Int):vL σ R j≠i_ x:=by
 unfold vL;split;{exact fun h=>Value.noConfusion h};{split;{obtain⟨a,n,c,e⟩:=h1 (j / 3) (by omega);rw[e];exact fun h=>Value.noConfusion h};{obtain⟨a,n,c,e⟩:=h2 (j / 3) (by omega);rw[e];exact fun h=>Value.noConfusion h}}
theorem oq.slices {w:w_}{bC bF bP bS bD bT:Nat}{a:o_}{m c:Nat}{nm:ByteArray}{ln pr:Int}{rs:Bool}{rg:Int}{v5 v6 v7 v8:Value}{N:Nat}{σ:dW}{R:Nat->Value×Value}{wr:w_}(h:oq w bC bF bP bS bD bT a m c nm ln pr rs rg v5 v6 v7 v8 N σ R wr){i:Nat}(hi:i<N) :
  (∃ a n c,(R i).1=.slice a n c)/\∃ a n c,(R i).2=.slice a n c:=by
 cases e:σ.st i with
 | none=>rw[h.none_ i hi e];exact⟨⟨_,_,_,rfl⟩,⟨_,_,_,rfl⟩⟩
 | some s=>
  obtain⟨o1,o2⟩:=h.own i s hi e;obtain⟨a1,c1,e1⟩:=o1.lenV;obtain⟨a2,c2,e2⟩:=o2.lenV;exact⟨⟨_,_,_,e1⟩,⟨_,_,_,e2⟩⟩
theorem ao.sameBlock {W W':w_}{base:Nat}{v:Value}{t:List Int}(h:ao W base v t)(hb:∀ k,v.ownBlock=some k->W'.heap[k]? = W.heap[k]?):ao W' base v t:=by
 refine⟨h.1,?_⟩;rcases h.2 with hn | ⟨g,cap,gh,rfl,h1,hg,h2⟩;{exact .inl hn};{exact .inr ⟨g,cap,gh,rfl,h1,(hb g rfl).trans hg,h2⟩}
theorem cd.sameBlock {W W':w_}{base:Nat}{v:Value}{t:List bc}(h:cd W base v t)(hb:∀ k,v.ownBlock=some k->W'.heap[k]? = W.heap[k]?):cd W' base v t:=by
 refine⟨h.1,?_⟩;rcases h.2 with hn | ⟨g,cap,gh,rfl,h1,hg,h2⟩;{exact .inl hn};{exact .inr ⟨g,cap,gh,rfl,h1,(hb g rfl).trans hg,h2⟩}
theorem cd.lt' {W:w_}{base:Nat}{v:Value}{t:List bc}(h:cd W base v t)(k:Nat)(hk:v.ownBlock=some k):base<=k/\k<W.heap.size:=by
 rcases h.2 with⟨rfl,_⟩ | ⟨g,cap,gh,rfl,h1,hg,_⟩;{cases hk};{obtain rfl:g=k:=Option.some.inj hk;exact⟨h1,(zbc.1 hg).1⟩}
theorem ao.lt' {W:w_}{base:Nat}{v:Value}{t:List Int}(h:ao W base v t)(k:Nat)(hk:v.ownBlock=some k):base<=k/\k<W.heap.size:=by
 rcases h.2 with⟨rfl,_⟩ | ⟨g,cap,gh,rfl,h1,hg,_⟩;{cases hk};{obtain rfl:g=k:=Option.some.inj hk;exact⟨h1,(zbc.1 hg).1⟩}
theorem fJ.lenV {W:w_}{base:Nat}{v:Value}{t:List xI}(h:fJ W base v t):∃ a c,v=.slice a t.length c:=by
 rcases h.2 with⟨rfl,h0⟩ | ⟨g,cap,gh,rfl,_⟩;{rw[h0];exact⟨none,0,rfl⟩};{exact⟨_,_,rfl⟩}
theorem Me (t:List xI):∀(j i:Nat),j<t.length->i<4->(t.flatMap Qt)[j * 4+i]? = (Qt (t[j]?.getD xI.z))[i]?:=by
 induction t with
 | nil=>intro j i hj;cases hj
 | cons x t ih=>
  intro j i hj hi;have aO:(Qt x).length=4:=rfl;cases j with
  | zero=>
   rw[List.flatMap_cons,List.getElem?_append_left (by rw[aO];omega)];simp
  | succ j=>
   rw[List.flatMap_cons,List.getElem?_append_right (by rw[aO];omega),aO,show(j+1) * 4+i-4=j * 4+i by omega];exact ih j i (by simpa using hj) hi
theorem fJ.at {W:w_}{base:Nat}{v:Value}{t:List xI}(h:fJ W base v t)(h0:0<t.length):∃ g cap,v=s_ g 0 t.length cap/\base<=g/\g<W.heap.size/\∀ j,j<t.length->∀ i,i<4->W.cell? (a_ g (j * 4+i))=(Qt (t[j]?.getD xI.z))[i]?:=by
 rcases h.2 with⟨_,h1⟩ | ⟨g,cap,gh,rfl,hb,hg,h2⟩;{omega};{refine⟨g,cap,rfl,hb,(zbc.1 hg).1,fun j hj i hi=>?_⟩;have h3:=World.ownsRow.cellAt h (j * 4+i) (by omega);rw[h3];exact Me t j i hj hi}
theorem fJ.setOther {W:w_}{base:Nat}{v:Value}{t:List xI}(h:fJ W base v t){D j:Nat}{u:Value}(hD:D<base):fJ (W.setCell (a_ D j) u) base v t:=by
 refine⟨h.1,?_⟩;rcases h.2 with hn | ⟨g,cap,gh,rfl,h1,hg,h2⟩;{exact .inl hn};{exact .inr ⟨g,cap,gh,rfl,h1,(zbg W (a_ D j) g u (fun e=>by have e:g=D:=e;omega)).trans hg,h2⟩}
theorem Jv {n:aj}{np i:Nat}(h:dn n np i=true)(hr:0<=n.m):mV ((bh (aR n i).op).getD []) (aR n i) n.m.toNat:=by
 obtain⟨_,hf,_⟩:=gI h;intro k hk;have f:=hf k hk;refine⟨fun e=>?_,fun e=>?_,fun e=>?_,fun e=>?_⟩;{rcases e with e | e<;>(rw[e]at f;have:=aU (show dw _ (-n.m) (n.m-1)=true from f);omega)};{rcases e with e | e | e<;>(rw[e]at f;have:=aU (show dw _ 0 (n.m-1)=true from f);omega)};{rw[e]at f;have:=aU (show dw _ 0 (n.m-3)=true from f);omega};{rcases e with e | e<;>(rw[e]at f;have:=aU (show dw _ 0 (n.m-2)=true from f);omega)}
theorem jd {n:aj}{np i:Nat}(h:dn n np i=true)(hi:i<n.u.length)(hr:0<=n.m):wN (aR n i) i n.m.toNat n.u.length:=by
 obtain⟨_,hf,hl⟩:=gI h;obtain⟨ha,hb⟩:=mX h;have f0:=hf 0 (by omega);have f1:=hf 1 (by omega);change dh n np (aR n i).fa _=true at f0;change dh n np (aR n i).fb _=true at f1;refine⟨fun e=>?_,fun e=>?_,fun e=>?_,fun e=>?_,fun e=>?_⟩;{rw[e]at f1;have:=aU (show dw _ 0 (n.m-2)=true from f1);omega};{by_cases c:i+1=n.u.length;{unfold dc at e;rcases hl c with c | c | c<;>(rw[c]at e;exact zcc e (by decide))};{omega}};{have:=ha e;omega};{have:=hb e;omega};{rcases e with e | e<;>(rw[e]at f0;have:=aU (show dw _ 0 n.m=true from f0);omega)}
structure uU (l:List aj)(p:Nat):Prop where
 here:p<l.length
 many:l.length<=200
 m:0<=(al l p).m/\(al l p).m<=250
 pars:0<=(al l p).l/\(al l p).l<=(al l p).m
 e:(al l p).e=true->(al l p).l<(al l p).m
 some_:0<(al l p).u.length
 few:(al l p).u.length<=6000
 u:∀ i,i<(al l p).u.length->dn (al l p) l.length i=true
 made:∀ i,i<(al l p).u.length->tW l (aR (al l p) i) (al l p).m.toNat
 s:∀ x,x∈l->x.s.length<=1000000
theorem wu {α:Type}(f:α->Nat):∀(l:List α)(x:α),x∈l->f x<=aS f l
 | y::l,x,h=>by
  simp only[aS,List.map_cons,List.sum_cons];rcases List.mem_cons.1 h with rfl | h
  ·omega
  ·have:=wu f l x h;unfold aS at this;omega
theorem oa {l:List aj}(h:cZ l 0 0 0){p:Nat}(hp:p<l.length):uU l p:=by
 have hP:eO l 0 0 0/\rj l (mL l) (iE l):=by rcases h with⟨_,h⟩ | ⟨_,h,_⟩ | ⟨_,_,h,_⟩ | ⟨h1,h2,_⟩;{exact zcc rfl h};{exact zcc h (by decide)};{exact zcc h (by decide)};{exact⟨h1,h2⟩}
 obtain⟨h1,h6⟩:=hP;obtain⟨hs,hh,h5,_,_⟩:=uP h1;have eZ:∀ g,g<l.length->al l g∈l:=fun g hg=>by unfold al;rw[g_ hg];exact zab hg
 have hd:=hh p hp;unfold ef at hd;simp only[Bool.and_eq_true]at hd;obtain⟨⟨⟨⟨⟨⟨_,_⟩,d2⟩,d3⟩,_⟩,_⟩,_⟩:=hd;have e2:=aU d2;have e3:=aU d3;have Lc:(al l p).u.length≠0:=fun e=>by have:=h5 p 0 hp (by unfold j9;rw[zca e];omega);unfold gX at this;rw[zca e]at this;cases this
 have dY:∀ i,i<(al l p).u.length->dn (al l p) l.length i=true:=fun i hi=>by
  have:=h5 p i hp (by unfold j9;rw[zcb Lc];exact hi);unfold gX at this;rw[zcb Lc]at this;simpa using this
 unfold eD at hs;refine⟨hp,by omega,e2,⟨e3.1,by have:=e3.2;split at this<;>omega⟩,fun hr=>by have:=e3.2;rw[zca hr]at this;omega,by omega,?_,dY,fun i hi fm=>?_,fun x hx=>?_⟩;{have:=wu bZ l _ (eZ p hp);change (al l p).u.length<=_ at this;omega};{have b6:=h6 p i hp hi;unfold iE at b6;rw[fm]at b6;simp only[beq_self_eq_true,Bool.true_and,Bool.or_eq_false_iff,decide_eq_false_iff_not,Bool.not_eq_false']at b6;obtain⟨_,hf,_⟩:=gI (dY i hi);have f1:=hf 1 (by omega);change dh (al l p) l.length (aR (al l p) i).fb _=true at f1;rw[fm]at f1;have g1:=aU (show dw _ 0 ((l.length:Int)-1)=true from f1);refine⟨g1.1,by omega,fun u hu h1=>?_⟩;have b7:=b6.2;obtain⟨j,hj,rfl⟩:=zaf hu;have:=zY b7 j (Nat.zero_le _) hj;rw[g_ hj]at this;change mS (al l p) ((al l (aR (al l p) i).fb.toNat).s[j])=true at this;unfold mS at this;rw[h1]at this;have:=aU this;omega};{obtain⟨g,hg,rfl⟩:=zaf hx;have:=hh g hg;unfold ef al at this;rw[g_ hg]at this;simp only[Bool.and_eq_true,Option.getD_some,decide_eq_true_eq]at this;omega}
def wB:List Nat->Code->Code
 | [],c=>c
 | 0::ds,.seq a _=>wB ds a
 | _::ds,.seq _ b=>wB ds b
 | _::ds,.block _ c=>wB ds c
 | _::ds,.scope c=>wB ds c
 | _::ds,.loop c=>wB ds c
 | 0::ds,.cond _ a _=>wB ds a
 | _::ds,.cond _ _ b=>wB ds b
 | _,c=>c
def tJ (l:List aj)(x:aj)(base:Nat)(v:Value)(w':w_):Prop:=
 ∃(k:Nat) (σ:dW) (bS bT:Nat) (R:Nat->Value×Value),v=s_ bS 0 x.u.length x.u.length/\ju l x k σ/\mp σ x.u.length/\oR x.m.toNat x.u.length σ/\base<=bS/\bS<bT/\w'.rowIs bS 97 (x.u.length * 3) (vL σ R) /\
  (∀ i s,i<x.u.length->σ.st i=some s->ao w' bT (R i).1 s.d/\cd w' bT (R i).2 s.r)/\(∀ i,i<x.u.length->σ.st i=none->R i=mE)
def hZ (l:List aj)(p:Nat)(w:w_)(e:Ending)(w':w_):Prop:=
 ∃(v:Value) (x:Int) (n:Nat),e=.returned (.tuple #[v,.agg #[i_ x,i_ (if x=0 then 0 else(p:Int)),i_ (n:Int)]])/\fU l (al l p) x n/\(x=0->tJ l (al l p) w.heap.size v w')/\b_ w w'
def zD (l:List aj)(p:Nat)(w:w_)(bC bF bP bS bD bT:Nat)(a:o_)(m c:Nat)(nm:ByteArray)(ln pr:Int)(rs:Bool)(rg:Int)(a5 a6 a7 a8:o_)(n5 n6 ni n8 c5 c6 c7 c8:Nat)(gg:Nat)(wr:w_):Prop:=
 ∃(k:Nat) (σ:dW) (R:Nat->Value×Value),oq w bC bF bP bS bD bT a m c nm ln pr rs rg (.slice a5 n5 c5) (.slice a6 n6 c6) (.slice a7 ni c7) (.slice a8 n8 c8) ni σ R wr/\H_ (ju l (al l p) k σ)/\H_ (oR (al l p).m.toNat ni σ)/\H_ (bz ni σ=gg)
theorem pX {l:List aj}{p k:Nat}{σ:dW}{at_ n:Nat}{x:Int}{w w':w_}{v:Value}(hg:ju l (al l p) k σ)(ha:dg σ (al l p).u.length at_)(hs:fV l (al l p) σ at_=.inl (x,n))(hx:x≠0)(hb:b_ w w') :
  hZ l p w (.returned (.tuple #[v,.agg #[i_ x,i_ (p:Int),i_ (n:Int)]])) w':=
 ⟨v,x,n,by rw[zcb hx],⟨k,σ,hg,.inl ⟨at_,ha,hs⟩⟩,fun h=>zcc h hx,hb⟩
theorem Np {l:List aj}{x:aj}{σ:dW}{a:Nat}{s:fK}(h:σ.st a=some s)(h1:bH l (aR x a) s.d=none):fV l x σ a=.inl (10,a):=by
 unfold fV;rw[h];show(match bH l (aR x a) s.d with | none=>_ | some r=>_)=_;rw[h1]
theorem Nh {l:List aj}{x:aj}{σ:dW}{a:Nat}{s:fK}{r:gY}(h:σ.st a=some s)(h1:bH l (aR x a) s.d=some r)(h2:aP (aR x a) s.r=none):fV l x σ a=.inl (11,a):=by
 unfold fV;rw[h];show(match bH l (aR x a) s.d with | none=>_ | some r=>_)=_;rw[h1];show(match aP (aR x a) s.r with | none=>_ | some g=>_)=_;rw[h2]
theorem yx {l:List aj}{x:aj}{σ:dW}{a:Nat}{s:fK}{r:gY}{g:List bc}(h:σ.st a=some s)(h1:bH l (aR x a) s.d=some r)(h2:aP (aR x a) s.r=some g) :
  fV l x σ a=if lj (aR x a) s.r r.p s.d (bg (aR x a) r.d)then(match fi (bI (aR x a) a s (bg (aR x a) r.d) g) ⟨σ.st,bY σ.b a false⟩with | .inl y=>.inl (13,y) | .inr σ'=>.inr σ')else .inl (12,a):=by
 unfold fV;rw[h];show(match bH l (aR x a) s.d with | none=>_ | some r=>_)=_;rw[h1];show(match aP (aR x a) s.r with | none=>_ | some g=>_)=_;rw[h2];rfl
theorem Gr {q:Nat}{x:Int}{s s':gY}(h:gJ q x s=some s'):s'.p.length<=s.p.length+1:=by
 unfold gJ at h;(repeat' split at h);all_goals first | (cases h;done) | (cases h;simp)
theorem qe {r:List Nat}{n:az}{s:gY}:∀{k:Nat}{s':gY},aW r n s k=some s'->s'.p.length<=s.p.length+k
 | 0,s',h=>by cases h;omega
 | k+1,s',h=>by
  change (match aW r n s k with | none=>none | some s'=>gJ (r[k]?.getD 0) (dj n k) s')=some s' at h;cases e:aW r n s k with
  | none=>rw[e]at h;cases h
  | some s1=>rw[e]at h;have:=Gr h;have:=qe e;omega
theorem wT {l:List aj}{n:az}{t:List Int}{r:gY}(h:bH l n t=some r):r.p.length<=4:=by
 unfold bH at h;cases e:aW ((bh n.op).getD []) n ⟨t,[],[]⟩ 4 with
 | none=>rw[e]at h;cases h
 | some s=>
  rw[e]at h;change (if _ then _ else _)=_ at h;split at h;{cases h};{cases h;have:=qe e;simpa using this}
theorem qk:∀(A:List (Nat×fK)){σ σ':dW},fi A σ=.inr σ'->∀ B,fi (A++B) σ=fi B σ'
 | [],σ,σ',h,B=>by cases h;rfl
 | x::A,σ,σ',h,B=>by
  change (match gO σ x with | none=>(Sum.inl x.1:Nat ⊕ dW) | some σ'=>fi A σ')=.inr σ' at h;show(match gO σ x with | none=>(Sum.inl x.1:Nat ⊕ dW) | some σ'=>fi (A++B) σ')=_;cases e:gO σ x with
  | none=>rw[e]at h;cases h
  | some σ1=>rw[e]at h;exact qk A h B
theorem uB {σ σ':dW}{y:Nat×fK}(h:gO σ y=some σ'):fi [y] σ=.inr σ':=by
 show(match gO σ y with | none=>(Sum.inl y.1:Nat ⊕ dW) | some σ'=>fi [] σ')=_;rw[h];rfl
theorem uq {σ:dW}{y:Nat×fK}{B:List (Nat×fK)}(h:gO σ y=none):fi (y::B) σ=.inl y.1:=by
 show(match gO σ y with | none=>(Sum.inl y.1:Nat ⊕ dW) | some σ'=>fi B σ')=_;rw[h]
theorem wz {F:List (Nat×fK)}{j:Nat}{y:Nat×fK}{σ σ' σ2:dW}(hj:F[j]? = some y)(h:fi (F.take j) σ=.inr σ')(h1:gO σ' y=some σ2):fi (F.take (j+1)) σ=.inr σ2:=by
 rw[List.take_add_one,hj,qk _ h];exact uB h1
theorem Gn {F:List (Nat×fK)}{j:Nat}{y:Nat×fK}{σ σ':dW}(hj:F[j]? = some y)(h:fi (F.take j) σ=.inr σ')(h1:gO σ' y=none):fi F σ=.inl y.1:=by
 have e:F=F.take j++F.drop j:=(List.take_append_drop j F).symm;have hl:j<F.length:=(List.getElem?_eq_some_iff.1 hj).1;have e2:F.drop j=y::F.drop (j+1):=by{rw[List.drop_eq_getElem_cons hl];rw[g_ hl]at hj;rw[Option.some.inj hj]};rw[e,qk _ h,e2];exact uq h1
theorem pR {σ:dW}{y:Nat×fK}(h:σ.st y.1=none):gO σ y=some ⟨bY σ.st y.1 (some y.2),bY σ.b y.1 true⟩:=by unfold gO;rw[h]
theorem wC {σ:dW}{y:Nat×fK}{s:fK}(h:σ.st y.1=some s)(hs:s.d=y.2.d/\s.r=y.2.r):gO σ y=some σ:=by
 unfold gO;rw[h];show(if nh s y.2=true then some σ else none)=some σ;rw[zca];rw[tK];obtain⟨s1,s2⟩:=s;obtain⟨y1,t1,t2⟩:=y;obtain⟨h1,h2⟩:=hs;simp only at h1 h2;rw[h1,h2]
theorem qS {σ:dW}{y:Nat×fK}{s:fK}(h:σ.st y.1=some s)(hs:¬(s.d=y.2.d/\s.r=y.2.r)):gO σ y=none:=by
 unfold gO;rw[h];show(if nh s y.2=true then some σ else none)=none;rw[zcb];rw[tK];intro e;exact hs (by rw[e];exact⟨rfl,rfl⟩)
def FoS (w:w_)(S:Nat->Prop)(x:xI)(y:Nat×fK):Prop:=x.at_=(y.1:Nat)/\x.n=y.2.d.length/\x.n2=y.2.r.length/\aQ w S x.a y.2.d/\bw w S x.a2 y.2.r
theorem dB {w wr:w_}{bF:Nat}(h:b_ w wr)(hb:w.heap.size<=bF)(v0 v1 v2:Value):b_ w (((wr.setCell (a_ bF 0) v0).setCell (a_ bF 1) v1).setCell (a_ bF 2) v2):=
 ((h.setCell hb _).setCell hb _).setCell hb _
end Go.Proofs.YtcjfjflljdojlaaGreatDoor
