import Derived.Test.YtcjfjflljdojlaaGreatDoorPart31
import Derived.Test.YtcjfjflljdojlaaGreatDoorPart29
set_option linter.unusedSimpArgs false
set_option linter.unusedVariables false
set_option maxHeartbeats 4000000
set_option maxRecDepth 100000
namespace Go.Proofs.YtcjfjflljdojlaaGreatDoor
open Go.RowKit
def O6 (op fa fb fc fd:Int):Prop:=∀ w:World,c_ 60 #[.agg #[i_ op,i_ fa,i_ fb,i_ fc,i_ fd],.slice none 0 0] w fun e w'=>e=.returned (.tuple #[])/\b_ w w'
theorem uN (op:Int)(r:List Nat)(hr:bj op=some r)(qK:r[0]?.getD 0≠1)(fo:op≠6/\op≠22/\op≠27/\op≠28/\op≠40/\op≠41/\op≠42)(fa fb fc fd:Int):O6 op fa fb fc fd:=by
 intro w;obtain⟨n6,n22,n27,n28,n40,n41,n42⟩:=fo;have RO:=af (fun W=>il op W);rw[hr]at RO;have b6:(op==6)=false:=by simpa using n6
 have b22:(op==22)=false:=by simpa using n22
 have b27:(op==27)=false:=by simpa using n27
 have b28:(op==28)=false:=by simpa using n28
 have b40:(op==40)=false:=by simpa using n40
 have b41:(op==41)=false:=by simpa using n41
 have b42:(op==42)=false:=by simpa using n42
 have KB:=af qK;clear hr qK n6 n22 n27 n28 n40 n41 n42;go_enter Tryz.func60,Tryz.ntmps60;go_wp2_with fail
 refine(aa RO _).mono ?_;rintro e w1 hF;obtain⟨b1,rfl,au,bz,jN⟩:=lk hF;have f0:=bz.cell (i:=0) (by omega);have jf:w.heap.size<w1.heap.size:=by have:=jN.size;simp at this;omega
 have B1:Hid (b_ w w1):=(r_.alloc n_ _).trans (jN.mono (by simp));have vj:(((r[0]?.getD 0:Nat):Int)==1)=false:=by have:=KB.out;simp;omega
 generalize r[0]?.getD 0=q at *;clear hF bz jN RO;go_wp2_with fail
 go_end0
 exact⟨rfl,aa B1⟩
theorem zK (op:Int)(fa fb fc fd:Int)(fo:1<=op/\op<=42)(hf:xU op fa fc 0):O6 op fa fb fc fd:=by
 obtain⟨f1,f2,f3,f4⟩:=hf;by_cases c6:op=6
 ·aj c6;have:=f1 (by decide);omega
 by_cases c22:op=22
 ·aj c22;have:=f1 (by decide);omega
 by_cases c27:op=27
 ·aj c27;have:=f1 (by decide);omega
 by_cases c28:op=28
 ·aj c28;have:=f1 (by decide);omega
 by_cases c40:op=40
 ·aj c40;have:=f3 rfl;omega
 by_cases c41:op=41
 ·aj c41;have:=f4 rfl;omega
 by_cases c42:op=42
 ·aj c42;have:=f2 rfl;omega
 cases hr:bj op with
 | none=>
  obtain⟨k,rfl⟩:∃ k:Nat,op=k:=⟨op.toNat,by omega⟩;rw[kQ k (by omega) (by omega)]at hr;cases hr
 | some r=>
  rw[hr]at f1;by_cases h1:r[0]?.getD 0=1
  ·have:=f1 h1;omega
  ·exact uN op r hr h1 ⟨c6,c22,c27,c28,c40,c41,c42⟩ fa fb fc fd
theorem uQ {w:World}{base:Nat}:ar w base (.slice none 0 0) []:=World.ownsRow_nil _ _ _ _
theorem zn (n:aA)(t:List Int):(bh n t).length=t.length:=by
 unfold bh
 repeat' split
 all_goals simp
theorem DG (n:aA):bh n []=[]:=List.eq_nil_of_length_eq_zero (by rw[zn];rfl)
theorem A4 (op:Int)(fa fb fc fd:Int)(base:Nat)(v:Value)(t:List Int)(w:World)(bc:ar w base v t)(aP:t.length<=250)(eo:base<=w.heap.size)(fo:1<=op/\op<=42)(hf:xU op fa fc t.length) :
  c_ 60 #[.agg #[i_ op,i_ fa,i_ fb,i_ fc,i_ fd],v] w (jy base v (bh ⟨op,fa,fb,fc,fd⟩ t) w):=by
 have dj:=bc;rcases bc.2 with⟨rfl,h0⟩ | ⟨g,cap,gi,rfl,hb,hg,_⟩
 ·obtain rfl:t=[]:=List.eq_nil_of_length_eq_zero h0;refine(zK op fa fb fc fd fo hf w).mono ?_;rintro e w' ⟨rfl,hb⟩;refine⟨rfl,?_,hb.mono eo,fun k hk _=>hb.block k hk⟩;rw[DG];exact uQ
 ·exact Ay op fa fb fc fd base g t.length cap t w dj rfl aP hb (Array.getElem?_eq_some_iff.1 hg).1 fo hf
def O9 (S:Option gX)(base:Nat)(v:Value)(w:World)(e:Ending)(w':World):Prop:=
 ∃(tv:Value) (b:Bool),e=.returned (.tuple #[tv,.bool b])/\(b=true->∃ s,S=some s/\ar w' base v s.types/\ar w' w.heap.size tv (aH s.taken))/\(b=false->S=none)/\Below base w w'
theorem tP {r:List Nat}{n:aA}(hf:mX r n 0){k:Nat}(hk:k<4):(cN (r[k]?.getD 0)).1=0:=by
 obtain⟨f1,f2,f3,f4⟩:=hf k hk;by_cases h:(cN (r[k]?.getD 0)).1=0
 ·exact h
 ·rcases rU h with c | c | c | c | c | c | c | c
  ·exact absurd (f1 (.inl c)) (by omega)
  ·exact absurd (f1 (.inr c)) (by omega)
  ·exact absurd (f2 (.inl c)) (by omega)
  ·exact absurd (f2 (.inr (.inl c))) (by omega)
  ·exact absurd (f2 (.inr (.inr c))) (by omega)
  ·exact absurd (f3 c) (by omega)
  ·exact absurd (f4 (.inl c)) (by omega)
  ·exact absurd (f4 (.inr c)) (by omega)
theorem mV {r:List Nat}{n:aA}{s:gX}(hf:mX r n 0):∀{k:Nat},k<=4->aX r n s k=some s
 | 0,_=>rfl
 | k+1,h=>by
  rw[ey (mV hf (k:=k) (by omega))];exact qs (tP hf (by omega))
theorem vX {l:List ak}{n:aA}{r:List Nat}{t:List Int}(hr:bj n.op=some r)(hf:mX r n 0)(hu:un l n 0):bI l n t=some ⟨t,[],[]⟩:=by
 unfold bI;have e:(bj n.op).getD []=r:=by rw[hr];rfl
 rw[e,mV hf (Nat.le_refl 4)];show(if _ then _ else _)=_;rw[if_neg];rintro⟨h1,h2⟩;rw[List.any_eq_true]at h2;obtain⟨u,hm,Vv⟩:=h2;obtain⟨_,_,h3⟩:=hu h1;cases e1:u.1 with
 | false=>rw[e1]at Vv;cases Vv
 | true=>exact absurd (h3 u hm e1) (by omega)
structure Ta (w:World)(b1 b2:Nat)(a:o_)(m c:Nat)(n:aA)(r:List Nat)(wr:World):Prop where
 old:b_ w wr
 code:wr.cell? (a_ w.heap.size 0)=some (.slice a m c)
 ins:aL wr (w.heap.size+1) 0 n
 roles:wr.rowIs b1 3 4 (fun j=>i_ ((r[j]?.getD 0:Nat):Int))
 flds:wr.rowIs b2 3 4 (fun j=>i_ (dm n j))
theorem Ta.below {w:World}{b1 b2:Nat}{a:o_}{m c:Nat}{n:aA}{r:List Nat}{wr w2:World}(h:Ta w b1 b2 a m c n r wr)(hb:b_ wr w2):Ta w b1 b2 a m c n r w2:=by
 have ax:w.heap.size+1<wr.heap.size:=World.block_lt_of_cell? _ _ h.ins.op;have e1:∀ o,w2.cell? (a_ (w.heap.size+1) o)=wr.cell? (a_ (w.heap.size+1) o):=fun o=>hb.cell (p:=(a_ (w.heap.size+1) o)) ax;exact⟨h.old.trans (hb.mono h.old.size),(hb.cell (p:=(a_ w.heap.size 0)) (World.block_lt_of_cell? _ _ h.code)).trans h.code,⟨(e1 _).trans h.ins.op,(e1 _).trans h.ins.fa,(e1 _).trans h.ins.fb,(e1 _).trans h.ins.fc,(e1 _).trans h.ins.fd⟩,
  h.roles.of_block (hb.block _ h.roles.lt),h.flds.of_block (hb.block _ h.flds.lt)⟩
theorem DW (l:List ak)(op fa fb fc fd:Int)(p:Int)(r:List Nat)(c:Nat)(S:Nat->Prop)(a:o_)(w:World)(hs:ao w S a l)(hB:∀ b,S b->b<w.heap.size)(hr:bj op=some r)(hf:mX r ⟨op,fa,fb,fc,fd⟩ 0)(hu:un l ⟨op,fa,fb,fc,fd⟩ 0)(sT:∀ x,x∈l->x.ups.length<=1000000)(py:l.length<=1000000) :
    c_ 58 #[.agg #[.slice a l.length c],i_ p,.agg #[i_ op,i_ fa,i_ fb,i_ fc,i_ fd],.slice none 0 0] w fun e w'=>e=.returned (.tuple #[.slice none 0 0,.bool true])/\b_ w w':=by
  have hA:∀ o1 o2,b_ w ((w.alloc o1).alloc o2):=fun o1 o2=>(r_.alloc n_ o1).alloc (by simp) o2;have HR:=af hr;have HF:=af hf;have Pw:=af hu;have qH:=af hs;have gW:=af hB;have Li:=af sT;obtain⟨m,hm⟩:∃ m,l.length=m:=⟨_,rfl⟩;have HM:=af hm;rw[hm]at py;rw[hm];have RO:=af (fun W=>il op W);rw[HR.out]at RO;clear hr hf hu hs hB sT hm;go_enter Tryz.func58,Tryz.ntmps58;go_wp2_with fail
  refine(aa RO _).mono ?_;rintro e w1 hF;obtain⟨b1,rfl,au,sw,nH⟩:=lk hF;have e2:∀ o1 o2,((w.alloc o1).alloc o2).heap.size=w.heap.size+2:=fun _ _=>by simp
  rw[e2]at au nH;obtain⟨cU,fJ⟩:=cz (W:=(w.alloc (.cells #[.slice a m c] 28)).alloc (.cells #[i_ op,i_ fa,i_ fb,i_ fc,i_ fd] 51)) (w1:=w1) (by rw[e2];exact nH);rw[e2]at cU;have j0:w1.cell? (a_ (w.heap.size+1) 0)=some (i_ op):=by rw[cU _ _ (by omega)];simp[go_sem]
  have j1:w1.cell? (a_ (w.heap.size+1) 1)=some (i_ fa):=by rw[cU _ _ (by omega)];simp[go_sem]
  have j2:w1.cell? (a_ (w.heap.size+1) 2)=some (i_ fb):=by rw[cU _ _ (by omega)];simp[go_sem]
  have j3:w1.cell? (a_ (w.heap.size+1) 3)=some (i_ fc):=by rw[cU _ _ (by omega)];simp[go_sem]
  have j4:w1.cell? (a_ (w.heap.size+1) 4)=some (i_ fd):=by rw[cU _ _ (by omega)];simp[go_sem]
  have jc:w1.cell? (a_ w.heap.size 0)=some (.slice a m c):=by rw[cU _ _ (by omega)];simp[go_sem]
  have jf:w.heap.size+1<w1.heap.size:=by have:=nH.size;rw[e2]at this;omega
  have dM:Hid (b_ w w1):=(hA _ _).trans (nH.mono (by omega));have rH:=af sw;clear hF sw nH cU fJ RO e2;go_wp2_with fail
  refine(lQ op fa fb fc fd w1).mono ?_;rintro e w2 ⟨b2,rfl,bo,qE,mx⟩;have sr:=mx.size;obtain⟨fe,wd⟩:=cz mx;have KM:=(aa rH).lt;have W0:Hid (Ta w b1 b2 a m c ⟨op,fa,fb,fc,fd⟩ r w2):=
    ⟨(aa dM).trans (mx.mono (aa dM).size),(fe _ _ (by omega)).trans jc,
     ⟨(fe _ _ (by omega)).trans j0,(fe _ _ (by omega)).trans j1,(fe _ _ (by omega)).trans j2,(fe _ _ (by omega)).trans j3,(fe _ _ (by omega)).trans j4⟩,
     (aa rH).of_block (mx.block _ KM),qE⟩
  clear mx qE fe wd sr j0 j1 j2 j3 j4 jc rH dM KM;go_wp2_with fail
  go_loopg [10,30] 4 (fun gg tv i wr=>∃ k:Nat,k+gg=4/\i=i_ k/\tv=.slice none 0 0/\Ta w b1 b2 a m c ⟨op,fa,fb,fc,fd⟩ r wr)
  case atStart=>exact⟨0,by omega,rfl,rfl,aa W0⟩
  case round=>
    clear W0;obtain⟨k,hk,rfl,rfl,hW⟩:=hrel;by_cases gz:k<4
    · have y1:=hW.roles.cell (i:=k) gz;have y2:=hW.flds.cell (i:=k) gz;have y3:=hW.roles.lt;have y4:=hW.flds.lt;have ml:r[k]?.getD 0<=21:=fD HR.out k;have hz:=tP (aa HF) gz;generalize r[k]?.getD 0=q at *;have WA:=af (fun W=>ex q ml W);rw[hz]at WA;have HW:=af hW;clear hW hz;go_wp2_with fail
      refine(aa WA _).mono ?_;rintro e w3 ⟨rfl,rfl⟩;go_wp2_with fail
      go_roundg (4-(k+1))
      case measure=>omega
      case rel=>exact⟨k+1,by omega,by go_num,rfl,aa HW⟩
    · have HW:=af hW;have c0:=hW.ins.op;have cb:=hW.ins.fb;have cc:=hW.code;have zz:w.heap.size+1<wr.heap.size:=World.block_lt_of_cell? _ _ c0;rw[Nat.zero_add]at cb;clear hW HF;by_cases fo:op=11
      · obtain⟨f0,f1,qw⟩:=Pw.out fo;change 0<=fb at f0;change fb<l.length at f1;obtain⟨F,rfl⟩:=Int.eq_ofNat_of_zero_le f0;have Ho:F<l.length:=by omega
        obtain⟨pb,po,rfl,PQ,vf⟩:=(aa qH).2 (by omega);have PC:=vf F Ho;obtain⟨ua,uc,Bg,PW⟩:=PC.ups;have Vn:=((aa HW).old.cell (p:=(a_ pb (po+F * 9+5))) (aa gW pb PQ)).trans Bg;have e9:(l[F]?.getD ak.z)∈l:=by rw[g_ Ho];exact List.getElem_mem Ho
        have sT:=aa Li _ e9;change ∀ u,u∈(l[F]?.getD ak.z).ups->u.1=true->0<=u.2/\u.2<((0:Nat):Int)at qw;have Ko:pb<wr.heap.size:=l_ (aa gW pb PQ) (aa HW).old.size;have VL:=af PW;have Ba:=af qw;have hFm:(F:Int)<m:=by have:=HM.out;omega
        have ab6:(0:Int)<=(F:Int):=by omega
        have ob:(op==11)=true:=by simpa using fo
        clear vf PC PW qw e9 f0 f1 fo Pw Bg;generalize (l[F]?.getD ak.z).ups=us at *;go_wp2_with fail
        go_loopg [136] us.length (fun gg i wr'=>∃ q:Nat,q+gg=us.length/\i=i_ q/\Ta w b1 b2 (some (a_ pb po)) m c ⟨op,fa,(F:Int),fc,fd⟩ r wr')
        case atStart=>exact⟨0,by omega,rfl,aa HW⟩
        case round=>
          clear HW c0 cb cc Vn Ko;obtain⟨q,hq,rfl,hW⟩:=hrel;have zz:w.heap.size+1<wr.heap.size:=World.block_lt_of_cell? _ _ hW.ins.op;by_cases fw:q<us.length
          · obtain⟨ub,uo,rfl,Xm,PO⟩:=((aa VL).keep hW.old (aa gW)).2 (by omega);obtain⟨e0,e1⟩:=PO q fw;have e9:us[q]?.getD (false,0)∈us:=by rw[g_ fw];exact List.getElem_mem fw
            have Vr:=af (aa Ba _ e9);have V8:ub<wr.heap.size:=l_ (aa gW ub Xm) hW.old.size;clear PO e9;generalize us[q]?.getD (false,0)=u at *;obtain⟨BN,ix⟩:=u;dsimp only at *;cases BN
            · have L7:=af (hW.below (r_.alloc n_ (.cells #[.bool false,i_ ix] 46)));clear hW;go_wp2_with fail
              go_roundg (us.length-(q+1))
              case measure=>omega
              case rel=>exact⟨q+1,by omega,by go_num,aa L7⟩
            · exact absurd (aa Vr rfl) (by omega)
          · have HW:=af hW;clear hW;go_wp2_with fail
            go_ret2
            exact⟨rfl,(aa HW).old⟩
      · have ob:(op==11)=false:=by simpa using fo
        clear fo;go_wp2_with fail
        go_ret2
        exact⟨rfl,(aa HW).old⟩
theorem C5 (l:List ak)(op fa fb fc fd:Int)(p:Int)(r:List Nat)(t:List Int)(base c:Nat)(v:Value)(S:Nat->Prop)(a:o_)(w:World)(hs:ao w S a l)(hB:∀ b,S b->b<base)(hr:bj op=some r)(hf:mX r ⟨op,fa,fb,fc,fd⟩ t.length)(hu:un l ⟨op,fa,fb,fc,fd⟩ t.length)(sT:∀ x,x∈l->x.ups.length<=1000000)(py:l.length<=1000000)
  (bc:ar w base v t)(aP:t.length<=250)(eo:base<=w.heap.size) :
  c_ 58 #[.agg #[.slice a l.length c],i_ p,.agg #[i_ op,i_ fa,i_ fb,i_ fc,i_ fd],v] w (O9 (bI l ⟨op,fa,fb,fc,fd⟩ t) base v w):=by
 have dj:=bc;rcases bc.2 with⟨rfl,h0⟩ | ⟨g,cap,gi,rfl,hb,hg,_⟩
 ·obtain rfl:t=[]:=List.eq_nil_of_length_eq_zero h0;refine(DW l op fa fb fc fd p r c S a w hs (fun b h=>l_ (hB b h) eo) hr hf hu sT py).mono ?_;rintro e w' ⟨rfl,hb⟩;exact⟨_,true,rfl,fun _=>⟨_,vX hr hf hu,uQ,uQ⟩,fun h=>Bool.noConfusion h,hb.mono eo⟩
 ·refine(Dz l op fa fb fc fd p r t base g t.length cap c S a w hs hB hr hf hu sT py dj rfl aP hb (Array.getElem?_eq_some_iff.1 hg).1).mono ?_;exact fun e w' h=>h
def vS (σ:dX)(R:Nat->Value×Value)(j:Nat):Value:=if j % 3=0 then .bool (σ.st (j / 3)).isSome else if j % 3=1 then(R (j / 3)).1 else(R (j / 3)).2
def mC:Value×Value:=(.slice none 0 0,.slice none 0 0)
structure LJ (w:World)(bC bF bP bS bD bT:Nat):Prop where
 o1:w.heap.size<=bC
 o2:bC<bF
 o3:bF<bP
 o4:bP<bS
 o5:bS<bD
 o6:bD<bT
structure ou (w:World)(bC bF bP bS bD bT:Nat)(a:o_)(m c:Nat)(nm:ByteArray)(ln pr:Int)(rs:Bool)(rg:Int)(v5 v6 v7 v8:Value)(N:Nat)(σ:dX)(R:Nat->Value×Value)(wr:World):Prop where
 old:b_ w wr
 size:bT<=wr.heap.size
 code:wr.cell? (a_ bC 0)=some (.slice a m c)
 res:wr.rowIs bF 36 3 (fun _=>i_ 0)
 prot:gN wr bP nm ln pr rs rg v5 v6 v7 v8
 sts:wr.rowIs bS 97 (N * 3) (vS σ R)
 due:wr.rowIs bD 4 N (fun j=>.bool (σ.due j))
 own:∀ i s,i<N->σ.st i=some s->ar wr bT (R i).1 s.types/\cn wr bT (R i).2 s.guards
 none_:∀ i,i<N->σ.st i=none->R i=mC
section
variable {w:World} {bC bF bP bS bD bT:Nat} {a:o_} {m c:Nat} {nm:ByteArray} {ln pr:Int} {rs:Bool} {rg:Int} {v5 v6 v7 v8:Value} {N:Nat} {σ σ':dX} {R R':Nat->Value×Value} {wr w2:World}
theorem ou.below (h:ou w bC bF bP bS bD bT a m c nm ln pr rs rg v5 v6 v7 v8 N σ R wr)(hB:LJ w bC bF bP bS bD bT)(hb:b_ wr w2):ou w bC bF bP bS bD bT a m c nm ln pr rs rg v5 v6 v7 v8 N σ R w2 where
 old:=h.old.trans (hb.mono h.old.size)
 size:=Nat.le_trans h.size hb.size
 code:=(hb.cell (p:=(a_ bC 0)) (by have:=h.size;obtain⟨_,_,_,_,_,_⟩:=hB;show bC<wr.heap.size;omega)).trans h.code
 res:=h.res.of_block (hb.block _ h.res.lt)
 prot:=h.prot.keep hb (by have:=h.size;obtain⟨_,_,_,_,_,_⟩:=hB;omega)
 sts:=h.sts.of_block (hb.block _ h.sts.lt)
 due:=h.due.of_block (hb.block _ h.due.lt)
 own i s hi hs:=⟨(h.own i s hi hs).1.below hb,(h.own i s hi hs).2.below hb⟩
 none_:=h.none_
theorem cn.setOther {base:Nat}{v:Value}{t:List bg}{W:World}(h:cn W base v t){D j:Nat}{u:Value}(hD:D<base):cn (W.setCell (a_ D j) u) base v t:=by
 refine⟨h.1,?_⟩;rcases h.2 with hn | ⟨g,cap,gi,rfl,h1,hg,h2⟩
 ·exact .inl hn
 ·exact .inr ⟨g,cap,gi,rfl,h1,(heap_setCell_other W (a_ D j) g u (fun e=>by have e:g=D:=e;omega)).trans hg,h2⟩
theorem mY {W:World}{b D j:Nat}{u:Value}(h:gN W b nm ln pr rs rg v5 v6 v7 v8)(hD:D≠b):gN (W.setCell (a_ D j) u) b nm ln pr rs rg v5 v6 v7 v8:=by
 obtain⟨h0,h1,h2,h3,h4,h5,h6,h7,h8⟩:=h;have e:∀ o,(W.setCell (a_ D j) u).cell? (a_ b o)=W.cell? (a_ b o):=fun o=>World.cell?_of_block (a:=(a_ b o)) (heap_setCell_other W (a_ D j) b u (fun e=>hD e.symm));exact⟨(e _).trans h0,(e _).trans h1,(e _).trans h2,(e _).trans h3,(e _).trans h4,(e _).trans h5,(e _).trans h6,(e _).trans h7,(e _).trans h8⟩
theorem ou.setDue (h:ou w bC bF bP bS bD bT a m c nm ln pr rs rg v5 v6 v7 v8 N σ R wr)(hB:LJ w bC bF bP bS bD bT)(i:Nat)(x:Bool):ou w bC bF bP bS bD bT a m c nm ln pr rs rg v5 v6 v7 v8 N ⟨σ.st,bZ σ.due i x⟩ R (wr.setCell (a_ bD i) (.bool x)):=by
 obtain⟨o1,o2,o3,o4,o5,o6⟩:=hB;exact {
  old:=h.old.setCell (by show w.heap.size<=bD;omega) _
  size:=by have:=h.size;simpa using this
  code:=by rw[World.cell?_setCell_other (h:=by intro e;injection e;omega)];exact h.code
  res:=h.res.of_block (heap_setCell_other wr (a_ bD i) _ _ (by show bF≠bD;omega))
  prot:=mY h.prot (by omega)
  sts:=h.sts.of_block (heap_setCell_other wr (a_ bD i) _ _ (by show bS≠bD;omega))
  due:=(h.due.set i _).congr (fun j hj=>by
   show _=Value.bool (bZ σ.due i x j);unfold bZ;split<;>rfl)
  own:=fun j s hj hs=>⟨(h.own j s hj hs).1.setOther (by omega),(h.own j s hj hs).2.setOther (by omega)⟩
  none_:=h.none_ }
theorem ou.setSt (h:ou w bC bF bP bS bD bT a m c nm ln pr rs rg v5 v6 v7 v8 N σ R wr)(hB:LJ w bC bF bP bS bD bT)(i:Nat)(s:fL)(tv gv:Value)(h1:ar wr bT tv s.types)(h2:cn wr bT gv s.guards) :
  ou w bC bF bP bS bD bT a m c nm ln pr rs rg v5 v6 v7 v8 N ⟨bZ σ.st i (some s),σ.due⟩ (bZ R i (tv,gv)) (((wr.setCell (a_ bS (i * 3)) (.bool true)).setCell (a_ bS (i * 3+1)) tv).setCell (a_ bS (i * 3+2)) gv):=by
 obtain⟨o1,o2,o3,o4,o5,o6⟩:=hB;have hk:∀ k,k≠bS->(((wr.setCell (a_ bS (i * 3)) (.bool true)).setCell (a_ bS (i * 3+1)) tv).setCell (a_ bS (i * 3+2)) gv).heap[k]? = wr.heap[k]?:=fun k hk=>by
  rw[heap_setCell_other _ (a_ bS _) _ _ hk,heap_setCell_other _ (a_ bS _) _ _ hk,heap_setCell_other _ (a_ bS _) _ _ hk]
 exact {
  old:=((h.old.setCell (by show w.heap.size<=bS;omega) _).setCell (by show w.heap.size<=bS;omega) _).setCell (by show w.heap.size<=bS;omega) _
  size:=by have:=h.size;simpa using this
  code:=(World.cell?_of_block (a:=(a_ bC 0)) (hk bC (by omega))).trans h.code
  res:=h.res.of_block (hk bF (by omega))
  prot:=mY (mY (mY h.prot (by omega)) (by omega)) (by omega)
  sts:=by
   refine(((h.sts.set (i * 3) _).set (i * 3+1) _).set (i * 3+2) _).congr fun j hj=>?_;show(if j=i * 3+2 then gv else if j=i * 3+1 then tv else if j=i * 3 then .bool true else vS σ R j)=vS ⟨bZ σ.st i (some s),σ.due⟩ (bZ R i (tv,gv)) j;unfold vS bZ;by_cases e:j / 3=i
   ·by_cases e0:j % 3=0
    ·rw[if_neg (by omega),if_neg (by omega),if_pos (by omega),if_pos e0];simp[e]
    ·by_cases e1:j % 3=1
     ·rw[if_neg (by omega),if_pos (by omega),if_neg e0,if_pos e1];simp[e]
     ·rw[if_pos (by omega),if_neg e0,if_neg e1];simp[e]
   ·rw[if_neg (by omega),if_neg (by omega),if_neg (by omega)];simp[e]
  due:=h.due.of_block (hk bD (by omega))
  own:=fun j t hj ht=>by
   change bZ σ.st i (some s) j=some t at ht;unfold bZ at ht ⊢;by_cases e:j=i
   ·rw[if_pos e]at ht ⊢;cases ht;exact⟨((h1.setOther (by omega)).setOther (by omega)).setOther (by omega),((h2.setOther (by omega)).setOther (by omega)).setOther (by omega)⟩
   ·rw[if_neg e]at ht ⊢;obtain⟨k1,k2⟩:=h.own j t hj ht;exact⟨((k1.setOther (by omega)).setOther (by omega)).setOther (by omega),((k2.setOther (by omega)).setOther (by omega)).setOther (by omega)⟩
  none_:=fun j hj hn=>by
   change bZ σ.st i (some s) j=none at hn;unfold bZ at hn ⊢;by_cases e:j=i
   ·rw[if_pos e]at hn;cases hn
   ·rw[if_neg e]at hn ⊢;exact h.none_ j hj hn }
theorem ou.reached (h:ou w bC bF bP bS bD bT a m c nm ln pr rs rg v5 v6 v7 v8 N σ R wr){i:Nat}(hi:i<N):wr.cell? (a_ bS (i * 3))=some (.bool (σ.st i).isSome):=by
 have:=h.sts.cell (i:=i * 3) (by omega);rw[this];unfold vS;rw[if_pos (by omega),show i * 3 / 3=i by omega]
theorem ou.typesV (h:ou w bC bF bP bS bD bT a m c nm ln pr rs rg v5 v6 v7 v8 N σ R wr){i:Nat}(hi:i<N):wr.cell? (a_ bS (i * 3+1))=some (R i).1:=by
 have:=h.sts.cell (i:=i * 3+1) (by omega);rw[this];unfold vS;rw[if_neg (by omega),if_pos (by omega),show(i * 3+1) / 3=i by omega]
theorem ou.guardsV (h:ou w bC bF bP bS bD bT a m c nm ln pr rs rg v5 v6 v7 v8 N σ R wr){i:Nat}(hi:i<N):wr.cell? (a_ bS (i * 3+2))=some (R i).2:=by
 have:=h.sts.cell (i:=i * 3+2) (by omega);rw[this];unfold vS;rw[if_neg (by omega),if_neg (by omega),show(i * 3+2) / 3=i by omega]
end
theorem ar.ints {w:World}{base:Nat}{v:Value}{t:List Int}(h:ar w base v t)(hl:t.length<=1000000):∃ a c,v=.slice a t.length c/\aR w (fun b=>base<=b/\b<w.heap.size) a t:=by
 by_cases h0:0<t.length
 ·obtain⟨g,cap,rfl,h1,h2,h3⟩:=h.at h0;exact⟨_,_,rfl,by omega,fun _=>⟨g,0,rfl,⟨h1,h2⟩,fun j hj=>by rw[Nat.zero_add];exact h3 j hj⟩⟩
 ·obtain⟨a,c,rfl⟩:=h.lenV;exact⟨a,c,rfl,by omega,fun h=>absurd h h0⟩
theorem cn.gus {w:World}{base:Nat}{v:Value}{t:List bg}(h:cn w base v t)(hl:t.length<=1000000):∃ a c,v=.slice a t.length c/\bx w (fun b=>base<=b/\b<w.heap.size) a t:=by
 by_cases h0:0<t.length
 ·obtain⟨g,cap,rfl,h1,h2,_,h3⟩:=h.at h0;exact⟨_,_,rfl,by omega,fun _=>⟨g,0,rfl,⟨h1,h2⟩,fun j hj=>by rw[Nat.zero_add];exact h3 j hj⟩⟩
 ·obtain⟨a,c,rfl⟩:=h.lenV;exact⟨a,c,rfl,by omega,fun h=>absurd h h0⟩
theorem tW {W:World}{G T n i:Nat}{f:Nat->Value}(h:W.rowIs G T n f)(hi:n<=i):W.cell? (a_ G i)=none:=by
 obtain⟨cs,h1,h2,_⟩:=h;unfold World.cell?;simp only[h1];simp;omega
theorem uB {W:World}{S:Nat->Prop}{a:o_}{t:List Int}{G n T:Nat}{f:Nat->Value}(h:aR W S a t)(hr:W.rowIs G T n f)(hf:∀ j,j<n->∀ x:Int,f j≠i_ x):aR W (fun b=>S b/\b≠G) a t:=
 ⟨h.1,fun h0=>by
  obtain⟨b,off,rfl,hs,hc⟩:=h.2 h0;refine⟨b,off,rfl,⟨hs,fun e=>?_⟩,hc⟩
  aj e
  have c0:=hc 0 h0;by_cases hj:off+0<n
  ·rw[hr.cell hj]at c0;exact hf _ hj _ (Option.some.inj c0)
  ·rw[tW hr (i:=off+0) (by omega)]at c0;cases c0⟩
theorem wE {W:World}{S:Nat->Prop}{a:o_}{t:List bg}{G n T:Nat}{f:Nat->Value}(h:bx W S a t)(hr:W.rowIs G T n f)(hf:∀ j,j<n->∀ x:Int,f j≠i_ x):bx W (fun b=>S b/\b≠G) a t:=
 ⟨h.1,fun h0=>by
  obtain⟨b,off,rfl,hs,hc⟩:=h.2 h0;refine⟨b,off,rfl,⟨hs,fun e=>?_⟩,hc⟩
  aj e
  have c0:=(hc 0 h0).keep;by_cases hj:off+0 * 3+1<n
  ·rw[hr.cell hj]at c0;exact hf _ hj _ (Option.some.inj c0)
  ·rw[tW hr (i:=off+0 * 3+1) (by omega)]at c0;cases c0⟩
theorem Mp {σ:dX}{R:Nat->Value×Value}{N:Nat}(h1:∀ i,i<N->∃ a n c,(R i).1=.slice a n c)(h2:∀ i,i<N->∃ a n c,(R i).2=.slice a n c)(j:Nat)(hj:j<N * 3)(x:Int):vS σ R j≠i_ x:=by
 unfold vS;split
 ·exact fun h=>Value.noConfusion h
 ·split
  ·obtain⟨a,n,c,e⟩:=h1 (j / 3) (by omega);rw[e];exact fun h=>Value.noConfusion h
  ·obtain⟨a,n,c,e⟩:=h2 (j / 3) (by omega);rw[e];exact fun h=>Value.noConfusion h
theorem ou.slices {w:World}{bC bF bP bS bD bT:Nat}{a:o_}{m c:Nat}{nm:ByteArray}{ln pr:Int}{rs:Bool}{rg:Int}{v5 v6 v7 v8:Value}{N:Nat}{σ:dX}{R:Nat->Value×Value}{wr:World}(h:ou w bC bF bP bS bD bT a m c nm ln pr rs rg v5 v6 v7 v8 N σ R wr){i:Nat}(hi:i<N) :
  (∃ a n c,(R i).1=.slice a n c)/\∃ a n c,(R i).2=.slice a n c:=by
 cases e:σ.st i with
 | none=>rw[h.none_ i hi e];exact⟨⟨_,_,_,rfl⟩,⟨_,_,_,rfl⟩⟩
 | some s=>
  obtain⟨o1,o2⟩:=h.own i s hi e;obtain⟨a1,c1,e1⟩:=o1.lenV;obtain⟨a2,c2,e2⟩:=o2.lenV;exact⟨⟨_,_,_,e1⟩,⟨_,_,_,e2⟩⟩
theorem ar.sameBlock {W W':World}{base:Nat}{v:Value}{t:List Int}(h:ar W base v t)(hb:∀ k,v.ownBlock=some k->W'.heap[k]? = W.heap[k]?):ar W' base v t:=by
 refine⟨h.1,?_⟩;rcases h.2 with hn | ⟨g,cap,gi,rfl,h1,hg,h2⟩
 ·exact .inl hn
 ·exact .inr ⟨g,cap,gi,rfl,h1,(hb g rfl).trans hg,h2⟩
theorem cn.sameBlock {W W':World}{base:Nat}{v:Value}{t:List bg}(h:cn W base v t)(hb:∀ k,v.ownBlock=some k->W'.heap[k]? = W.heap[k]?):cn W' base v t:=by
 refine⟨h.1,?_⟩;rcases h.2 with hn | ⟨g,cap,gi,rfl,h1,hg,h2⟩
 ·exact .inl hn
 ·exact .inr ⟨g,cap,gi,rfl,h1,(hb g rfl).trans hg,h2⟩
theorem cn.lt' {W:World}{base:Nat}{v:Value}{t:List bg}(h:cn W base v t)(k:Nat)(hk:v.ownBlock=some k):base<=k/\k<W.heap.size:=by
 rcases h.2 with⟨rfl,_⟩ | ⟨g,cap,gi,rfl,h1,hg,_⟩
 ·cases hk
 ·obtain rfl:g=k:=Option.some.inj hk;exact⟨h1,(Array.getElem?_eq_some_iff.1 hg).1⟩
theorem ar.lt' {W:World}{base:Nat}{v:Value}{t:List Int}(h:ar W base v t)(k:Nat)(hk:v.ownBlock=some k):base<=k/\k<W.heap.size:=by
 rcases h.2 with⟨rfl,_⟩ | ⟨g,cap,gi,rfl,h1,hg,_⟩
 ·cases hk
 ·obtain rfl:g=k:=Option.some.inj hk;exact⟨h1,(Array.getElem?_eq_some_iff.1 hg).1⟩
theorem fK.lenV {W:World}{base:Nat}{v:Value}{t:List xC}(h:fK W base v t):∃ a c,v=.slice a t.length c:=by
 rcases h.2 with⟨rfl,h0⟩ | ⟨g,cap,gi,rfl,_⟩
 ·rw[h0];exact⟨none,0,rfl⟩
 ·exact⟨_,_,rfl⟩
theorem Ms (t:List xC):∀(j i:Nat),j<t.length->i<4->(t.flatMap Qp)[j * 4+i]? = (Qp (t[j]?.getD xC.z))[i]?:=by
 induction t with
 | nil=>intro j i hj;cases hj
 | cons x t ih=>
  intro j i hj hi;have aP:(Qp x).length=4:=rfl;cases j with
  | zero=>
   rw[List.flatMap_cons,List.getElem?_append_left (by rw[aP];omega)];simp
  | succ j=>
   rw[List.flatMap_cons,List.getElem?_append_right (by rw[aP];omega),aP,show(j+1) * 4+i-4=j * 4+i by omega];exact ih j i (by simpa using hj) hi
theorem fK.at {W:World}{base:Nat}{v:Value}{t:List xC}(h:fK W base v t)(h0:0<t.length):∃ g cap,v=.slice (some (a_ g 0)) t.length cap/\base<=g/\g<W.heap.size/\∀ j,j<t.length->∀ i,i<4->W.cell? (a_ g (j * 4+i))=(Qp (t[j]?.getD xC.z))[i]?:=by
 rcases h.2 with⟨_,h1⟩ | ⟨g,cap,gi,rfl,hb,hg,h2⟩
 ·omega
 ·refine⟨g,cap,rfl,hb,(Array.getElem?_eq_some_iff.1 hg).1,fun j hj i hi=>?_⟩;have h3:=World.ownsRow.cellAt h (j * 4+i) (by omega);rw[h3];exact Ms t j i hj hi
theorem fK.setOther {W:World}{base:Nat}{v:Value}{t:List xC}(h:fK W base v t){D j:Nat}{u:Value}(hD:D<base):fK (W.setCell (a_ D j) u) base v t:=by
 refine⟨h.1,?_⟩;rcases h.2 with hn | ⟨g,cap,gi,rfl,h1,hg,h2⟩
 ·exact .inl hn
 ·exact .inr ⟨g,cap,gi,rfl,h1,(heap_setCell_other W (a_ D j) g u (fun e=>by have e:g=D:=e;omega)).trans hg,h2⟩
theorem Jw {n:ak}{np i:Nat}(h:dr n np i=true)(hr:0<=n.regs):mX ((bj (aT n i).op).getD []) (aT n i) n.regs.toNat:=by
 obtain⟨_,hf,_⟩:=gJ h;intro k hk;have f:=hf k hk;refine⟨fun e=>?_,fun e=>?_,fun e=>?_,fun e=>?_⟩
 ·rcases e with e | e<;>(rw[e]at f;have:=aV (show dw _ (-n.regs) (n.regs-1)=true from f);omega)
 ·rcases e with e | e | e<;>(rw[e]at f;have:=aV (show dw _ 0 (n.regs-1)=true from f);omega)
 ·rw[e]at f;have:=aV (show dw _ 0 (n.regs-3)=true from f);omega
 ·rcases e with e | e<;>(rw[e]at f;have:=aV (show dw _ 0 (n.regs-2)=true from f);omega)
theorem je {n:ak}{np i:Nat}(h:dr n np i=true)(hi:i<n.ins.length)(hr:0<=n.regs):wZ (aT n i) i n.regs.toNat n.ins.length:=by
 obtain⟨_,hf,hl⟩:=gJ h;obtain⟨ha,hb⟩:=mP h;have f0:=hf 0 (by omega);have f1:=hf 1 (by omega);change dh n np (aT n i).fa _=true at f0;change dh n np (aT n i).fb _=true at f1;refine⟨fun e=>?_,fun e=>?_,fun e=>?_,fun e=>?_,fun e=>?_⟩
 ·rw[e]at f1;have:=aV (show dw _ 0 (n.regs-2)=true from f1);omega
 ·by_cases c:i+1=n.ins.length
  ·unfold de at e;rcases hl c with c | c | c<;>(rw[c]at e;exact absurd e (by decide))
  ·omega
 ·have:=ha e;omega
 ·have:=hb e;omega
 ·rcases e with e | e<;>(rw[e]at f0;have:=aV (show dw _ 0 n.regs=true from f0);omega)
structure uD (l:List ak)(p:Nat):Prop where
 here:p<l.length
 many:l.length<=200
 regs:0<=(am l p).regs/\(am l p).regs<=250
 pars:0<=(am l p).params/\(am l p).params<=(am l p).regs
 rest:(am l p).rest=true->(am l p).params<(am l p).regs
 some_:0<(am l p).ins.length
 few:(am l p).ins.length<=6000
 ins:∀ i,i<(am l p).ins.length->dr (am l p) l.length i=true
 made:∀ i,i<(am l p).ins.length->un l (aT (am l p) i) (am l p).regs.toNat
 ups:∀ x,x∈l->x.ups.length<=1000000
theorem wM {α:Type}(f:α->Nat):∀(l:List α)(x:α),x∈l->f x<=aS f l
 | y::l,x,h=>by
  simp only[aS,List.map_cons,List.sum_cons];rcases List.mem_cons.1 h with rfl | h
  ·omega
  ·have:=wM f l x h;unfold aS at this;omega
theorem nX {l:List ak}(h:da l 0 0 0){p:Nat}(hp:p<l.length):uD l p:=by
 have hP:eO l 0 0 0/\rk l (mO l) (iB l):=by
  rcases h with⟨_,h⟩ | ⟨_,h,_⟩ | ⟨_,_,h,_⟩ | ⟨h1,h2,_⟩
  ·exact absurd rfl h
  ·exact absurd h (by decide)
  ·exact absurd h (by decide)
  ·exact⟨h1,h2⟩
 obtain⟨h1,h6⟩:=hP;obtain⟨hs,hh,h5,_,_⟩:=uh h1;have e9:∀ g,g<l.length->am l g∈l:=fun g hg=>by unfold am;rw[g_ hg];exact List.getElem_mem hg
 have hd:=hh p hp;unfold ee at hd;simp only[Bool.and_eq_true]at hd;obtain⟨⟨⟨⟨⟨⟨_,_⟩,d2⟩,d3⟩,_⟩,_⟩,_⟩:=hd;have e2:=aV d2;have e3:=aV d3;have KU:(am l p).ins.length≠0:=fun e=>by
  have:=h5 p 0 hp (by unfold j9;rw[if_pos e];omega);unfold hZ at this;rw[if_pos e]at this;cases this
 have dZ:∀ i,i<(am l p).ins.length->dr (am l p) l.length i=true:=fun i hi=>by
  have:=h5 p i hp (by unfold j9;rw[if_neg KU];exact hi);unfold hZ at this;rw[if_neg KU]at this;simpa using this
 unfold eE at hs;refine⟨hp,by omega,e2,⟨e3.1,by have:=e3.2;split at this<;>omega⟩,fun hr=>by have:=e3.2;rw[if_pos hr]at this;omega,by omega,?_,dZ,fun i hi fo=>?_,fun x hx=>?_⟩
 ·have:=wM cd l _ (e9 p hp);change (am l p).ins.length<=_ at this;omega
 ·have b6:=h6 p i hp hi;unfold iB at b6;rw[fo]at b6;simp only[beq_self_eq_true,Bool.true_and,Bool.or_eq_false_iff,decide_eq_false_iff_not,Bool.not_eq_false']at b6;obtain⟨_,hf,_⟩:=gJ (dZ i hi);have f1:=hf 1 (by omega);change dh (am l p) l.length (aT (am l p) i).fb _=true at f1;rw[fo]at f1;have g1:=aV (show dw _ 0 ((l.length:Int)-1)=true from f1);refine⟨g1.1,by omega,fun u hu h1=>?_⟩;have b7:=b6.2;obtain⟨j,hj,rfl⟩:=List.getElem_of_mem hu;have:=Ax b7 j (Nat.zero_le _) hj;rw[g_ hj]at this;change nE (am l p) ((am l (aT (am l p) i).fb.toNat).ups[j])=true at this;unfold nE at this;rw[h1]at this;have:=aV this;omega
 ·obtain⟨g,hg,rfl⟩:=List.getElem_of_mem hx;have:=hh g hg;unfold ee am at this;rw[g_ hg]at this;simp only[Bool.and_eq_true,Option.getD_some,decide_eq_true_eq]at this;omega
def wL:List Nat->Code->Code
 | [],c=>c
 | 0::ds,.seq a _=>wL ds a
 | _::ds,.seq _ b=>wL ds b
 | _::ds,.block _ c=>wL ds c
 | _::ds,.scope c=>wL ds c
 | _::ds,.loop c=>wL ds c
 | 0::ds,.cond _ a _=>wL ds a
 | _::ds,.cond _ _ b=>wL ds b
 | _,c=>c
def tE (l:List ak)(x:ak)(base:Nat)(v:Value)(w':World):Prop:=
 ∃(k:Nat) (σ:dX) (bS bT:Nat) (R:Nat->Value×Value),v=.slice (some (a_ bS 0)) x.ins.length x.ins.length/\jw l x k σ/\mt σ x.ins.length/\oV x.regs.toNat x.ins.length σ/\base<=bS/\bS<bT/\w'.rowIs bS 97 (x.ins.length * 3) (vS σ R) /\
  (∀ i s,i<x.ins.length->σ.st i=some s->ar w' bT (R i).1 s.types/\cn w' bT (R i).2 s.guards)/\(∀ i,i<x.ins.length->σ.st i=none->R i=mC)
def ie (l:List ak)(p:Nat)(w:World)(e:Ending)(w':World):Prop:=
 ∃(v:Value) (x:Int) (n:Nat),e=.returned (.tuple #[v,.agg #[i_ x,i_ (if x=0 then 0 else(p:Int)),i_ (n:Int)]])/\fU l (am l p) x n/\(x=0->tE l (am l p) w.heap.size v w')/\b_ w w'
def AO (l:List ak)(p:Nat)(w:World)(bC bF bP bS bD bT:Nat)(a:o_)(m c:Nat)(nm:ByteArray)(ln pr:Int)(rs:Bool)(rg:Int)(a5 a6 a7 a8:o_)(n5 n6 ni n8 c5 c6 c7 c8:Nat)(gg:Nat)(wr:World):Prop:=
 ∃(k:Nat) (σ:dX) (R:Nat->Value×Value),ou w bC bF bP bS bD bT a m c nm ln pr rs rg (.slice a5 n5 c5) (.slice a6 n6 c6) (.slice a7 ni c7) (.slice a8 n8 c8) ni σ R wr/\Hid (jw l (am l p) k σ)/\Hid (oV (am l p).regs.toNat ni σ)/\Hid (bB ni σ=gg)
theorem pM {l:List ak}{p k:Nat}{σ:dX}{at_ n:Nat}{x:Int}{w w':World}{v:Value}(hg:jw l (am l p) k σ)(ha:di σ (am l p).ins.length at_)(hs:fT l (am l p) σ at_=.inl (x,n))(hx:x≠0)(hb:b_ w w') :
  ie l p w (.returned (.tuple #[v,.agg #[i_ x,i_ (p:Int),i_ (n:Int)]])) w':=
 ⟨v,x,n,by rw[if_neg hx],⟨k,σ,hg,.inl ⟨at_,ha,hs⟩⟩,fun h=>absurd h hx,hb⟩
theorem MG {l:List ak}{x:ak}{σ:dX}{a:Nat}{s:fL}(h:σ.st a=some s)(h1:bI l (aT x a) s.types=none):fT l x σ a=.inl (10,a):=by
 unfold fT;rw[h];show(match bI l (aT x a) s.types with | none=>_ | some r=>_)=_;rw[h1]
theorem MY {l:List ak}{x:ak}{σ:dX}{a:Nat}{s:fL}{r:gX}(h:σ.st a=some s)(h1:bI l (aT x a) s.types=some r)(h2:aQ (aT x a) s.guards=none):fT l x σ a=.inl (11,a):=by
 unfold fT;rw[h];show(match bI l (aT x a) s.types with | none=>_ | some r=>_)=_;rw[h1];show(match aQ (aT x a) s.guards with | none=>_ | some g=>_)=_;rw[h2]
theorem xS {l:List ak}{x:ak}{σ:dX}{a:Nat}{s:fL}{r:gX}{g:List bg}(h:σ.st a=some s)(h1:bI l (aT x a) s.types=some r)(h2:aQ (aT x a) s.guards=some g) :
  fT l x σ a=if kY (aT x a) s.guards r.taken s.types (bh (aT x a) r.types)then(match fk (bK (aT x a) a s (bh (aT x a) r.types) g) ⟨σ.st,bZ σ.due a false⟩with | .inl y=>.inl (13,y) | .inr σ'=>.inr σ')else .inl (12,a):=by
 unfold fT;rw[h];show(match bI l (aT x a) s.types with | none=>_ | some r=>_)=_;rw[h1];show(match aQ (aT x a) s.guards with | none=>_ | some g=>_)=_;rw[h2];rfl
theorem GZ {q:Nat}{x:Int}{s s':gX}(h:gK q x s=some s'):s'.taken.length<=s.taken.length+1:=by
 unfold gK at h
 repeat' split at h
 all_goals first | (cases h;done) | (cases h;simp)
theorem pW {r:List Nat}{n:aA}{s:gX}:∀{k:Nat}{s':gX},aX r n s k=some s'->s'.taken.length<=s.taken.length+k
 | 0,s',h=>by cases h;omega
 | k+1,s',h=>by
  change (match aX r n s k with | none=>none | some s'=>gK (r[k]?.getD 0) (dm n k) s')=some s' at h;cases e:aX r n s k with
  | none=>rw[e]at h;cases h
  | some s1=>rw[e]at h;have:=GZ h;have:=pW e;omega
theorem wK {l:List ak}{n:aA}{t:List Int}{r:gX}(h:bI l n t=some r):r.taken.length<=4:=by
 unfold bI at h;cases e:aX ((bj n.op).getD []) n ⟨t,[],[]⟩ 4 with
 | none=>rw[e]at h;cases h
 | some s=>
  rw[e]at h;change (if _ then _ else _)=_ at h;split at h
  ·cases h
  ·cases h;have:=pW e;simpa using this
theorem qk:∀(A:List (Nat×fL)){σ σ':dX},fk A σ=.inr σ'->∀ B,fk (A++B) σ=fk B σ'
 | [],σ,σ',h,B=>by cases h;rfl
 | x::A,σ,σ',h,B=>by
  change (match gO σ x with | none=>(Sum.inl x.1:Nat ⊕ dX) | some σ'=>fk A σ')=.inr σ' at h;show(match gO σ x with | none=>(Sum.inl x.1:Nat ⊕ dX) | some σ'=>fk (A++B) σ')=_;cases e:gO σ x with
  | none=>rw[e]at h;cases h
  | some σ1=>rw[e]at h;exact qk A h B
theorem uV {σ σ':dX}{y:Nat×fL}(h:gO σ y=some σ'):fk [y] σ=.inr σ':=by
 show(match gO σ y with | none=>(Sum.inl y.1:Nat ⊕ dX) | some σ'=>fk [] σ')=_;rw[h];rfl
theorem uT {σ:dX}{y:Nat×fL}{B:List (Nat×fL)}(h:gO σ y=none):fk (y::B) σ=.inl y.1:=by
 show(match gO σ y with | none=>(Sum.inl y.1:Nat ⊕ dX) | some σ'=>fk B σ')=_;rw[h]
theorem wR {F:List (Nat×fL)}{j:Nat}{y:Nat×fL}{σ σ' σ2:dX}(hj:F[j]? = some y)(h:fk (F.take j) σ=.inr σ')(h1:gO σ' y=some σ2):fk (F.take (j+1)) σ=.inr σ2:=by
 rw[List.take_add_one,hj,qk _ h];exact uV h1
theorem Ga {F:List (Nat×fL)}{j:Nat}{y:Nat×fL}{σ σ':dX}(hj:F[j]? = some y)(h:fk (F.take j) σ=.inr σ')(h1:gO σ' y=none):fk F σ=.inl y.1:=by
 have e:F=F.take j++F.drop j:=(List.take_append_drop j F).symm;have hl:j<F.length:=(List.getElem?_eq_some_iff.1 hj).1;have e2:F.drop j=y::F.drop (j+1):=by
  rw[List.drop_eq_getElem_cons hl];rw[g_ hl]at hj;rw[Option.some.inj hj]
 rw[e,qk _ h,e2];exact uT h1
theorem pK {σ:dX}{y:Nat×fL}(h:σ.st y.1=none):gO σ y=some ⟨bZ σ.st y.1 (some y.2),bZ σ.due y.1 true⟩:=by unfold gO;rw[h]
theorem wG {σ:dX}{y:Nat×fL}{s:fL}(h:σ.st y.1=some s)(hs:s.types=y.2.types/\s.guards=y.2.guards):gO σ y=some σ:=by
 unfold gO;rw[h];show(if mT s y.2=true then some σ else none)=some σ;rw[if_pos];rw[uz];obtain⟨s1,s2⟩:=s;obtain⟨y1,t1,t2⟩:=y;obtain⟨h1,h2⟩:=hs;simp only at h1 h2;rw[h1,h2]
theorem qU {σ:dX}{y:Nat×fL}{s:fL}(h:σ.st y.1=some s)(hs:¬(s.types=y.2.types/\s.guards=y.2.guards)):gO σ y=none:=by
 unfold gO;rw[h];show(if mT s y.2=true then some σ else none)=none;rw[if_neg];rw[uz];intro e;exact hs (by rw[e];exact⟨rfl,rfl⟩)
def FoS (w:World)(S:Nat->Prop)(x:xC)(y:Nat×fL):Prop:=x.at_=(y.1:Nat)/\x.n=y.2.types.length/\x.n2=y.2.guards.length/\aR w S x.a y.2.types/\bx w S x.a2 y.2.guards
theorem dC {w wr:World}{bF:Nat}(h:b_ w wr)(hb:w.heap.size<=bF)(v0 v1 v2:Value):b_ w (((wr.setCell (a_ bF 0) v0).setCell (a_ bF 1) v1).setCell (a_ bF 2) v2):=
 ((h.setCell hb _).setCell hb _).setCell hb _
end Go.Proofs.YtcjfjflljdojlaaGreatDoor
