import Derived.Test.YtcjfjflljdojlaaGreatDoorPart07
import Derived.Deep.LoopGhost
set_option linter.unusedSimpArgs false
set_option linter.unusedVariables false
set_option maxHeartbeats 8000000
set_option maxRecDepth 100000
namespace Go.Proofs.YtcjfjflljdojlaaGreatDoor
open Go.RowKit
theorem fD {op:Int}{r:List Nat}(h:bj op=some r)(k:Nat):r[k]?.getD 0<=21:=by
 have key:∀(t:List (Int×List Nat)),(∀ p,p∈t->∀ x,x∈p.2->x<=21)->uG op t=some r->∀ x,x∈r->x<=21:=by
  intro t
  induction t with
  | nil=>intro _ h;cases h
  | cons p t ih=>
   intro hp h;obtain⟨k,q⟩:=p;unfold uG at h;split at h
   ·cases h;exact hp (k,r) (List.mem_cons_self)
   ·exact ih (fun p hq=>hp p (List.mem_cons_of_mem _ hq)) h
 have bN:=key xF (by decide) h;cases e:r[k]? with
 | none=>exact Nat.zero_le _
 | some x=>exact bN x (List.mem_of_getElem? e)
def dm (x:aA)(k:Nat):Int:=[x.fa,x.fb,x.fc,x.fd][k]?.getD 0
def dr (n:ak)(np i:Nat):Bool:=
 match bj (n.ins[i]?.getD aA.z).op with
 | none=>false
 | some r=>(dh n np (dm (n.ins[i]?.getD aA.z) 0) (r[0]?.getD 0)&&dh n np (dm (n.ins[i]?.getD aA.z) 1) (r[1]?.getD 0)&&dh n np (dm (n.ins[i]?.getD aA.z) 2) (r[2]?.getD 0)&&dh n np (dm (n.ins[i]?.getD aA.z) 3) (r[3]?.getD 0)) &&
  (!(decide (i+1=n.ins.length))||(n.ins[i]?.getD aA.z).op==19||(n.ins[i]?.getD aA.z).op==29||(n.ins[i]?.getD aA.z).op==30)
theorem Kk {n:ak}{np i:Nat}{r:List Nat}(hr:bj (n.ins[i]?.getD aA.z).op=some r)(h:∀ k,k<4->dh n np (dm (n.ins[i]?.getD aA.z) k) (r[k]?.getD 0)=true) :
  dr n np i=(!(decide (i+1=n.ins.length))||(n.ins[i]?.getD aA.z).op==19||(n.ins[i]?.getD aA.z).op==29||(n.ins[i]?.getD aA.z).op==30):=by
 unfold dr;rw[hr];simp only;rw[h 0 (by omega),h 1 (by omega),h 2 (by omega),h 3 (by omega)];simp
theorem Mx {n:ak}{np i:Nat}{r:List Nat}(hr:bj (n.ins[i]?.getD aA.z).op=some r){k:Nat}(hk:k<4)(h:dh n np (dm (n.ins[i]?.getD aA.z) k) (r[k]?.getD 0)=false):dr n np i=false:=by
 unfold dr;rw[hr];simp only;have hc:k=0\/k=1\/k=2\/k=3:=by omega
 rcases hc with rfl | rfl | rfl | rfl<;>simp[h]
structure IU (w:World)(a:o_)(nl c:Nat)(op:Int)(br bf:Nat)(r:List Nat)(x:aA)(wr:World):Prop where
 old:b_ w wr
 code:wr.cell? (a_ w.heap.size 0)=some (.slice a nl c)
 op:wr.cell? (a_ (w.heap.size+1) 0)=some (i_ op)
 rr:wr.rowIs br 3 4 (fun j=>i_ ((r[j]?.getD 0:Nat):Int))
 rf:wr.rowIs bf 3 4 (fun j=>i_ (dm x j))
theorem IU.below {w:World}{a:o_}{nl c:Nat}{op:Int}{br bf:Nat}{r:List Nat}{x:aA}{wr w2:World}(h:IU w a nl c op br bf r x wr)(hb:b_ wr w2):IU w a nl c op br bf r x w2 where
 old:=h.old.trans (hb.mono h.old.size)
 code:=(hb.cell (p:=(a_ w.heap.size 0)) (World.block_lt_of_cell? _ _ h.code)).trans h.code
 op:=(hb.cell (p:=(a_ (w.heap.size+1) 0)) (World.block_lt_of_cell? _ _ h.op)).trans h.op
 rr:=h.rr.of_block (hb.block _ h.rr.lt)
 rf:=h.rf.of_block (hb.block _ h.rf.lt)
theorem zW (a:o_)(l:List ak)(c p i:Nat)(S:Nat->Prop)(w:World)(hs:ao w S a l)(hB:∀ b,S b->b<w.heap.size)(hp:p<l.length)(hi:i<(am l p).ins.length)(ko:0<=(am l p).regs/\(am l p).regs<=250) :
  c_ 100 #[.agg #[.slice a l.length c],i_ p,i_ i] w fun e w'=>e=.returned (.bool (dr (am l p) l.length i))/\b_ w w':=by
 have hn:=hs.1;have HS:=af hs;have HB:=af hB;have xm:=af ko;obtain⟨b,off,rfl,hb,aE⟩:=hs.2 (by omega);have N:aU w S b (off+p * 9) (am l p):=aE p hp;have cZ:=hB b hb;obtain⟨a7,c7,h7,H7⟩:=N.ins;have jn:=H7.1;obtain⟨bi,KI,rfl,YB,y6⟩:=H7.2 (by omega);have I:=y6 i hi;have hbil:=hB bi YB;clear aE y6 hs hB N H7 ko;obtain⟨x,mi⟩:∃ x,x=(am l p).ins[i]?.getD aA.z:=⟨_,rfl⟩;have Ua:=af mi;rw[<-mi]at I;clear mi;have i0:=I.op;have i1:=I.fa;have i2:=I.fb;have i3:=I.fc;have i4:=I.fd;clear I;obtain⟨ni,kp⟩:∃ ni,ni=(am l p).ins.length:=⟨_,rfl⟩;have jO:=af kp;rw[<-kp]at hi h7 jn;clear kp;have Pj:b_ w ((w.alloc (.cells #[.slice (some (a_ b off)) l.length c] 28)).alloc (.cells #[i_ x.op,i_ x.fa,i_ x.fb,i_ x.fc,i_ x.fd] 51)):=(r_.alloc n_ _).alloc (by simp) _;have sU:=af Pj;clear Pj;have RO:=af (il x.op ((w.alloc (.cells #[.slice (some (a_ b off)) l.length c] 28)).alloc (.cells #[i_ x.op,i_ x.fa,i_ x.fb,i_ x.fc,i_ x.fd] 51)));cases hr:bj x.op with
 | none=>
  have R:Hid (false=dr (am l p) l.length i):=by
   show _=_;unfold dr;rw[<-Ua.out,hr]
  rw[hr]at RO;clear hr;go_enter Tryz.func100,Tryz.ntmps100;go_wp2_with fail
  refine(aa RO).mono ?_;rintro e w' ⟨rfl,rfl⟩;go_wp2_with fail
  go_ret;exact⟨al (aa R),aa sU⟩
 | some r=>
  rw[hr]at RO;have HR:Hid (bj ((am l p).ins[i]?.getD aA.z).op=some r):=by show _=_;rw[<-Ua.out];exact hr
  have Ii:Hid (∀ k,r[k]?.getD 0<=21):=fun k=>fD hr k;clear hr;go_enter Tryz.func100,Tryz.ntmps100;go_wp2_with fail
  refine(aa RO).mono ?_;rintro e w1 ⟨br,rfl,mh,sw,au⟩;have sL:b_ w w1:=(aa sU).trans (au.mono (by simp;omega));have k0:w1.cell? (a_ w.heap.size 0)=some (.slice (some (a_ b off)) l.length c):=by rw[au.cell (p:=(a_ w.heap.size 0)) (by simp;omega)];simp[go_sem]
  have j0:w1.cell? (a_ (w.heap.size+1) 0)=some (i_ x.op):=by rw[au.cell (p:=(a_ (w.heap.size+1) 0)) (by simp)];simp[go_sem]
  have j1:w1.cell? (a_ (w.heap.size+1) 1)=some (i_ x.fa):=by rw[au.cell (p:=(a_ (w.heap.size+1) 1)) (by simp)];simp[go_sem]
  have j2:w1.cell? (a_ (w.heap.size+1) 2)=some (i_ x.fb):=by rw[au.cell (p:=(a_ (w.heap.size+1) 2)) (by simp)];simp[go_sem]
  have j3:w1.cell? (a_ (w.heap.size+1) 3)=some (i_ x.fc):=by rw[au.cell (p:=(a_ (w.heap.size+1) 3)) (by simp)];simp[go_sem]
  have j4:w1.cell? (a_ (w.heap.size+1) 4)=some (i_ x.fd):=by rw[au.cell (p:=(a_ (w.heap.size+1) 4)) (by simp)];simp[go_sem]
  have lz:=af sL;have rH:=af sw;clear au sL sw mh RO;go_wp2_with fail
  refine(lQ x.op x.fa x.fb x.fc x.fd w1).mono ?_;rintro e w2 ⟨bf,rfl,jz,qE,bo⟩;have W0:Hid (IU w (some (a_ b off)) l.length c x.op br bf r x w2):=
   {old:=(aa lz).trans (bo.mono (aa lz).size)
    code:=(bo.cell (p:=(a_ w.heap.size 0)) (World.block_lt_of_cell? _ _ k0)).trans k0
    op:=(bo.cell (p:=(a_ (w.heap.size+1) 0)) (World.block_lt_of_cell? _ _ j0)).trans j0
    rr:=(aa rH).of_block (bo.block _ (aa rH).lt)
    rf:=qE }
  clear bo jz qE k0 j0 j1 j2 j3 j4 lz rH;go_wp2_with fail
  go_loopg [30] 4 (fun g v wr=>∃(k:Nat),k+g=4/\v=i_ k/\IU w (some (a_ b off)) l.length c x.op br bf r x wr/\Hid (∀ q,q<k->dh (am l p) l.length (dm ((am l p).ins[i]?.getD aA.z) q) (r[q]?.getD 0)=true))
  case atStart=>exact⟨0,by omega,rfl,aa W0,fun q h=>absurd h (Nat.not_lt_zero _)⟩
  case round=>
   clear W0;obtain⟨k,hk,rfl,hW,dZ⟩:=hrel;by_cases ax:k<4
   ·have cr:=hW.rr.cell (i:=k) ax;have cf:=hW.rf.cell (i:=k) ax;have cc:=hW.code;have FI:Hid (∀ W:World,b_ wr W->c_ 135 #[.agg #[.slice (some (a_ b off)) l.length c],i_ p,i_ ((r[k]?.getD 0:Nat):Int),i_ (dm x k)] W fun e w'=>e=.returned (.bool (dh (am l p) l.length (dm x k) (r[k]?.getD 0)))/\b_ W w'):=fun W dW=>
     have St:=hW.old.trans (dW.mono hW.old.size)
     Cp _ l c p _ _ S W ((aa HS).keep St (aa HB)) (fun b h=>l_ (aa HB b h) St.size) hp (aa xm) (aa Ii k)
    have OKN:Hid (dh (am l p) l.length (dm x k) (r[k]?.getD 0)=true->∀ q,q<k+1->dh (am l p) l.length (dm ((am l p).ins[i]?.getD aA.z) q) (r[q]?.getD 0)=true):=fun h q hq=>by
     by_cases e:q=k
     ·aj e;rw[<-Ua.out];exact h
     ·exact dZ.out q (by omega)
    have mK:Hid (dh (am l p) l.length (dm x k) (r[k]?.getD 0)=false->false=dr (am l p) l.length i):=fun h=>(Mx HR.out ax (by rw[<-Ua.out];exact h)).symm;generalize dh (am l p) l.length (dm x k) (r[k]?.getD 0)=res at *;generalize dm x k=xv at *;generalize r[k]?.getD 0=rv at *;have HW:=af hW;clear hW dZ;cases res
    ·go_wp2_with fail
     go_region_with (go_at_call 135;refine(aa FI _ (by exact r_.drew)).mono ?_;rintro e w' ⟨rfl,dW⟩)
     all_goals (go_wp2_with fail)
     all_goals go_ret
     all_goals exact⟨al (aa mK (by first | rfl | trivial)),(aa HW).old.drew.trans (dW.mono (aa HW).old.size)⟩
    ·go_wp2_with fail
     go_region_with (go_at_call 135;refine(aa FI _ (by exact r_.drew)).mono ?_;rintro e w' ⟨rfl,dW⟩)
     all_goals (go_wp2_with fail)
     all_goals go_roundg (4-(k+1))
     all_goals first | (case rel=>exact⟨k+1,by omega,by go_num,(aa HW).below (r_.drew.trans dW),aa OKN (by first | rfl | trivial)⟩) | skip
     all_goals omega
   ·have gz:k=4:=by omega
    have E:Hid (dr (am l p) l.length i=(!(decide (i+1=ni))||x.op==19||x.op==29||x.op==30)):=by
     have h:=Kk HR.out (np:=l.length) (fun q hq=>dZ.out q (by omega));rw[<-Ua.out,<-jO.out]at h;exact h
    have cc:=hW.code;have co:=hW.op;have ci:=(hW.old.cell (p:=(a_ b (off+p * 9+7))) cZ).trans h7;have HO:=af hW.old;clear hW dZ HR Ii Ua jO HS HB xm;generalize x.op=xo at *;by_cases hl:i+1=ni
    ·have hlb:((i:Int)==(ni:Int)-1)=true:=by simp;omega
     by_cases t1:xo=19
     ·have R:Hid (true=dr (am l p) l.length i):=by show _=_;rw[E.out];simp[t1]
      have SW:(xo==19)=true:=by simpa using t1
      clear t1;clear E;go_wp2_with fail
      go_ret;exact⟨al (aa R),aa HO⟩
     have SW:(xo==19)=false:=by simpa using t1
     by_cases t2:xo=29
     ·have R:Hid (true=dr (am l p) l.length i):=by show _=_;rw[E.out];simp[t2]
      have WJ:(xo==29)=true:=by simpa using t2
      clear t1 t2;clear E;go_wp2_with fail
      go_ret;exact⟨al (aa R),aa HO⟩
     have WJ:(xo==29)=false:=by simpa using t2
     by_cases t3:xo=30
     ·have R:Hid (true=dr (am l p) l.length i):=by show _=_;rw[E.out];simp[t3]
      have t3b:(xo==30)=true:=by simpa using t3
      clear t1 t2 t3;clear E;go_wp2_with fail
      go_ret;exact⟨al (aa R),aa HO⟩
     ·have R:Hid (false=dr (am l p) l.length i):=by show _=_;rw[E.out];simp[hl,t1,t2,t3]
      have t3b:(xo==30)=false:=by simpa using t3
      clear t1 t2 t3;clear E;go_wp2_with fail
      go_ret;exact⟨al (aa R),aa HO⟩
    ·have hlb:((i:Int)==(ni:Int)-1)=false:=by simp;omega
     have R:Hid (true=dr (am l p) l.length i):=by show _=_;rw[E.out];simp[hl]
     clear E;go_wp2_with fail
     go_ret;exact⟨al (aa R),aa HO⟩
end Go.Proofs.YtcjfjflljdojlaaGreatDoor
