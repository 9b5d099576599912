import Derived.Test.YtomcjennjcpdnaaGreatDoorPart25
import Derived.Deep.RegionLaw
set_option linter.unusedSimpArgs false
set_option linter.unusedVariables false
set_option maxHeartbeats 8000000
namespace Go.Proofs.YtomcjennjcpdnaaGreatDoor
set_option maxRecDepth 100000
set_option maxHeartbeats 4000000
open Go.RowKit
attribute [local go_sem] run_store_float
theorem quo_of {x y:Nat}(h:(FloatKind.f64.format.order x y==some Ordering.eq)=true\/(FloatKind.f64.format.order y x==some Ordering.eq)=true):∃ q,∀ w:World,(binOp .quo 95 (.float .f64 4607182418800017408) (.float .f64 x)).run Tryz.prog w=.ok (.float .f64 q) w:=by
 have key:∃ q,floatBits .quo .f64 4607182418800017408 x=some q:=by
  have h':(Ieee.double.read x).order (Ieee.double.read y)=some Ordering.eq\/(Ieee.double.read y).order (Ieee.double.read x)=some Ordering.eq:=h.elim (fun h=>.inl (show FloatKind.f64.format.order x y=some Ordering.eq by simpa using h)) (fun h=>.inr (show FloatKind.f64.format.order y x=some Ordering.eq by simpa using h));show ∃ q,((Ieee.double.read 4607182418800017408).quotient (Ieee.double.fractionBits+2) (Ieee.double.read x)).map Ieee.double.write=some q;rw[read_one];generalize Ieee.double.read x=d at h';generalize Ieee.double.read y=d2 at h';cases d with
  | number s m i=>
   simp only[Ieee.Datum.quotient];by_cases e:m=0
   ·simp[e]
   ·simp[e]
  | infinity s=>simp[Ieee.Datum.quotient]
  | nan s f=>cases d2<;>simp[Ieee.Datum.order]at h'
 obtain⟨q,hq⟩:=key;exact⟨q,fun w=>run_float_arith (w:=w) (P:=Tryz.prog) .quo 95 .f64 4607182418800017408 x q hq⟩
theorem info_val:(Tryz.prog.info? 155).map (fun i=>(i.zero,i.size,i.bytes))=some (some (.agg #[.int .i64 0,.int .i64 0,.float .f64 0,.string ByteArray.empty,.int .i64 0]),5,48):=by kernel_rfl
def vdC (v:VD):List Value:=[.int .i64 v.k,.int .i64 v.n,.float .f64 v.f,.string v.s,.int .i64 v.r]
theorem vdF_push {ks:Nat->VD}{n:Nat}{v:VD}:(∀ i,i<n * 5->vdF (fun j=>if j=n then v else ks j) i=vdF ks i)/\∀ i,i<5->(vdC v)[i]? = some (vdF (fun j=>if j=n then v else ks j) (n * 5+i)):=by
 refine⟨fun i hi=>?_,fun i hi=>?_⟩
 ·have h1:¬i / 5=n:=by omega
  unfold vdF;simp only[if_neg h1]
 ·have h1:(n * 5+i) / 5=n:=by omega
  have h2:(n * 5+i) % 5=i:=by omega
  unfold vdF;rw[h1,h2];have:i=0\/i=1\/i=2\/i=3\/i=4:=by omega
  rcases this with rfl | rfl | rfl | rfl | rfl<;>simp[vdC]
def KonPost (F:CF)(X:CX)(w:World)(e:Ending)(w':World):Prop:=
 ∃(r:Int) (X':CX),e=.returned (.int .i64 r)/\CC F X' w'/\Fr X.O X'.O w w'/\X'.top=X.top/\X'.home=X.home/\X'.ms=X.ms/\X'.n=X.n/\X'.nk<=X.nk+1
theorem konst_any (F:CF)(X:CX)(v:VD)(w:World)(h:CC F X w)(hn:X.nk<2500000000000) :
  Calls Tryz.prog 138 #[.pointer (some ⟨F.cb,0,none⟩),.agg #[.int .i64 v.k,.int .i64 v.n,.float .f64 v.f,.string v.s,.int .i64 v.r]] w (KonPost F X w):=by
 obtain⟨i0,hi,hz0,hz1,hz2⟩:=info_of info_val;obtain⟨W,hW⟩:∃ W:World,W=w.alloc (.cells #[.int .i64 v.k,.int .i64 v.n,.float .f64 v.f,.string v.s,.int .i64 v.r] 155):=⟨_,rfl⟩;have HC:Hid (CC F X W):=by show CC _ _ _;rw[hW];exact h.alloc _
 have HF:Hid (Fr X.O X.O w W):=by show Fr _ _ _ _;rw[hW];exact Fr.refl.alloc _
 have hSz:Hid (W.heap.size=w.heap.size+1):=by show _=_;rw[hW];simp
 have HV:Hid (∀ wr,Below W.heap.size W wr->wr.cell? ⟨w.heap.size,0,none⟩=some (.int .i64 v.k)/\wr.cell? ⟨w.heap.size,1,none⟩=some (.int .i64 v.n)/\wr.cell? ⟨w.heap.size,2,none⟩=some (.float .f64 v.f)/\wr.cell? ⟨w.heap.size,3,none⟩=some (.string v.s)/\wr.cell? ⟨w.heap.size,4,none⟩=some (.int .i64 v.r)/\w.heap.size<wr.heap.size):=fun wr hb=>by
  have hs:w.heap.size<W.heap.size:=by rw[hSz.out];omega
  refine⟨?_,?_,?_,?_,?_,Nat.lt_of_lt_of_le hs hb.size⟩
  all_goals rw[Below.cell hb (by exact hs),hW];simp[go_sem]
 have c8:=h.c8;obtain⟨a8,p8,e8,_,hmx⟩:=h.con.form;rw[e8]at c8;have hcl:=h.cbl;have HW:=hide hW;have E8:=hide e8;have hml:X.nk<=9223372036854775807:=by omega
 clear h hW e8 hmx;go_enter Tryz.func138,Tryz.ntmps138;go_wp2_with fail
 rw[<-HW.out];go_loopw [13] (fun i wr=>∃(k:Nat),k<=X.nk/\i=.int .i64 k/\Below W.heap.size W wr) (fun i _=>X.nk-(intOf i).toNat)
 case atStart=>exact⟨0,Nat.zero_le _,rfl,Below.refl _ _⟩
 case round=>
  obtain⟨k,hk,rfl,hbw⟩:=hrel;obtain⟨v0,v1,v2,v3,v4,hvl⟩:=HV.out _ hbw;have hbx:∀ o,Below W.heap.size W (wr.alloc o):=fun o=>hbw.alloc hbw.size _;have HBX:=hide hbx;have HBW:=hide hbw;clear hbx;by_cases hlt:k<X.nk
  ·obtain⟨g,cap,e9,_,hgl,_,hcc,_⟩:=(HC.out.below hbw).con.at (by omega);rw[E8.out]at e9;cases e9;have k0:=hcc (k * 5) (by omega);have k1:=hcc (k * 5+1) (by omega);have k2:=hcc (k * 5+2) (by omega);have k3:=hcc (k * 5+3) (by omega);have k4:=hcc (k * 5+4) (by omega);have q:∀ i,i<5->(k * 5+i) / 5=k/\(k * 5+i) % 5=i:=fun i hi=>by omega
   have q0:k * 5 / 5=k/\k * 5 % 5=0:=by omega
   unfold vdF at k0 k1 k2 k3 k4;rw[q0.1,q0.2]at k0;rw[(q 1 (by omega)).1,(q 1 (by omega)).2]at k1;rw[(q 2 (by omega)).1,(q 2 (by omega)).2]at k2;rw[(q 3 (by omega)).1,(q 3 (by omega)).2]at k3;rw[(q 4 (by omega)).1,(q 4 (by omega)).2]at k4;simp at k0 k1 k2 k3 k4;generalize X.ks k=x at *;clear hcc q q0 hbw;have RET:Hid (∀ o,KonPost F X w (.returned (.int .i64 k)) (wr.alloc o)):=fun o=>⟨k,X,rfl,(HC.out.below (HBX.out o)),HF.out.trans (.of_below (HBX.out o)),rfl,rfl,rfl,rfl,Nat.le_succ _⟩;have QQ:Hid (∀ o,∃(k_1:Nat),k_1<=X.nk/\(.int .i64 (k+1:Nat):Value)=.int .i64 k_1/\Below W.heap.size W (wr.alloc o)):=fun o=>⟨k+1,by omega,rfl,HBX.out o⟩;cases l4:FloatKind.f64.format.order x.f v.f==some Ordering.eq
   ·go_wp2_with fail
    all_goals first
     | (go_ret;exact RET.out _)
     | (go_roundw;(case rel=>exact⟨k+1,by omega,by go_num,HBX.out _⟩);(case measure=>simp[intOf];omega))
   ·cases l5:FloatKind.f64.format.order x.f 0==some Ordering.eq
    ·have l6:(FloatKind.f64.format.order x.f 0 != some Ordering.eq)=true:=by unfold bne;rw[l5];rfl
     go_wp2_with fail
     all_goals first
      | (go_ret;exact RET.out _)
      | (go_roundw;(case rel=>exact⟨k+1,by omega,by go_num,HBX.out _⟩);(case measure=>simp[intOf];omega))
    ·obtain⟨q1,hq1⟩:=quo_of (.inl l4);obtain⟨q2,hq2⟩:=quo_of (.inr l4);have l6:(FloatKind.f64.format.order x.f 0 != some Ordering.eq)=false:=by unfold bne;rw[l5];rfl
     go_wp2_with fail
     all_goals first
      | (go_ret;exact RET.out _)
      | (go_roundw;(case rel=>exact⟨k+1,by omega,by go_num,HBX.out _⟩);(case measure=>simp[intOf];omega))
  ·have c8':=(HC.out.below hbw).c8;have z8':=(HC.out.below hbw).fz 8;have hcl':=(HC.out.below hbw).cbl;have hcl2:F.cb<wr.heap.size+1:=by omega
   have hvl2:w.heap.size<wr.heap.size+1:=by omega
   rw[E8.out]at c8';obtain⟨W2,hW2⟩:∃ W2:World,W2=(wr.alloc (.cells #[.int .i64 v.k,.int .i64 v.n,.float .f64 v.f,.string v.s,.int .i64 v.r] 155)).drew:=⟨_,rfl⟩;have H1:Hid (CC F X W2):=by show CC F X W2;rw[hW2];exact((HC.out.below hbw).alloc _).drew
   have HF2:Hid (Fr X.O X.O w W2):=by show Fr _ _ _ _;rw[hW2];exact((HF.out.trans (.of_below hbw)).alloc _).drew
   have HN:Hid (∀ j u,(vdC v)[j]? = some u->W2.cell? ((⟨wr.heap.size,0,none⟩:Addr).add j)=some u):=by
    show ∀ j u,_;rw[hW2];intro j u hj;rcases j with _ | _ | _ | _ | _ | _<;>simp[vdC]at hj<;>subst hj<;>simp[Addr.add,go_sem]
   have hSz2:Hid (W2.heap.size=wr.heap.size+1):=by show _=_;rw[hW2];simp
   have NX:Hid (∀ w3,W2.grownBy w3 X.kv.ownBlock->w3.cell? ⟨F.cb,8,none⟩=some (.slice a8 X.nk p8)/\w3.frozen? ⟨F.cb,8,none⟩=false/\F.cb<w3.heap.size):=fun w3 hg=>by
    have hb:w3.rowIs F.cb 52 17 (ccV F X):=H1.out.box.of_block (hg.block F.cb H1.out.cbl (fun e=>by have:=H1.out.dis.k1 _ e.symm;have:=H1.out.ok.cb.2;omega));exact⟨by rw[<-E8.out];exact hb.cell (i:=8) (by omega),hb.frozen 8,hb.lt⟩
   have hB1:F.B1<=wr.heap.size:=(HC.out.below hbw).b1;have HW2:=hide hW2;clear hW2 hbw c8;go_wp2_with fail
   go_region_law ((rw[<-HW2.out];refine step_append_lies _ (by rfl) (.tmp 65) (.tmp 67) 44 (by rfl) F.B1 155 i0 (.agg #[.int .i64 0,.int .i64 0,.float .f64 0,.string ByteArray.empty,.int .i64 0]) 5 48 Tryz.underlying44 hi hz0 hz1 hz2 rfl (by decide) (.slice a8 X.nk p8) X.nk _ rfl (E8.out ▸ H1.out.con.owns) ⟨wr.heap.size,0,none⟩ 1 1 (vdC v) rfl rfl HN.out (by intro u hu;simp[vdC]at hu;rcases hu with rfl | rfl | rfl | rfl | rfl<;>rfl) (by decide) (by unfold maxLen;omega) (by omega) (by rw[hSz2.out];omega) (wr.heap.size+1) hSz2.out ?_;intro g3 cap3 w3 hown3 hgrow3 hat3 hlt3;rw[<-E8.out]at hgrow3 hat3;obtain⟨n1,n2,n3⟩:=NX.out _ hgrow3))
   all_goals
    have R:=hide (CC.growK H1.out hgrow3 (hat3.elim .inl fun e=>.inr (by rw[hSz2.out,e];exact Nat.le_refl _)) (OwnF.push rfl hown3 (vdF_push (v:=v)).1 vdF_push.2));clear hown3 hgrow3 hat3 NX;go_wp2_with fail
    go_ret;exact⟨_,_,rfl,R.out.1,HF2.out.trans R.out.2,rfl,rfl,rfl,rfl,Nat.le_refl _⟩
end Go.Proofs.YtomcjennjcpdnaaGreatDoor
namespace Go.Proofs.YtomcjennjcpdnaaGreatDoor
set_option maxRecDepth 100000
set_option maxHeartbeats 4000000
open Go.RowKit
attribute [local go_sem] run_store_float
theorem load_any (F:CF)(X:CX)(r:Int)(v:VD)(w:World)(h:CC F X w)(hk:X.nk<=X.n)(hn:X.n<2400000000000) :
  Calls Tryz.prog 110 #[.pointer (some ⟨F.cb,0,none⟩),.int .i64 r,.agg #[.int .i64 v.k,.int .i64 v.n,.float .f64 v.f,.string v.s,.int .i64 v.r]] w (CPost F X w (.tuple #[]) X.top X.home 1):=by
 have H:=hide h;clear h;go_enter Tryz.func110,Tryz.ntmps110;go_wp2_with fail
 refine(konst_any F X v _ (H.out.alloc _) (by omega)).mono ?_;rintro e w1 ⟨q,X1,rfl,h1,f1,t1,o1,m1,n1,k1⟩;have R1:=hide (And.intro h1 (And.intro f1 (And.intro t1 (And.intro o1 (And.intro m1 (And.intro n1 k1))))));have hn1:X1.n<2500000000000:=by omega
 clear h1 f1 t1 o1 m1 n1 k1;go_wp2_with fail
 refine(put_any F X1 _ _ _ _ _ _ R1.out.1 hn1).mono ?_;rintro e w2 ⟨iv,is,O,rfl,h2,f2⟩;have R2:=hide (And.intro h2 f2);clear h2 f2;go_wp2_with fail
 go_end0
 obtain⟨h1,f1,t1,o1,m1,n1,k1⟩:=R1.out;exact⟨_,rfl,R2.out.1,((Fr.refl.alloc _).trans f1).trans R2.out.2,t1,o1,m1,by simp only;omega,by simp only;omega,by simp only;omega⟩
def ValPost (v:VD)(w:World)(e:Ending)(w':World):Prop:=e=.returned (.agg #[.int .i64 v.k,.int .i64 v.n,.float .f64 v.f,.string v.s,.int .i64 v.r])/\Below w.heap.size w w'
theorem l1int_any (n:Int)(w:World):Calls Tryz.prog 115 #[.int .i64 n] w (ValPost ⟨2,n,0,ByteArray.empty,0⟩ w):=by
 go_enter Tryz.func115,Tryz.ntmps115;go_wp2_with fail
 refine bodyPost_ret (v:=.agg #[.int .i64 2,.int .i64 n,.float .f64 0,.string ByteArray.empty,.int .i64 0]) (by simp[results,Tryz.results115,go_sem];rfl) rfl ?_;exact⟨rfl,(Below.refl _ _).alloc (Nat.le_refl _) _⟩
theorem l1bool_any (b:Bool)(w:World):Calls Tryz.prog 114 #[.bool b] w (ValPost ⟨1,if b then 1 else 0,0,ByteArray.empty,0⟩ w):=by
 cases b
 ·go_enter Tryz.func114,Tryz.ntmps114;go_wp2_with fail
  refine bodyPost_ret (v:=.agg #[.int .i64 1,.int .i64 0,.float .f64 0,.string ByteArray.empty,.int .i64 0]) (by simp[results,Tryz.results114,go_sem];rfl) rfl ?_;exact⟨rfl,(Below.refl _ _).alloc (Nat.le_refl _) _⟩
 ·go_enter Tryz.func114,Tryz.ntmps114;go_wp2_with fail
  refine bodyPost_ret (v:=.agg #[.int .i64 1,.int .i64 1,.float .f64 0,.string ByteArray.empty,.int .i64 0]) (by simp[results,Tryz.results114,go_sem];rfl) rfl ?_;exact⟨rfl,(Below.refl _ _).alloc (Nat.le_refl _) _⟩
theorem l1flt_any (n:Nat)(w:World):Calls Tryz.prog 116 #[.float .f64 n] w (ValPost ⟨3,0,n,ByteArray.empty,0⟩ w):=by
 go_enter Tryz.func116,Tryz.ntmps116;go_wp2_with fail
 refine bodyPost_ret (v:=.agg #[.int .i64 3,.int .i64 0,.float .f64 n,.string ByteArray.empty,.int .i64 0]) (by simp[results,Tryz.results116,go_sem];rfl) rfl ?_;exact⟨rfl,(Below.refl _ _).alloc (Nat.le_refl _) _⟩
theorem l1str_any (s:ByteArray)(w:World):Calls Tryz.prog 117 #[.string s] w (ValPost ⟨4,0,0,s,0⟩ w):=by
 go_enter Tryz.func117,Tryz.ntmps117;go_wp2_with fail
 refine bodyPost_ret (v:=.agg #[.int .i64 4,.int .i64 0,.float .f64 0,.string s,.int .i64 0]) (by simp[results,Tryz.results117,go_sem]) rfl ?_;exact⟨rfl,(Below.refl _ _).alloc (Nat.le_refl _) _⟩
end Go.Proofs.YtomcjennjcpdnaaGreatDoor
namespace Go.Proofs.YtomcjennjcpdnaaGreatDoor
set_option maxRecDepth 100000
set_option maxHeartbeats 4000000
open Go.RowKit
attribute [local go_sem] run_store_float
def nodeF (n:NodeD)(a1:Option Addr)(c1:Nat)(a2:Option Addr)(c2:Nat)(j:Nat):Value:=
 if j=0 then .int .i64 n.kind else if j=1 then .int .i64 n.line else if j=2 then .int .i64 n.op else if j=3 then .int .i64 n.num else if j=4 then .float .f64 n.flt else if j=5 then .string n.str
 else if j=6 then .slice a1 n.refs.length c1 else .slice a2 n.kids.length c2
def nodeO (kd:Int)(nr nk:Nat)(n:NodeD)(a1:Option Addr)(c1:Nat)(a2:Option Addr)(c2:Nat):Obj:=.cells #[.int .i64 kd,.int .i64 n.line,.int .i64 n.op,.int .i64 n.num,.float .f64 n.flt,.string n.str,.slice a1 nr c1,.slice a2 nk c2] 97
structure NBox (S:Nat->Prop)(nb:Nat)(n:NodeD)(a1:Option Addr)(c1:Nat)(a2:Option Addr)(c2:Nat)(X:CX)(w:World):Prop where
 row:w.rowIs nb 97 8 (nodeF n a1 c1 a2 c2)
 refs:IntsAt w S a1 n.refs
 kids:IntsAt w S a2 n.kids
 far:¬X.O nb
section
variable {F:CF} {l:List FnD} {f:Nat} {S:Nat->Prop} {nb:Nat} {n:NodeD} {a1 a2:Option Addr} {p1 p2:Nat} {X X1:CX} {w w1:World}
theorem NBox.new {kd:Int}{nr nk:Nat}(ek:n.kind=kd)(er:n.refs.length=nr)(en:n.kids.length=nk)(U:UOk F l f S)(h:CC F X w)(h1:IntsAt w S a1 n.refs)(h2:IntsAt w S a2 n.kids):NBox S w.heap.size n a1 p1 a2 p2 X (w.alloc (nodeO kd nr nk n a1 p1 a2 p2)) where
 row:=⟨_,Go.Deep.blk_alloc_new _ _,rfl,fun i hi=>by
  have:i=0\/i=1\/i=2\/i=3\/i=4\/i=5\/i=6\/i=7:=by omega
  rcases this with rfl | rfl | rfl | rfl | rfl | rfl | rfl | rfl<;>first | rfl | (rw[<-ek];rfl) | (rw[<-er];rfl) | (rw[<-en];rfl)⟩
 refs:=h1.keep ((Below.refl _ _).alloc (Nat.le_refl _) _) (fun b hb=>(U.far h b hb).1)
 kids:=h2.keep ((Below.refl _ _).alloc (Nat.le_refl _) _) (fun b hb=>(U.far h b hb).1)
 far:=fun ho=>by have:=(h.low _ ho).2;omega
theorem NBox.step (N:NBox S nb n a1 p1 a2 p2 X w)(U:UOk F l f S)(h:CC F X w)(g:Fr X.O X1.O w w1):NBox S nb n a1 p1 a2 p2 X1 w1 where
 row:=N.row.of_block (g.block nb N.row.lt N.far)
 refs:=N.refs.fr g (U.far h)
 kids:=N.kids.fr g (U.far h)
 far:=fun ho=>(g.new nb ho).elim N.far (fun h2=>by have:=N.row.lt;omega)
theorem NBox.c0 (N:NBox S nb n a1 p1 a2 p2 X w):w.cell? ⟨nb,0,none⟩=some (.int .i64 n.kind):=N.row.cell (by omega)
theorem NBox.c1 (N:NBox S nb n a1 p1 a2 p2 X w):w.cell? ⟨nb,1,none⟩=some (.int .i64 n.line):=N.row.cell (by omega)
theorem NBox.c2 (N:NBox S nb n a1 p1 a2 p2 X w):w.cell? ⟨nb,2,none⟩=some (.int .i64 n.op):=N.row.cell (by omega)
theorem NBox.c3 (N:NBox S nb n a1 p1 a2 p2 X w):w.cell? ⟨nb,3,none⟩=some (.int .i64 n.num):=N.row.cell (by omega)
theorem NBox.c4 (N:NBox S nb n a1 p1 a2 p2 X w):w.cell? ⟨nb,4,none⟩=some (.float .f64 n.flt):=N.row.cell (by omega)
theorem NBox.c5 (N:NBox S nb n a1 p1 a2 p2 X w):w.cell? ⟨nb,5,none⟩=some (.string n.str):=N.row.cell (by omega)
theorem NBox.c6 (N:NBox S nb n a1 p1 a2 p2 X w):w.cell? ⟨nb,6,none⟩=some (.slice a1 n.refs.length p1):=N.row.cell (by omega)
theorem NBox.c7 (N:NBox S nb n a1 p1 a2 p2 X w):w.cell? ⟨nb,7,none⟩=some (.slice a2 n.kids.length p2):=N.row.cell (by omega)
theorem IntsAt.cellAt {b o j:Nat}{k:List Int}(h:IntsAt w S (some ⟨b,o,none⟩) k)(hj:j<k.length):w.cell? ⟨b,o+j,none⟩=some (.int .i64 (k[j]?.getD 0)):=by
 obtain⟨b',o',e,_,hc⟩:=h.2 (by omega);cases e;exact hc j hj
theorem IntsAt.some_of {a:Option Addr}{k:List Int}(h:IntsAt w S a k)(hj:0<k.length):∃ b o,a=some ⟨b,o,none⟩:=by
 obtain⟨b',o',e,_,hc⟩:=h.2 hj;exact⟨b',o',e⟩
end
theorem wrap_up {t:Int}(h0:0<=t)(h1:t<=2000000):IntKind.i64.wrap (t+1)=t+1:=by rw[IntKind.wrap_i64];omega
structure Bud (X:CX)(c:Nat):Prop where
 t0:0<=X.top
 t1:X.top+c<=2000000
 m1:X.ms.length+c<=2000000
 n1:X.n+2000000 * c<=2300000000000
 nk:X.nk<=X.n
theorem Bud.next {X X1:CX}{c c1 c2 d:Nat}{t:Int}{h:Nat->Int}(b:Bud X c)(s:St X X1 t h d)(hd:d<=2000000 * c1)(hc:c1+c2<=c)(h0:0<=t)(ht:t<=X.top+c1):Bud X1 c2:=
 ⟨by rw[s.top];exact h0,by rw[s.top];have:=b.t1;omega,by rw[s.ms];have:=b.m1;omega,by have:=b.n1;have:=s.n2;omega,s.nk⟩
def OneOk (F:CF)(ns:List NodeD)(i:Nat):Prop:=∀(X:CX)(w:World),CC F X w->Bud X (Wt ns i) ->
 Calls Tryz.prog 89 #[.pointer (some ⟨F.cb,0,none⟩),.int .i64 i] w (CPost F X w (.int .i64 X.top) (X.top+1) X.home (2000000 * Wt ns i))
def ManyOk (F:CF)(ns:List NodeD)(i:Nat):Prop:=∀(X:CX)(w:World),CC F X w->Bud X (Wt ns i) ->
 Calls Tryz.prog 81 #[.pointer (some ⟨F.cb,0,none⟩),.int .i64 i] w (CPost F X w (.int .i64 X.top) (X.top+1) X.home (2000000 * Wt ns i))
def ManyOkS (F:CF)(ns:List NodeD)(i:Nat):Prop:=∀(X:CX)(w:World),CC F X w->Bud X (Wt ns i) ->
 Calls Tryz.prog 81 #[.pointer (some ⟨F.cb,0,none⟩),.int .i64 i] w (CPost F X w (.int .i64 X.top) (X.top+1) X.home (2000000 * Wt ns i-100))
def PutC (F:CF)(X:CX)(w:World)(e:Ending)(w':World):Prop:=∃ X',e=.returned (.int .i64 X.n)/\CC F X' w'/\Fr X.O X'.O w w'/\St X X' X.top X.home 1/\X.n<X'.n
theorem put_c (F:CF)(X:CX)(o a b x d:Int)(w:World)(h:CC F X w)(hn:X.n<2400000000000)(hk:X.nk<=X.n) :
  Calls Tryz.prog 30 #[.pointer (some ⟨F.cb,0,none⟩),.int .i64 o,.int .i64 a,.int .i64 b,.int .i64 x,.int .i64 d] w (PutC F X w):=by
 refine(put_any F X o a b x d w h (by omega)).mono ?_;rintro e w2 ⟨iv,is,O,rfl,h2,f2⟩;exact⟨_,rfl,h2,f2,⟨rfl,rfl,rfl,Nat.le_succ _,Nat.le_refl _,Nat.le_succ_of_le hk⟩,Nat.lt_succ_self _⟩
theorem push_c (F:CF)(X:CX)(w:World)(h:CC F X w)(h0:0<=X.top)(h1:X.top<=1000000000)(hk:X.nk<=X.n) :
  Calls Tryz.prog 29 #[.pointer (some ⟨F.cb,0,none⟩)] w (CPost F X w (.int .i64 X.top) (X.top+1) X.home 0):=by
 refine(push_any F X w h h0 h1).mono ?_;rintro e w2 ⟨r,rfl,h2,f2⟩;exact⟨_,rfl,h2,f2,rfl,rfl,rfl,Nat.le_refl _,Nat.le_refl _,hk⟩
theorem CPost.fin {F:CF}{X X1:CX}{w w1:World}{v:Value}{t t':Int}{h:Nat->Int}{d d':Nat}(C:CC F X1 w1)(f:Fr X.O X1.O w w1)(s:St X X1 t h d)(hd:d<=d'):CPost F X w v t' h d' (.returned v) (w1.setCell ⟨F.cb,11,none⟩ (.int .i64 t')):=
 ⟨_,rfl,C.top t',f.set (a:=⟨F.cb,11,none⟩) C.ocb _,rfl,s.home,s.ms,s.n1,Nat.le_trans s.n2 (by omega),s.nk⟩
theorem kids_one {ns:List NodeD}(T:TreeOk ns){i:Nat}(hi:i<ns.length)(hl:(nd ns i).kids.length=1):∃ k0:Nat,(nd ns i).kids=[(k0:Int)]/\k0<i/\Wt ns i=4+(nd ns i).refs.length+Wt ns k0:=by
 have hk:=T.kid hi (i:=0) (by omega);have hW:=Wt_eq T hi;obtain⟨x,hx⟩:=List.length_eq_one_iff.1 hl;unfold kidI at hk;rw[hx]at hk hW;simp only[List.getElem?_cons_zero,Option.getD_some]at hk;simp only[sumAll,List.map_cons,List.map_nil,List.sum_cons,List.sum_nil,wk,own1]at hW;exact⟨x.toNat,by rw[hx];congr 1;exact hk.1,hk.2,by omega⟩
theorem kids_two {ns:List NodeD}(T:TreeOk ns){i:Nat}(hi:i<ns.length)(hl:(nd ns i).kids.length=2):∃ k0 k1:Nat,(nd ns i).kids=[(k0:Int),(k1:Int)]/\k0<i/\k1<i/\Wt ns i=4+(nd ns i).refs.length+(Wt ns k0+Wt ns k1):=by
 have hk:=T.kid hi (i:=0) (by omega);have hk':=T.kid hi (i:=1) (by omega);have hW:=Wt_eq T hi;obtain⟨x,y,hx⟩:∃ x y,(nd ns i).kids=[x,y]:=by
  match e:(nd ns i).kids,hl with
  | [x,y],_=>exact⟨x,y,rfl⟩
 unfold kidI at hk hk';rw[hx]at hk hk' hW;simp only[List.getElem?_cons_zero,List.getElem?_cons_succ,Option.getD_some]at hk hk';simp only[sumAll,List.map_cons,List.map_nil,List.sum_cons,List.sum_nil,wk,own1]at hW;exact⟨x.toNat,y.toNat,by rw[hx,<-hk.1,<-hk'.1],hk.2,hk'.2,by omega⟩
theorem NBox.below {S:Nat->Prop}{F:CF}{l:List FnD}{f nb p1 p2:Nat}{n:NodeD}{a1 a2:Option Addr}{X:CX}{w w1:World}(N:NBox S nb n a1 p1 a2 p2 X w)(U:UOk F l f S)(h:CC F X w)(b:Below w.heap.size w w1):NBox S nb n a1 p1 a2 p2 X w1:=N.step U h (.of_below b)
end Go.Proofs.YtomcjennjcpdnaaGreatDoor
