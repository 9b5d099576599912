import Derived.Test.YtofcbekoaghikaaGreatDoorPart10
import Derived.Deep.DeepCutAuto
import Derived.Deep.CutRange
set_option linter.unusedSimpArgs false
set_option linter.unusedVariables false
set_option maxHeartbeats 4000000
set_option maxRecDepth 100000
namespace Go.Proofs.YtofcbekoaghikaaGreatDoor
open Go.RowKit
def parStep (par:Nat->Int)(i:Nat)(k:Int):Nat->Int:=fun x=>if x=k.toNat then(if par k.toNat=-2 then(i:Int)else -3)else par x
def parKidsTo (par:Nat->Int)(i:Nat)(ks:List Int):Nat->Nat->Int
 | 0=>par
 | m+1=>parStep (parKidsTo par i ks m) i (ks[m]?.getD 0)
def parUpto (ns:List NodeD):Nat->Nat->Int
 | 0=>fun _=>-2
 | i+1=>parKidsTo (parUpto ns i) i (nd ns i).kids (nd ns i).kids.length
def sPar (ns:List NodeD):Nat->Int:=fun x=>if x=ns.length-1/\parUpto ns ns.length x=-2 then -1 else parUpto ns ns.length x
def depDown (ns:List NodeD):Nat->Nat->Int
 | 0=>fun _=>0
 | t+1=>fun x=>if x+2+t=ns.length/\0<=sPar ns x then depDown ns t (sPar ns x).toNat+1 else depDown ns t x
def sDep (ns:List NodeD):Nat->Int:=depDown ns (ns.length-1)
theorem parStep_lt {par:Nat->Int}{i:Nat}(k:Int)(h:∀ x,par x<=i)(x:Nat):parStep par i k x<=i:=by
 unfold parStep;split
 ·split<;>omega
 ·exact h x
theorem parKidsTo_lt {par:Nat->Int}{i:Nat}(ks:List Int)(h:∀ x,par x<=i):∀ m x,parKidsTo par i ks m x<=i
 | 0,x=>h x
 | m+1,x=>parStep_lt _ (parKidsTo_lt ks h m) x
theorem parUpto_lt (ns:List NodeD):∀ i x,parUpto ns i x<i\/parUpto ns i x<0
 | 0,x=>by right;show(-2:Int)<0;omega
 | i+1,x=>by
  have h:∀ x,parUpto ns i x<=i:=fun x=>by have:=parUpto_lt ns i x;omega
  have:=parKidsTo_lt (nd ns i).kids h (nd ns i).kids.length x
  left;show parKidsTo _ _ _ _ x<_;omega
theorem sPar_lt (ns:List NodeD)(x:Nat):sPar ns x<ns.length\/sPar ns x<0:=by
 unfold sPar;split
 ·right;omega
 ·exact parUpto_lt ns ns.length x
theorem depDown_bd (ns:List NodeD):∀ t x,0<=depDown ns t x/\depDown ns t x<=t
 | 0,x=>⟨Int.le_refl _,Int.le_refl _⟩
 | t+1,x=>by
  unfold depDown;split
  ·have:=depDown_bd ns t (sPar ns x).toNat;omega
  ·have:=depDown_bd ns t x;omega
structure GrowW (w:World)(n bp bd bt:Nat)(par dep:Nat->Int)(wr:World):Prop where
 old:Below w.heap.size w wr
 res:wr.rowIs w.heap.size 79 2 (fun _=>.slice none 0 0)
 t:wr.rowIs bt 79 2 (fun j=>if j=0 then .slice (some ⟨bp,0,none⟩) n n else .slice (some ⟨bd,0,none⟩) n n)
 p:wr.rowIs bp 3 n (fun j=>.int .i64 (par j))
 d:wr.rowIs bd 3 n (fun j=>.int .i64 (dep j))
 n1:w.heap.size<bp
 n2:w.heap.size<bd
 n3:w.heap.size<bt
 n4:bp≠bd
 n5:bp≠bt
 n6:bd≠bt
section
variable {w:World} {n bp bd bt:Nat} {par dep par' dep':Nat->Int} {wr:World}
theorem GrowW.c0 (h:GrowW w n bp bd bt par dep wr):wr.cell? ⟨bt,0,none⟩=some (.slice (some ⟨bp,0,none⟩) n n):=h.t.cell (i:=0) (by omega)
theorem GrowW.c1 (h:GrowW w n bp bd bt par dep wr):wr.cell? ⟨bt,1,none⟩=some (.slice (some ⟨bd,0,none⟩) n n):=h.t.cell (i:=1) (by omega)
theorem GrowW.setP (h:GrowW w n bp bd bt par dep wr)(j:Nat)(v:Int)(hpar:∀ i,i<n->par' i=if i=j then v else par i):GrowW w n bp bd bt par' dep (wr.setCell ⟨bp,j,none⟩ (.int .i64 v)):=
 {old:=h.old.setCell (Nat.le_of_lt h.n1) _,res:=h.res.setOther (Nat.ne_of_lt h.n1) _,t:=h.t.setOther (Ne.symm h.n5) _,p:=(h.p.set j _).congr fun i hi=>by rw[hpar i hi];split<;>rfl
  d:=h.d.setOther (Ne.symm h.n4) _,n1:=h.n1,n2:=h.n2,n3:=h.n3,n4:=h.n4,n5:=h.n5,n6:=h.n6 }
theorem GrowW.setD (h:GrowW w n bp bd bt par dep wr)(j:Nat)(v:Int)(hdep:∀ i,i<n->dep' i=if i=j then v else dep i):GrowW w n bp bd bt par dep' (wr.setCell ⟨bd,j,none⟩ (.int .i64 v)):=
 {old:=h.old.setCell (Nat.le_of_lt h.n2) _,res:=h.res.setOther (Nat.ne_of_lt h.n2) _,t:=h.t.setOther (Ne.symm h.n6) _,p:=h.p.setOther h.n4 _
  d:=(h.d.set j _).congr fun i hi=>by rw[hdep i hi];split<;>rfl
  n1:=h.n1,n2:=h.n2,n3:=h.n3,n4:=h.n4,n5:=h.n5,n6:=h.n6 }
theorem GrowW.drew (h:GrowW w n bp bd bt par dep wr):GrowW w n bp bd bt par dep wr.drew:=
 {old:=h.old.drew,res:=h.res.drew,t:=h.t.drew,p:=h.p.drew,d:=h.d.drew,n1:=h.n1,n2:=h.n2,n3:=h.n3,n4:=h.n4,n5:=h.n5,n6:=h.n6 }
theorem GrowW.parEq (h:GrowW w n bp bd bt par dep wr)(hpar:∀ i,i<n->par' i=par i):GrowW w n bp bd bt par' dep wr:=
 {old:=h.old,res:=h.res,t:=h.t,p:=h.p.congr fun i hi=>by rw[hpar i hi]
  d:=h.d,n1:=h.n1,n2:=h.n2,n3:=h.n3,n4:=h.n4,n5:=h.n5,n6:=h.n6 }
theorem GrowW.depEq (h:GrowW w n bp bd bt par dep wr)(hdep:∀ i,i<n->dep' i=dep i):GrowW w n bp bd bt par dep' wr:=
 {old:=h.old,res:=h.res,t:=h.t,p:=h.p,d:=h.d.congr fun i hi=>by rw[hdep i hi]
  n1:=h.n1,n2:=h.n2,n3:=h.n3,n4:=h.n4,n5:=h.n5,n6:=h.n6 }
end
theorem rowIs_made' {w:World}{z:Value}{n b:Nat}{t:TypeId}{f:Nat->Value}(hb:b=w.heap.size)(hf:∀ i,i<n->z=f i):(w.alloc (.cells (madeCells #[z] n) t)).rowIs b t n f:=by
 subst hb;exact(World.rowIs_made w z n t).congr hf
theorem blkB (w:World)(R o1 o2 o3:Obj):Below w.heap.size w ((((w.alloc R).alloc o1).alloc o2).alloc o3):=
 ((((Below.refl _ _).alloc (Nat.le_refl _) R).alloc (by simp) o1).alloc (by simp<;>omega) o2).alloc (by simp<;>omega) o3
theorem blk3 (w:World)(R o1 o2 o3:Obj):((((w.alloc R).alloc o1).alloc o2).alloc o3).heap[w.heap.size+1+1+1]? = some o3:=by
 have h:=Go.Deep.blk_alloc_new (((w.alloc R).alloc o1).alloc o2) o3;have e:(((w.alloc R).alloc o1).alloc o2).heap.size=w.heap.size+1+1+1:=by simp
 rwa [e]at h
theorem blk2 (w:World)(R o1 o2 o3:Obj):((((w.alloc R).alloc o1).alloc o2).alloc o3).heap[w.heap.size+1+1]? = some o2:=by
 rw[Below.heap_alloc _ _ _ (by simp)];have h:=Go.Deep.blk_alloc_new ((w.alloc R).alloc o1) o2;have e:((w.alloc R).alloc o1).heap.size=w.heap.size+1+1:=by simp
 rwa [e]at h
theorem blk1 (w:World)(R o1 o2 o3:Obj):((((w.alloc R).alloc o1).alloc o2).alloc o3).heap[w.heap.size+1]? = some o1:=by
 rw[Below.heap_alloc _ _ _ (by simp<;>omega),Below.heap_alloc _ _ _ (by simp)];have h:=Go.Deep.blk_alloc_new (w.alloc R) o1;have e:(w.alloc R).heap.size=w.heap.size+1:=by simp
 rwa [e]at h
theorem blk0 (w:World)(R o1 o2 o3:Obj):((((w.alloc R).alloc o1).alloc o2).alloc o3).heap[w.heap.size]? = some R:=by
 rw[Below.heap_alloc _ _ _ (by simp<;>omega),Below.heap_alloc _ _ _ (by simp<;>omega),Below.heap_alloc _ _ _ (by simp)];exact Go.Deep.blk_alloc_new w R
theorem grow_mk {w W:World}{n bp bd bt:Nat}(hb:Below w.heap.size w W)(h0:W.heap[w.heap.size]? = some (.cells #[.slice none 0 0,.slice none 0 0] 79))
  (ht:W.heap[bt]? = some (.cells #[.slice (some ⟨bp,0,none⟩) n n,.slice (some ⟨bd,0,none⟩) n n] 79))(hp:W.heap[bp]? = some (.cells (madeCells #[.int .i64 0] n) 3))(hd:W.heap[bd]? = some (.cells (madeCells #[.int .i64 0] n) 3))
  (n1:w.heap.size<bp)(n2:w.heap.size<bd)(n3:w.heap.size<bt)(n4:bp≠bd)(n5:bp≠bt)(n6:bd≠bt) :
  ∃ bp bd bt',Value.pointer (some ⟨bt,0,none⟩)=.pointer (some ⟨bt',0,none⟩)/\GrowW w n bp bd bt' (fun _=>0) (fun _=>0) W.drew:=by
 have two:∀(v0 v1:Value) (f:Nat->Value),f 0=v0->f 1=v1->∀ i,i<2->(#[v0,v1]:Array Value)[i]? = some (f i):=fun v0 v1 f e0 e1 i hi=>by
  have:i=0\/i=1:=by omega
  rcases this with rfl | rfl
  ·rw[e0];rfl
  ·rw[e1];rfl
 have made:∀ i,i<n->(madeCells #[Value.int .i64 0] n)[i]? = some (Value.int .i64 0):=fun i hi=>by simp[madeCells,hi,Nat.mod_one]
 exact⟨bp,bd,bt,rfl,{ old:=hb.drew,res:=⟨_,h0,rfl,two _ _ _ rfl rfl⟩,t:=⟨_,ht,rfl,two _ _ _ rfl rfl⟩,p:=⟨_,hp,size_madeCells _ _,made⟩,d:=⟨_,hd,size_madeCells _ _,made⟩,n1:=n1,n2:=n2,n3:=n3,n4:=n4,n5:=n5,n6:=n6 }⟩
theorem kidsIn_get {ns:List NodeD}{p:Nat}(h:kidsIn ns p=true)(i:Nat)(hi:i<(nd ns p).kids.length):0<=(nd ns p).kids[i]?.getD 0/\(nd ns p).kids[i]?.getD 0<p:=by
 have h2:kidOk p ((nd ns p).kids[i]?.getD 0)=true:=allFrom_get h i (Nat.zero_le _) hi;unfold kidOk at h2;rw[Bool.and_eq_true,decide_eq_true_eq,decide_eq_true_eq]at h2;exact h2
theorem parKidsTo_high {par:Nat->Int}{i:Nat}{ks:List Int}{x:Nat}:∀ m,(∀ q,q<m->(ks[q]?.getD 0).toNat≠x)->parKidsTo par i ks m x=par x
 | 0,_=>rfl
 | m+1,h=>by
  show parStep _ _ _ x=_;unfold parStep;rw[if_neg (fun e=>h m (Nat.lt_succ_self m) e.symm)];exact parKidsTo_high m (fun q hq=>h q (by omega))
theorem parUpto_high {ns:List NodeD}:∀ i x,(∀ p,p<i->kidsIn ns p=true)->i<=x+1->parUpto ns i x=-2
 | 0,_,_,_=>rfl
 | i+1,x,h,hx=>by
  show parKidsTo _ _ _ _ x=_;rw[parKidsTo_high]
  ·exact parUpto_high i x (fun p hp=>h p (by omega)) (by omega)
  ·intro q hq;have:=kidsIn_get (h i (Nat.lt_succ_self i)) q hq;omega
theorem l3grow_any (a:Option Addr)(ns:List NodeD)(c:Nat)(S:Nat->Prop)(w:World)(hs:NodesAt w S a ns)(hB:∀ b,S b->b<w.heap.size)(h1:1<=ns.length)(hl:ns.length<=3000)(hk:∀ p,p<ns.length->kidsIn ns p=true) :
    Calls Tryz.prog 40 #[.slice a ns.length c] w fun e w'=>∃ bp bd,e=.returned (.agg #[.slice (some ⟨bp,0,none⟩) ns.length ns.length,.slice (some ⟨bd,0,none⟩) ns.length ns.length]) /\
      w'.rowIs bp 3 ns.length (fun j=>.int .i64 (sPar ns j))/\w'.rowIs bd 3 ns.length (fun j=>.int .i64 (sDep ns j))/\w.heap.size<=bp/\w.heap.size<=bd/\Below w.heap.size w w':=by
  have hn:=hs.1;have hmk:=run_make_row' (P:=Tryz.prog) 56 3 (.int .i64 0) 8 Tryz.underlying56 info_int rfl .i64 .i64 ns.length (by omega) hn;have HS:=hide hs;have HB:=hide hB;have HKI:=hide hk;clear hs hB hk;go_enter Tryz.func40,Tryz.ntmps40
  go_upto_region 1 with fail
  go_cut [3] (fun s wc=>∃ bp bd bt,s=.pointer (some ⟨bt,0,none⟩)/\GrowW w ns.length bp bd bt (fun _=>0) (fun _=>0) wc)
  case first=>
    clear HS HB HKI
    go_region
    all_goals (go_wp2_with fail)
    all_goals go_meet
    all_goals
      case rel=>
        first
          | exact grow_mk (blkB _ _ _ _ _) (blk0 _ _ _ _ _) (blk1 _ _ _ _ _) (blk2 _ _ _ _ _) (blk3 _ _ _ _ _) (by omega) (by omega) (by omega) (by omega) (by omega) (by omega)
          | exact grow_mk (blkB _ _ _ _ _) (blk0 _ _ _ _ _) (blk1 _ _ _ _ _) (blk3 _ _ _ _ _) (blk2 _ _ _ _ _) (by omega) (by omega) (by omega) (by omega) (by omega) (by omega)
          | exact grow_mk (blkB _ _ _ _ _) (blk0 _ _ _ _ _) (blk2 _ _ _ _ _) (blk1 _ _ _ _ _) (blk3 _ _ _ _ _) (by omega) (by omega) (by omega) (by omega) (by omega) (by omega)
          | exact grow_mk (blkB _ _ _ _ _) (blk0 _ _ _ _ _) (blk2 _ _ _ _ _) (blk3 _ _ _ _ _) (blk1 _ _ _ _ _) (by omega) (by omega) (by omega) (by omega) (by omega) (by omega)
          | exact grow_mk (blkB _ _ _ _ _) (blk0 _ _ _ _ _) (blk3 _ _ _ _ _) (blk1 _ _ _ _ _) (blk2 _ _ _ _ _) (by omega) (by omega) (by omega) (by omega) (by omega) (by omega)
          | exact grow_mk (blkB _ _ _ _ _) (blk0 _ _ _ _ _) (blk3 _ _ _ _ _) (blk2 _ _ _ _ _) (blk1 _ _ _ _ _) (by omega) (by omega) (by omega) (by omega) (by omega) (by omega)
  case rest=>
    clear hmk;obtain⟨bp,bd,bt,rfl,hg⟩:=hcut;go_wp2_with fail
    go_loopg [19] ns.length (fun g i wr=>∃(k:Nat),k+g=ns.length/\i=.int .i64 k/\GrowW w ns.length bp bd bt (fun j=>if j<k then -2 else 0) (fun _=>0) wr)
    case atStart=>exact⟨0,by omega,rfl,hg.parEq (fun i hi=>by simp)⟩
    case round=>
      clear hg;obtain⟨k,hk,rfl,hg⟩:=hrel;have t0:=hg.c0;by_cases hlt:k<ns.length
      · have pc:=hg.p.cell hlt;have pf:=hg.p.frozen k;go_wp2_with fail
        go_roundg (ns.length-(k+1))
        case measure=>omega
        case rel=>
          refine⟨k+1,by omega,by go_num,hg.setP k (-2) (fun i hi=>?_)⟩;by_cases e:i=k
          · subst e;simp
          · have:(i<k+1)=(i<k):=by apply propext;omega
            simp[e,this]
      · replace hg:GrowW w ns.length bp bd bt (parUpto ns 0) (fun _=>0) wr:=hg.parEq (fun i hi=>by
          have:i<k:=by omega
          simp[parUpto,this])
        clear t0;go_wp2_with fail
        clear hlt hk;go_loopg [29] ns.length (fun g i wr=>∃(k:Nat),k+g=ns.length/\i=.int .i64 k/\GrowW w ns.length bp bd bt (parUpto ns k) (fun _=>0) wr)
        case atStart=>exact⟨0,by omega,rfl,hg⟩
        case round=>
          clear hg;obtain⟨i,hi,rfl,hg⟩:=hrel;have t0:=hg.c0;by_cases hlt:i<ns.length
          · obtain⟨b,off,rfl,hb,hcc⟩:=(unhide HS).2 (by omega);have N0:NodeCells w S b (off+i * 8) (nd ns i):=hcc i hlt;clear hcc;obtain⟨ka,kc,hk0,hkI⟩:=N0.kids;have hkl:=hkI.1;have hbs:b<w.heap.size:=unhide HB b hb;have hkk:wr.cell? ⟨b,off+i * 8+7,none⟩=some (.slice ka (nd ns i).kids.length kc):=(hg.old.cell (p:=⟨b,off+i * 8+7,none⟩) hbs).trans hk0;have KI:Hid (IntsAt w S ka (nd ns i).kids):=hkI;have KIN:Hid (∀ q,q<(nd ns i).kids.length->0<=(nd ns i).kids[q]?.getD 0/\(nd ns i).kids[q]?.getD 0<i):=fun q hq=>kidsIn_get (unhide HKI i hlt) q hq;have PS:Hid (parUpto ns (i+1)=parKidsTo (parUpto ns i) i (nd ns i).kids (nd ns i).kids.length):=rfl;clear N0 hk0 hkI;generalize (nd ns i).kids=kids at *;go_wp2_with fail
            go_loopg [38] kids.length (fun g m wr=>∃(q:Nat),q+g=kids.length/\m=.int .i64 q/\GrowW w ns.length bp bd bt (parKidsTo (parUpto ns i) i kids q) (fun _=>0) wr)
            case atStart=>exact⟨0,by omega,rfl,hg⟩
            case round=>
              clear hg t0 hkk;obtain⟨q,hq,rfl,hg⟩:=hrel;have t0:=hg.c0;by_cases hql:q<kids.length
              · obtain⟨b2,off2,rfl,hb2,hc2⟩:=((unhide KI).keep hg.old (unhide HB)).2 (by omega);have hcl:=hc2 q hql;have hin:=unhide KIN q hql;obtain⟨x,hx⟩:=Int.eq_ofNat_of_zero_le hin.1;have PST:Hid (∀ y,parKidsTo (parUpto ns i) i kids (q+1) y=if y=x then(if parKidsTo (parUpto ns i) i kids q x=-2 then(i:Int)else -3)else parKidsTo (parUpto ns i) i kids q y):=fun y=>by
                  show parStep _ _ _ y=_;unfold parStep;rw[hx];rfl
                rw[hx]at hcl hin;have hxn:x<ns.length:=by omega
                clear hc2 hx;have pc:=hg.p.cell hxn;have pf:=hg.p.frozen x;by_cases hp2:parKidsTo (parUpto ns i) i kids q x=-2
                · rw[hp2]at pc;have HP:=hide hp2;clear hp2;go_wp2_with fail
                  go_roundg (kids.length-(q+1))
                  case measure=>omega
                  case rel=>
                    refine⟨q+1,by omega,by go_num,hg.setP x i (fun y hy=>?_)⟩;rw[unhide PST y,unhide HP];simp
                · have hb2':(parKidsTo (parUpto ns i) i kids q x == -2)=false:=beq_eq_false_iff_ne.2 hp2;have HP:=hide hp2;clear hp2;go_wp2_with fail
                  go_roundg (kids.length-(q+1))
                  case measure=>omega
                  case rel=>
                    refine⟨q+1,by omega,by go_num,hg.setP x (-3) (fun y hy=>?_)⟩;rw[unhide PST y,if_neg (unhide HP)]
              · go_wp2_with fail
                go_roundg (ns.length-(i+1))
                case measure=>omega
                case rel=>
                  refine⟨i+1,by omega,by go_num,?_⟩;have e:q=kids.length:=by omega
                  rw[unhide PS,<-e];exact hg
          · have e:i=ns.length:=by omega
            subst e;have hlast:parUpto ns ns.length (ns.length-1)=-2:=parUpto_high _ _ (unhide HKI) (by omega);have HSP:Hid (∀ y,y<ns.length->sPar ns y=if y=ns.length-1 then -1 else parUpto ns ns.length y):=fun y hy=>by
              unfold sPar;by_cases ey:y=ns.length-1
              · subst ey;rw[if_pos ⟨rfl,hlast⟩,if_pos rfl]
              · rw[if_neg (fun h=>ey h.1),if_neg ey]
            have pc:=hg.p.cell (i:=ns.length-1) (by omega);have pf:=hg.p.frozen (ns.length-1);rw[hlast]at pc;clear hlast hi;generalize hN:ns.length=N at *;obtain⟨N,rfl⟩:∃ M,N=M+1:=⟨N-1,by omega⟩;have HN:=hide hN;clear hN;simp only[Nat.add_sub_cancel]at pc pf HSP
            replace hg:GrowW w (N+1) bp bd bt (sPar ns) (fun _=>0) (wr.setCell ⟨bp,N,none⟩ (.int .i64 (-1))):=hg.setP N (-1) (unhide HSP)
            have hNb:(N:Int)<=3000:=by omega
            go_wp2_with fail
            clear pc pf t0 HSP;go_loopg [9] N (fun g i wr=>∃(t:Nat),t+g=N/\i=.int .i64 ((N:Int)-1-t)/\GrowW w (N+1) bp bd bt (sPar ns) (depDown ns t) wr)
            case atStart=>exact⟨0,by omega,by simp,hg⟩
            case round=>
              clear hg;obtain⟨t,ht,rfl,hg⟩:=hrel;have t0:=hg.c0;have t1:=hg.c1;by_cases htl:t<N
              · obtain⟨y,hy⟩:∃ y:Nat,(N:Int)-1-t=y:=⟨N-1-t,by omega⟩;rw[hy];have hyN:y<N+1:=by omega
                have HY:=hide hy;have HD:Hid (∀ x,depDown ns (t+1) x=if x=y/\0<=sPar ns x then depDown ns t (sPar ns x).toNat+1 else depDown ns t x):=fun x=>by
                  show(if x+2+t=ns.length/\0<=sPar ns x then _ else _)=_;have h2:(x+2+t=ns.length)↔(x=y):=by have:=unhide HN;omega
                  simp only[h2]
                clear hy;have pc:=hg.p.cell hyN;have db:=depDown_bd ns t;by_cases h0:0<=sPar ns y
                · obtain⟨z,hz⟩:=Int.eq_ofNat_of_zero_le h0;have hzN:z<N+1:=by have:=sPar_lt ns y;have:=unhide HN;omega
                  have HZ:=hide hz;rw[hz]at pc;have dc:=hg.d.cell hzN;have dc2:=hg.d.cell hyN;have df:=hg.d.frozen y;have db1:=(db z).1;have db2:=(db z).2;clear db h0 hz;generalize hdz:depDown ns t z=dz at *;generalize hdy:depDown ns t y=dy at *;have HDZ:=hide hdz;clear hdz hdy;go_wp2_with fail
                  go_region
                  all_goals (go_wp2_with fail)
                  all_goals go_roundg (N-(t+1))
                  all_goals first
                    | (case measure=>omega)
                    | skip
                  all_goals
                    refine⟨t+1,by omega,by have:=unhide HY;go_num,hg.drew.setD y (dz+1) (fun x hx=>?_)⟩;rw[unhide HD x];by_cases e:x=y
                    · subst e;rw[if_pos rfl,if_pos ⟨rfl,by rw[unhide HZ];omega⟩,unhide HZ,Int.toNat_natCast,unhide HDZ]
                    · rw[if_neg e,if_neg (fun h=>e h.1)]
                · have hd0:decide (0<=sPar ns y)=false:=decide_eq_false h0;have H0:=hide h0;clear db h0;generalize hsy:sPar ns y=sy at *;have HSY:=hide hsy;clear hsy;go_wp2_with fail
                  go_roundg (N-(t+1))
                  case measure=>omega
                  case rel=>
                    refine⟨t+1,by omega,by have:=unhide HY;go_num,hg.depEq (fun x hx=>?_)⟩;rw[unhide HD x,if_neg];rintro⟨rfl,h⟩;rw[unhide HSY]at h;have hh:sy<0:=unhide H0;omega
              · have e:t=N:=by omega
                subst e;have HD:Hid (∀ x,sDep ns x=depDown ns t x):=fun x=>by unfold sDep;rw[show ns.length-1=t by have:=unhide HN;omega]
                have r0:=hg.res.cell (i:=0) (by omega);have r1:=hg.res.cell (i:=1) (by omega);have f0:=hg.res.frozen 0;have f1:=hg.res.frozen 1;have hne1:bt≠w.heap.size:=by have:=hg.n3;omega
                have hq1:=hg.n1;have hq2:=hg.n2;have hq3:=hg.n3;have FIN:Hid (∀ v0 v1,(((wr.setCell ⟨w.heap.size,0,none⟩ v0).setCell ⟨w.heap.size,1,none⟩ v1).rowIs bp 3 (t+1) (fun j=>.int .i64 (sPar ns j))) /\
                    (((wr.setCell ⟨w.heap.size,0,none⟩ v0).setCell ⟨w.heap.size,1,none⟩ v1).rowIs bd 3 (t+1) (fun j=>.int .i64 (sDep ns j))) /\
                    Below w.heap.size w ((wr.setCell ⟨w.heap.size,0,none⟩ v0).setCell ⟨w.heap.size,1,none⟩ v1)):=fun v0 v1=>
                  ⟨(hg.p.setOther (by show bp≠w.heap.size;omega) _).setOther (by show bp≠w.heap.size;omega) _,
                   ((hg.d.setOther (by show bd≠w.heap.size;omega) _).setOther (by show bd≠w.heap.size;omega) _).congr (fun j hj=>by rw[unhide HD j]),
                   (hg.old.setCell (Nat.le_refl _) _).setCell (Nat.le_refl _) _⟩
                go_wp2_with fail
                refine bodyPost_ret (v:=.agg #[.slice (some ⟨bp,0,none⟩) (t+1) (t+1),.slice (some ⟨bd,0,none⟩) (t+1) (t+1)]) (by simp[results,Tryz.results40,go_sem,r0,r1]) rfl ⟨bp,bd,by rw[unhide HN],by rw[unhide HN];exact(FIN.out _ _).1,by rw[unhide HN];exact(FIN.out _ _).2.1,Nat.le_of_lt hq1,Nat.le_of_lt hq2,(FIN.out _ _).2.2⟩
structure Shaped (l:List FnD):Prop where
 size:¬sizeBad l
 heads:HeadsOk l
 shape:NoBad l (shapeBad l)
theorem sumAll_get {l:List FnD}{f:Nat}(hf:f<l.length):(fnD l f).nodes.length<=sumAll nodesLen l:=by
 have h1:=sumTo_succ nodesLen l f FnD.z hf;have h2:=sumTo_le nodesLen l (f+1);have h3:nodesLen (l[f]?.getD FnD.z)=(fnD l f).nodes.length:=rfl;omega
theorem Shaped.len {l:List FnD}(h:Shaped l){f:Nat}(hf:f<l.length):(fnD l f).nodes.length<=3000:=by
 have h1:=sumAll_get hf;have h2:¬3000<sumAll nodesLen l:=fun h3=>h.size (.inr (.inr h3));omega
theorem Shaped.fns {l:List FnD}(h:Shaped l):1<=l.length/\l.length<=300:=by
 have h2:¬300<l.length:=fun h3=>h.size (.inr (.inl h3));have h3:¬l.length=0:=fun h3=>h.size (.inl h3);omega
theorem Shaped.pos {l:List FnD}(h:Shaped l){f:Nat}(hf:f<l.length):1<=(fnD l f).nodes.length:=by
 by_cases e:(fnD l f).nodes.length=0
 ·have:=sHead_bad (l:=l) (f:=f) (.inl e);rw[h.heads f hf]at this;cases this
 ·omega
theorem Shaped.node {l:List FnD}(h:Shaped l){f p:Nat}(hf:f<l.length)(hp:p<(fnD l f).nodes.length):sShape (fnD l f).nodes p=true:=by
 have:=h.shape f p hf hp;simpa[shapeBad]using this
theorem Shaped.kids {l:List FnD}(h:Shaped l){f:Nat}(hf:f<l.length)(p:Nat)(hp:p<(fnD l f).nodes.length):kidsIn (fnD l f).nodes p=true:=by
 have:=h.node hf hp;unfold sShape at this;rw[Bool.and_eq_true,Bool.and_eq_true]at this;exact this.1.2
def parentBad (l:List FnD)(f p:Nat):Bool:=
 if p+1=(fnD l f).nodes.length then !(sPar (fnD l f).nodes p == -1) || !((nd (fnD l f).nodes p).kind==1)else decide (sPar (fnD l f).nodes p<0)
def deepBad (l:List FnD)(f p:Nat):Bool:=decide (100<sDep (fnD l f).nodes p)
def Fault45 (l:List FnD)(c f n:Int):Prop:=
 (c=4/\∃ F P:Nat,f=F/\n=P/\First l (parentBad l) F P) \/
 (NoBad l (parentBad l)/\c=5/\∃ F P:Nat,f=F/\n=P/\First l (deepBad l) F P) \/
 (NoBad l (parentBad l)/\NoBad l (deepBad l)/\c=0/\f=0/\n=0)
structure TreeIn (ns:List NodeD)(bp bd bt:Nat)(wr:World):Prop where
 p:wr.rowIs bp 3 ns.length (fun j=>.int .i64 (sPar ns j))
 d:wr.rowIs bd 3 ns.length (fun j=>.int .i64 (sDep ns j))
 t0:wr.cell? ⟨bt,0,none⟩=some (.slice (some ⟨bp,0,none⟩) ns.length ns.length)
 t1:wr.cell? ⟨bt,1,none⟩=some (.slice (some ⟨bd,0,none⟩) ns.length ns.length)
theorem l3grow_from {a:Option Addr}{ns:List NodeD}{c:Nat}{S:Nat->Prop}(w W:World)(hs:NodesAt w S a ns)(hB:∀ b,S b->b<w.heap.size)(h1:1<=ns.length)(hl:ns.length<=3000)(hk:∀ p,p<ns.length->kidsIn ns p=true)(hW:Below w.heap.size w W) :
  Calls Tryz.prog 40 #[.slice a ns.length c] W fun e w'=>∃ bp bd,e=.returned (.agg #[.slice (some ⟨bp,0,none⟩) ns.length ns.length,.slice (some ⟨bd,0,none⟩) ns.length ns.length]) /\
   w'.rowIs bp 3 ns.length (fun j=>.int .i64 (sPar ns j))/\w'.rowIs bd 3 ns.length (fun j=>.int .i64 (sDep ns j))/\W.heap.size<=bp/\W.heap.size<=bd/\Below W.heap.size W w':=
 l3grow_any a ns c S W (hs.keep hW hB) (fun b h=>Nat.lt_of_lt_of_le (hB b h) hW.size) h1 hl hk
theorem TreeIn.boxed {ns:List NodeD}{bp bd:Nat}{w1:World}(hp:w1.rowIs bp 3 ns.length (fun j=>.int .i64 (sPar ns j)))(hd:w1.rowIs bd 3 ns.length (fun j=>.int .i64 (sDep ns j))) :
  TreeIn ns bp bd w1.heap.size (w1.alloc (.cells #[.slice (some ⟨bp,0,none⟩) ns.length ns.length,.slice (some ⟨bd,0,none⟩) ns.length ns.length] 79)):=
 {p:=hp.alloc _,d:=hd.alloc _,t0:=by simp[go_sem],t1:=by simp[go_sem] }
theorem TreeIn.below {ns:List NodeD}{bp bd bt:Nat}{w1 w2:World}(h:TreeIn ns bp bd bt w1)(hb:Below w1.heap.size w1 w2):TreeIn ns bp bd bt w2:=
 {p:=h.p.of_block (hb.block _ h.p.lt),d:=h.d.of_block (hb.block _ h.d.lt),t0:=(hb.cell (p:=⟨bt,0,none⟩) (World.block_lt_of_cell? _ _ h.t0)).trans h.t0,t1:=(hb.cell (p:=⟨bt,1,none⟩) (World.block_lt_of_cell? _ _ h.t1)).trans h.t1 }
theorem l3second_any (a:Option Addr)(l:List FnD)(c:Nat)(S:Nat->Prop)(w:World)(hs:FnsAt w S a l)(hB:∀ b,S b->b<w.heap.size)(hsh:Shaped l) :
  Calls Tryz.prog 23 #[.agg #[.slice a l.length c]] w fun e w'=>∃ x f n,e=.returned (.agg #[.int .i64 x,.int .i64 f,.int .i64 n])/\Fault45 l x f n/\Below w.heap.size w w':=by
 have hn:=hs.1;have hl3:=hsh.fns.2;have HSH:=hide hsh;have HS:=hide hs;have HB:=hide hB;clear hsh hs hB;have X0:Hid (Box2 w a l.length c (box2 w a l.length c)):=Box2.start w a l.length c;go_enter Tryz.func23,Tryz.ntmps23;go_wp2_with fail
 go_loopg [14] l.length (fun g i wr=>∃(k:Nat),k+g=l.length/\i=.int .i64 k/\Box2 w a l.length c wr/\Hid (∀ f' p',f'<k->p'<(fnD l f').nodes.length->parentBad l f' p'=false))
 case atStart=>exact⟨0,by omega,rfl,X0.out,fun f' p' h=>absurd h (Nat.not_lt_zero _)⟩
 case round=>
  obtain⟨f,hk,rfl,hx,hpar⟩:=hrel;have u0:=hx.unit;by_cases hlt:f<l.length
  ·obtain⟨b,off,rfl,hb,hcc⟩:=(unhide HS).2 (by omega);have N0:FnCells w S b (off+f * 7) (fnD l f):=hcc f hlt;clear hcc;obtain⟨na,nc,hno0,hnI⟩:=N0.nodes;have hlenb:=(unhide HSH).len hlt;have hpos:=(unhide HSH).pos hlt;have HKI:Hid (∀ p,p<(fnD l f).nodes.length->kidsIn (fnD l f).nodes p=true):=(unhide HSH).kids hlt;have hbs:b<w.heap.size:=unhide HB b hb;have hno:wr.cell? ⟨b,off+f * 7+6,none⟩=some (.slice na (fnD l f).nodes.length nc):=(hx.old.cell (p:=⟨b,off+f * 7+6,none⟩) hbs).trans hno0;have NN:Hid (NodesAt w S na (fnD l f).nodes):=hnI;have HPB:Hid (∀ p,parentBad l f p=if p+1=(fnD l f).nodes.length then !(sPar (fnD l f).nodes p == -1) || !((nd (fnD l f).nodes p).kind==1)else decide (sPar (fnD l f).nodes p<0)):=fun p=>rfl;have HLN:Hid (∀ p',p'<(fnD l f).nodes.length->p'<(fnD l f).nodes.length):=fun p' h=>h;clear hnI N0 hno0;generalize hns:(fnD l f).nodes=ns at *;have HNS:=hide hns;clear hns;go_wp2_with fail
   refine(l3grow_from w _ (unhide NN) (unhide HB) hpos hlenb (unhide HKI) hx.old).mono ?_;rintro e w1 ⟨bp,bd,rfl,hrp,hrd,hq1,hq2,hb1⟩;have hx1:=hx.below' hb1;have TT:=TreeIn.boxed hrp hrd;have hx2:=hx1.alloc (.cells #[.slice (some ⟨bp,0,none⟩) ns.length ns.length,.slice (some ⟨bd,0,none⟩) ns.length ns.length] 79);clear hx hb1 hrp hrd hno u0 hq1 hq2;go_wp2_with fail
   go_loopg [27] ns.length (fun g i wr=>∃(k:Nat),k+g=ns.length/\i=.int .i64 k/\Box2 w (some ⟨b,off,none⟩) l.length c wr/\TreeIn ns bp bd w1.heap.size wr/\Hid (∀ p',p'<k->parentBad l f p'=false))
   case atStart=>exact⟨0,by omega,rfl,hx2,TT,fun p' h=>absurd h (Nat.not_lt_zero _)⟩
   case round=>
    clear hx2 TT hx1;obtain⟨p,hp,rfl,hx,TT,hok⟩:=hrel;have t0:=TT.t0;by_cases hpl:p<ns.length
    ·have pc:=TT.p.cell hpl;obtain⟨b2,off2,rfl,hb2,hc2⟩:=((unhide NN).keep hx.old (unhide HB)).2 (by omega);have kc:wr.cell? ⟨b2,off2+p * 8,none⟩=some (.int .i64 (nd ns p).kind):=(hc2 p hpl).kind;have HPB1:=hide (unhide HPB p);clear hc2;generalize sPar ns p=sp at *;generalize (nd ns p).kind=kd at *;have hcase:(parentBad l f p=false)\/(parentBad l f p=true):=by cases parentBad l f p<;>simp
     rcases hcase with hgood | hbad
     ·have HGD:=hide hgood;rw[unhide HPB1]at hgood;by_cases hlast:p+1=ns.length
      ·rw[if_pos hlast]at hgood;have h1:sp=-1/\kd=1:=by simpa using hgood
       obtain⟨rfl,rfl⟩:=h1;have e1:((p:Int)==(ns.length:Int)-1)=true:=by simp;omega
       clear hgood;go_wp2_with fail
       go_roundg (ns.length-(p+1))
       case measure=>omega
       case rel=>
        refine⟨p+1,by omega,by go_num,hx,TT,fun j h=>?_⟩;by_cases e:j=p
        ·subst e;exact unhide HGD
        ·exact hok.out j (by omega)
      ·rw[if_neg hlast]at hgood;have e1:((p:Int)==(ns.length:Int)-1)=false:=beq_eq_false_iff_ne.2 (by omega);go_wp2_with fail
       go_roundg (ns.length-(p+1))
       case measure=>omega
       case rel=>
        refine⟨p+1,by omega,by go_num,hx,TT,fun j h=>?_⟩;by_cases e:j=p
        ·subst e;exact unhide HGD
        ·exact hok.out j (by omega)
     ·have HGD:=hide hbad;rw[unhide HPB1]at hbad;by_cases hlast:p+1=ns.length
      ·rw[if_pos hlast]at hbad;have e1:((p:Int)==(ns.length:Int)-1)=true:=by simp;omega
       by_cases e2:sp=-1
       ·subst e2;have e3:(kd != 1)=true:=by simpa using hbad
        clear hbad;go_wp2_with fail
        refine(l3fault_any _ _ _ _).mono ?_;rintro e w2 ⟨rfl,hb2⟩;have hx2:=hx.below' hb2;have r0:=hx2.res 0 (by omega);have r1:=hx2.res 1 (by omega);have r2:=hx2.res 2 (by omega);have z0:=hx2.frozen 0;have z1:=hx2.frozen 1;have z2:=hx2.frozen 2;have BB:Hid (∀ v0 v1 v2,Below w.heap.size w (((w2.setCell ⟨w.heap.size+1,0,none⟩ v0).setCell ⟨w.heap.size+1,1,none⟩ v1).setCell ⟨w.heap.size+1,2,none⟩ v2)):=fun v0 v1 v2=>((hx2.old.setCell (Nat.le_succ _) _).setCell (Nat.le_succ _) _).setCell (Nat.le_succ _) _;go_wp2_with fail
        refine bodyPost_ret (v:=.agg #[.int .i64 4,.int .i64 f,.int .i64 p]) (by simp[results,Tryz.results23,go_sem,r0,r1,r2]) rfl ⟨4,f,p,rfl,?_,BB.out _ _ _⟩;refine .inl ⟨rfl,f,p,rfl,rfl,hlt,by rw[unhide HNS];exact hpl,unhide HGD,fun f' p' h1 h2 h3=>?_⟩;rcases h3 with h3 | ⟨rfl,h3⟩
        ·exact hpar.out f' p' h3 h2
        ·exact hok.out p' h3
       ·have e3:(sp != -1)=true:=by simpa using e2
        clear hbad e2;go_wp2_with fail
        refine(l3fault_any _ _ _ _).mono ?_;rintro e w2 ⟨rfl,hb2⟩;have hx2:=hx.below' hb2;have r0:=hx2.res 0 (by omega);have r1:=hx2.res 1 (by omega);have r2:=hx2.res 2 (by omega);have z0:=hx2.frozen 0;have z1:=hx2.frozen 1;have z2:=hx2.frozen 2;have BB:Hid (∀ v0 v1 v2,Below w.heap.size w (((w2.setCell ⟨w.heap.size+1,0,none⟩ v0).setCell ⟨w.heap.size+1,1,none⟩ v1).setCell ⟨w.heap.size+1,2,none⟩ v2)):=fun v0 v1 v2=>((hx2.old.setCell (Nat.le_succ _) _).setCell (Nat.le_succ _) _).setCell (Nat.le_succ _) _;go_wp2_with fail
        refine bodyPost_ret (v:=.agg #[.int .i64 4,.int .i64 f,.int .i64 p]) (by simp[results,Tryz.results23,go_sem,r0,r1,r2]) rfl ⟨4,f,p,rfl,?_,BB.out _ _ _⟩;refine .inl ⟨rfl,f,p,rfl,rfl,hlt,by rw[unhide HNS];exact hpl,unhide HGD,fun f' p' h1 h2 h3=>?_⟩;rcases h3 with h3 | ⟨rfl,h3⟩
        ·exact hpar.out f' p' h3 h2
        ·exact hok.out p' h3
      ·rw[if_neg hlast]at hbad;have e1:((p:Int)==(ns.length:Int)-1)=false:=beq_eq_false_iff_ne.2 (by omega);go_wp2_with fail
       refine(l3fault_any _ _ _ _).mono ?_;rintro e w2 ⟨rfl,hb2⟩;have hx2:=hx.below' hb2;have r0:=hx2.res 0 (by omega);have r1:=hx2.res 1 (by omega);have r2:=hx2.res 2 (by omega);have z0:=hx2.frozen 0;have z1:=hx2.frozen 1;have z2:=hx2.frozen 2;have BB:Hid (∀ v0 v1 v2,Below w.heap.size w (((w2.setCell ⟨w.heap.size+1,0,none⟩ v0).setCell ⟨w.heap.size+1,1,none⟩ v1).setCell ⟨w.heap.size+1,2,none⟩ v2)):=fun v0 v1 v2=>((hx2.old.setCell (Nat.le_succ _) _).setCell (Nat.le_succ _) _).setCell (Nat.le_succ _) _;go_wp2_with fail
       refine bodyPost_ret (v:=.agg #[.int .i64 4,.int .i64 f,.int .i64 p]) (by simp[results,Tryz.results23,go_sem,r0,r1,r2]) rfl ⟨4,f,p,rfl,?_,BB.out _ _ _⟩;refine .inl ⟨rfl,f,p,rfl,rfl,hlt,by rw[unhide HNS];exact hpl,unhide HGD,fun f' p' h1 h2 h3=>?_⟩;rcases h3 with h3 | ⟨rfl,h3⟩
       ·exact hpar.out f' p' h3 h2
       ·exact hok.out p' h3
    ·go_wp2_with fail
     go_roundg (l.length-(f+1))
     case measure=>omega
     case rel=>
      refine⟨f+1,by omega,by go_num,hx,fun f' p' h1 h2=>?_⟩;by_cases e:f'=f
      ·subst e;rw[unhide HNS]at h2;exact hok.out p' (by omega)
      ·exact hpar.out f' p' (by omega) h2
  ·have HF:Hid (NoBad l (parentBad l)):=fun f' p' h1 h2=>hpar.out f' p' (by omega) h2;clear hpar;go_wp2_with fail
   go_loopg [72] l.length (fun g i wr=>∃(k:Nat),k+g=l.length/\i=.int .i64 k/\Box2 w a l.length c wr/\Hid (∀ f' p',f'<k->p'<(fnD l f').nodes.length->deepBad l f' p'=false))
   case atStart=>exact⟨0,by omega,rfl,hx,fun f' p' h=>absurd h (Nat.not_lt_zero _)⟩
   case round=>
    clear hx u0 hlt hk;obtain⟨f,hk,rfl,hx,hpar⟩:=hrel;have u0:=hx.unit;by_cases hlt:f<l.length
    ·obtain⟨b,off,rfl,hb,hcc⟩:=(unhide HS).2 (by omega);have N0:FnCells w S b (off+f * 7) (fnD l f):=hcc f hlt;clear hcc;obtain⟨na,nc,hno0,hnI⟩:=N0.nodes;have hlenb:=(unhide HSH).len hlt;have hpos:=(unhide HSH).pos hlt;have HKI:Hid (∀ p,p<(fnD l f).nodes.length->kidsIn (fnD l f).nodes p=true):=(unhide HSH).kids hlt;have hbs:b<w.heap.size:=unhide HB b hb;have hno:wr.cell? ⟨b,off+f * 7+6,none⟩=some (.slice na (fnD l f).nodes.length nc):=(hx.old.cell (p:=⟨b,off+f * 7+6,none⟩) hbs).trans hno0;have NN:Hid (NodesAt w S na (fnD l f).nodes):=hnI;have HNO:=hide hno0;have HPB:Hid (∀ p,deepBad l f p=decide (100<sDep (fnD l f).nodes p)):=fun p=>rfl;clear hnI N0 hno0;generalize hns:(fnD l f).nodes=ns at *;have HNS:=hide hns;clear hns;go_wp2_with fail
     refine(l3grow_from w _ (unhide NN) (unhide HB) hpos hlenb (unhide HKI) hx.old).mono ?_;rintro e w1 ⟨bp,bd,rfl,hrp,hrd,hq1,hq2,hb1⟩;have hx1:=hx.below' hb1;have TT:=TreeIn.boxed hrp hrd;have hx2:=hx1.alloc (.cells #[.slice (some ⟨bp,0,none⟩) ns.length ns.length,.slice (some ⟨bd,0,none⟩) ns.length ns.length] 79);have u1:=hx2.unit;have hno1:=(hx2.old.cell (p:=⟨b,off+f * 7+6,none⟩) hbs).trans HNO.out;clear hx hb1 hrp hrd hno u0 hq1 hq2;go_wp2_with fail
     go_loopg [89] ns.length (fun g i wr=>∃(k:Nat),k+g=ns.length/\i=.int .i64 k/\Box2 w (some ⟨b,off,none⟩) l.length c wr/\TreeIn ns bp bd w1.heap.size wr/\Hid (∀ p',p'<k->deepBad l f p'=false))
     case atStart=>exact⟨0,by omega,rfl,hx2,TT,fun p' h=>absurd h (Nat.not_lt_zero _)⟩
     case round=>
      clear hx2 TT hx1 u1 hno1;obtain⟨p,hp,rfl,hx,TT,hok⟩:=hrel;have t1:=TT.t1;by_cases hpl:p<ns.length
      ·have pc:=TT.d.cell hpl;have HPB1:=hide (unhide HPB p);generalize sDep ns p=sp at *;by_cases hd:100<sp
       ·have HGD:Hid (deepBad l f p=true):=by show _=_;rw[unhide HPB1];exact decide_eq_true hd
        go_wp2_with fail
        refine(l3fault_any _ _ _ _).mono ?_;rintro e w2 ⟨rfl,hb2⟩;have hx2:=hx.below' hb2;have r0:=hx2.res 0 (by omega);have r1:=hx2.res 1 (by omega);have r2:=hx2.res 2 (by omega);have z0:=hx2.frozen 0;have z1:=hx2.frozen 1;have z2:=hx2.frozen 2;have BB:Hid (∀ v0 v1 v2,Below w.heap.size w (((w2.setCell ⟨w.heap.size+1,0,none⟩ v0).setCell ⟨w.heap.size+1,1,none⟩ v1).setCell ⟨w.heap.size+1,2,none⟩ v2)):=fun v0 v1 v2=>((hx2.old.setCell (Nat.le_succ _) _).setCell (Nat.le_succ _) _).setCell (Nat.le_succ _) _;go_wp2_with fail
        refine bodyPost_ret (v:=.agg #[.int .i64 5,.int .i64 f,.int .i64 p]) (by simp[results,Tryz.results23,go_sem,r0,r1,r2]) rfl ⟨5,f,p,rfl,?_,BB.out _ _ _⟩;refine .inr (.inl ⟨unhide HF,rfl,f,p,rfl,rfl,hlt,by rw[unhide HNS];exact hpl,unhide HGD,fun f' p' h1 h2 h3=>?_⟩);rcases h3 with h3 | ⟨rfl,h3⟩
        ·exact hpar.out f' p' h3 h2
        ·exact hok.out p' h3
       ·have HGD:Hid (deepBad l f p=false):=by show _=_;rw[unhide HPB1];exact decide_eq_false hd
        go_wp2_with fail
        go_roundg (ns.length-(p+1))
        case measure=>omega
        case rel=>
         refine⟨p+1,by omega,by go_num,hx,TT,fun j h=>?_⟩;by_cases e:j=p
         ·subst e;exact unhide HGD
         ·exact hok.out j (by omega)
      ·go_wp2_with fail
       go_roundg (l.length-(f+1))
       case measure=>omega
       case rel=>
        refine⟨f+1,by omega,by go_num,hx,fun f' p' h1 h2=>?_⟩;by_cases e:f'=f
        ·subst e;rw[unhide HNS]at h2;exact hok.out p' (by omega)
        ·exact hpar.out f' p' (by omega) h2
    ·have HF2:Hid (NoBad l (deepBad l)):=fun f' p' h1 h2=>hpar.out f' p' (by omega) h2;clear hpar;have r0:=hx.res 0 (by omega);have r1:=hx.res 1 (by omega);have r2:=hx.res 2 (by omega);have z0:=hx.frozen 0;have z1:=hx.frozen 1;have z2:=hx.frozen 2;have BB:Hid (∀ v0 v1 v2,Below w.heap.size w (((wr.setCell ⟨w.heap.size+1,0,none⟩ v0).setCell ⟨w.heap.size+1,1,none⟩ v1).setCell ⟨w.heap.size+1,2,none⟩ v2)):=fun v0 v1 v2=>((hx.old.setCell (Nat.le_succ _) _).setCell (Nat.le_succ _) _).setCell (Nat.le_succ _) _;go_wp2_with fail
     refine bodyPost_ret (v:=.agg #[.int .i64 0,.int .i64 0,.int .i64 0]) (by simp[results,Tryz.results23,go_sem,r0,r1,r2]) rfl ⟨0,0,0,rfl,?_,BB.out _ _ _⟩;exact .inr (.inr ⟨unhide HF,unhide HF2,rfl,rfl,rfl⟩)
end Go.Proofs.YtofcbekoaghikaaGreatDoor
