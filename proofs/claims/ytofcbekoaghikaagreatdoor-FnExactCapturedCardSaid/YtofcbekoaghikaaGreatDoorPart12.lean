import Derived.Test.YtofcbekoaghikaaGreatDoorPart11
set_option linter.unusedSimpArgs false
set_option linter.unusedVariables false
set_option maxHeartbeats 8000000
set_option maxRecDepth 100000
namespace Go.Proofs.YtofcbekoaghikaaGreatDoor
open Go.RowKit
attribute [local go_sem] run_store_float
def placeFrom (x:Int):List Int->Nat->Int
 | [],_=>-1
 | k::r,i=>if k=x then(i:Int)else placeFrom x r (i+1)
def sPlace (ks:List Int)(x:Int):Int:=placeFrom x ks 0
theorem placeFrom_none {x:Int}:∀(ks:List Int)(i:Nat),(∀ j,j<ks.length->ks[j]?.getD 0≠x)->placeFrom x ks i=-1
 | [],_,_=>rfl
 | k::r,i,h=>by
  have h0:k≠x:=h 0 (by simp);rw[placeFrom,if_neg h0];exact placeFrom_none r (i+1) (fun j hj=>h (j+1) (by simpa using hj))
theorem placeFrom_at {x:Int}:∀(ks:List Int)(i j:Nat),j<ks.length->ks[j]?.getD 0=x->(∀ q,q<j->ks[q]?.getD 0≠x)->placeFrom x ks i=i+j
 | [],_,_,hj,_,_=>absurd hj (Nat.not_lt_zero _)
 | k::r,i,0,_,h,_=>by
  have h0:k=x:=h;rw[placeFrom,if_pos h0];simp
 | k::r,i,j+1,hj,h,hq=>by
  have h0:k≠x:=hq 0 (by omega);rw[placeFrom,if_neg h0,placeFrom_at r (i+1) j (by simpa using hj) h (fun q hq'=>hq (q+1) (by omega))];omega
theorem placeFrom_cases {x:Int}:∀(ks:List Int)(i:Nat),placeFrom x ks i=-1\/∃ j,j<ks.length/\placeFrom x ks i=i+j/\ks[j]?.getD 0=x
 | [],_=>.inl rfl
 | k::r,i=>by
  by_cases h:k=x
  ·exact .inr ⟨0,by simp,by rw[placeFrom,if_pos h];simp,h⟩
  ·rw[placeFrom,if_neg h];rcases placeFrom_cases (x:=x) r (i+1)with h1 | ⟨j,h1,h2,h3⟩
   ·exact .inl h1
   ·exact .inr ⟨j+1,by simpa using h1,by rw[h2];omega,h3⟩
theorem sPlace_bd (ks:List Int)(x:Int):-1<=sPlace ks x/\sPlace ks x<ks.length:=by
 rcases placeFrom_cases (x:=x) ks 0 with h | ⟨j,h1,h2,_⟩
 ·unfold sPlace;omega
 ·unfold sPlace;omega
theorem l3place_any (a:Option Addr)(ks:List Int)(c:Nat)(x:Int)(S:Nat->Prop)(w:World)(hs:IntsAt w S a ks) :
  Calls Tryz.prog 82 #[.slice a ks.length c,.int .i64 x] w fun e w'=>e=.returned (.int .i64 (sPlace ks x))/\w'=w:=by
 have hn:=hs.1;have HS:=hide hs;clear hs;go_enter Tryz.func82,Tryz.ntmps82;go_wp2_with fail
 go_loop [9] (fun i=>∃(k:Nat),k<=ks.length/\i=.int .i64 k/\Hid (∀ j,j<k->ks[j]?.getD 0≠x)) (fun i=>ks.length-(intOf i).toNat)
 case atStart=>exact⟨0,by omega,rfl,fun j h=>absurd h (Nat.not_lt_zero _)⟩
 case round=>
  obtain⟨k,hk,rfl,hall⟩:=hrel;by_cases hlt:k<ks.length
  ·obtain⟨b,off,rfl,hb,hcc⟩:=(unhide HS).2 (by omega);have hc:=hcc k hlt;clear hcc;by_cases hq:ks[k]?.getD 0=x
   ·have HQ:=hide hq;rw[hq]at hc;have e1:(x==x)=true:=by simp
    clear hq;go_wp2_with fail
    go_ret;exact⟨ret_int (by rw[sPlace,placeFrom_at ks 0 k hlt (unhide HQ) hall.out];simp),rfl⟩
   ·have HQ:=hide hq;have e1:(ks[k]?.getD 0==x)=false:=beq_eq_false_iff_ne.2 hq;clear hq;generalize ks[k]?.getD 0=y at hc e1;go_wp2_with fail
    go_round
    case rel=>
     refine⟨k+1,by omega,by go_num,fun j h=>?_⟩;by_cases e:j=k
     ·subst e;exact unhide HQ
     ·exact hall.out j (by omega)
    case measure=>simp[intOf];omega
  ·go_wp2_with fail
   go_ret;exact⟨ret_int (by rw[sPlace,placeFrom_none ks 0 (fun j hj=>hall.out j (by omega))]),rfl⟩
def declKind (k:Int):Bool:=k==2||k==7||k==8||k==12
theorem l3place_from {a:Option Addr}{ks:List Int}{c:Nat}{x:Int}{S:Nat->Prop}(w W:World)(hs:IntsAt w S a ks)(hB:∀ b,S b->b<w.heap.size)(hW:Below w.heap.size w W) :
  Calls Tryz.prog 82 #[.slice a ks.length c,.int .i64 x] W fun e w'=>e=.returned (.int .i64 (sPlace ks x))/\w'=W:=
 l3place_any a ks c x S W (hs.keep hW hB)
theorem l3declares_any (kind line op num:Int)(flt:Nat)(str:ByteArray)(refs:List Int)(n2:Nat)(a1 a2:Option Addr)(c1 c2:Nat)(v:Int)(S:Nat->Prop)(w:World)(hs:IntsAt w S a1 refs)(hB:∀ b,S b->b<w.heap.size) :
  Calls Tryz.prog 83 #[.agg #[.int .i64 kind,.int .i64 line,.int .i64 op,.int .i64 num,.float .f64 flt,.string str,.slice a1 refs.length c1,.slice a2 n2 c2],.int .i64 v] w fun e w'=>
   e=.returned (.bool (declKind kind&&decide (0<=sPlace refs v)))/\Below w.heap.size w w':=by
 have hbA:∀ o,Below w.heap.size w (w.alloc o):=fun o=>(Below.refl _ _).alloc (Nat.le_refl _) o;have HS:=hide hs;have HB:=hide hB;clear hs hB;cases hd:declKind kind
 ·have n1:(kind != 2)=true:=by simp[declKind]at hd;simp;omega
  have n2:(kind != 7)=true:=by simp[declKind]at hd;simp;omega
  have n3:(kind != 8)=true:=by simp[declKind]at hd;simp;omega
  have n4:(kind != 12)=true:=by simp[declKind]at hd;simp;omega
  clear hd;go_enter Tryz.func83,Tryz.ntmps83;go_wp2_with fail
  go_ret;exact⟨rfl,hbA _⟩
 ·have h4:kind=2\/kind=7\/kind=8\/kind=12:=by simp[declKind]at hd;omega
  clear hd;rcases h4 with rfl | rfl | rfl | rfl
  all_goals
   go_enter Tryz.func83,Tryz.ntmps83;go_wp2_with fail
   refine(l3place_from w _ (unhide HS) (unhide HB) (hbA _)).mono ?_;rintro e w' ⟨rfl,rfl⟩;go_wp2_with fail
   go_ret;exact⟨ret_bool (by simp),hbA _⟩
theorem l3declares_from {kind line op num:Int}{flt:Nat}{str:ByteArray}{refs:List Int}{n2:Nat}{a1 a2:Option Addr}{c1 c2:Nat}{v:Int}{S:Nat->Prop}(w W:World)(hs:IntsAt w S a1 refs)(hB:∀ b,S b->b<w.heap.size)(hW:Below w.heap.size w W) :
  Calls Tryz.prog 83 #[.agg #[.int .i64 kind,.int .i64 line,.int .i64 op,.int .i64 num,.float .f64 flt,.string str,.slice a1 refs.length c1,.slice a2 n2 c2],.int .i64 v] W fun e w'=>
   e=.returned (.bool (declKind kind&&decide (0<=sPlace refs v)))/\Below W.heap.size W w':=
 l3declares_any kind line op num flt str refs n2 a1 a2 c1 c2 v S W (hs.keep hW hB) (fun b h=>Nat.lt_of_lt_of_le (hB b h) hW.size)
theorem parStep_val {par:Nat->Int}{i:Nat}{k:Int}{x:Nat}:parStep par i k x=par x\/parStep par i k x=i\/parStep par i k x=-3:=by
 unfold parStep;split
 ·split
  ·exact .inr (.inl rfl)
  ·exact .inr (.inr rfl)
 ·exact .inl rfl
theorem parKidsTo_kid {par:Nat->Int}{i:Nat}{ks:List Int}{x:Nat}:∀ m,parKidsTo par i ks m x=par x\/parKidsTo par i ks m x=-3\/(parKidsTo par i ks m x=i/\∃ q,q<m/\(ks[q]?.getD 0).toNat=x)
 | 0=>.inl rfl
 | m+1=>by
  show parStep _ _ _ x=_\/parStep _ _ _ x=_\/_;by_cases e:x=(ks[m]?.getD 0).toNat
  ·rcases parStep_val (par:=parKidsTo par i ks m) (i:=i) (k:=ks[m]?.getD 0) (x:=x)with h | h | h
   ·rw[h];rcases parKidsTo_kid (par:=par) (i:=i) (ks:=ks) (x:=x) m with h1 | h1 | ⟨h1,q,hq,h2⟩
    ·exact .inl h1
    ·exact .inr (.inl h1)
    ·exact .inr (.inr ⟨h.trans h1,q,by omega,h2⟩)
   ·exact .inr (.inr ⟨h,m,Nat.lt_succ_self m,e.symm⟩)
   ·exact .inr (.inl h)
  ·have h:parStep (parKidsTo par i ks m) i (ks[m]?.getD 0) x=parKidsTo par i ks m x:=by unfold parStep;rw[if_neg e]
   rw[h];rcases parKidsTo_kid (par:=par) (i:=i) (ks:=ks) (x:=x) m with h1 | h1 | ⟨h1,q,hq,h2⟩
   ·exact .inl h1
   ·exact .inr (.inl h1)
   ·exact .inr (.inr ⟨h.trans h1,q,by omega,h2⟩)
theorem parUpto_kid {ns:List NodeD}:∀ i x,0<=parUpto ns i x->∃ j q,parUpto ns i x=(j:Nat)/\j<i/\q<(nd ns j).kids.length/\((nd ns j).kids[q]?.getD 0).toNat=x
 | 0,x,h=>by have:parUpto ns 0 x=-2:=rfl;omega
 | i+1,x,h=>by
  have e:parUpto ns (i+1) x=parKidsTo (parUpto ns i) i (nd ns i).kids (nd ns i).kids.length x:=rfl;rw[e]at h ⊢;rcases parKidsTo_kid (par:=parUpto ns i) (i:=i) (ks:=(nd ns i).kids) (x:=x) (nd ns i).kids.length with h1 | h1 | ⟨h1,q,hq,h2⟩
  ·rw[h1]at h ⊢;obtain⟨j,q,h3,h4,h5,h6⟩:=parUpto_kid i x h;exact⟨j,q,h3,by omega,h5,h6⟩
  ·omega
  ·exact⟨i,q,h1,Nat.lt_succ_self i,hq,h2⟩
theorem sPar_kid {ns:List NodeD}(hk:∀ p,p<ns.length->kidsIn ns p=true){x:Nat}(h:0<=sPar ns x):∃ j q,sPar ns x=(j:Nat)/\j<ns.length/\x<j/\q<(nd ns j).kids.length/\(nd ns j).kids[q]?.getD 0=x:=by
 have e:sPar ns x=parUpto ns ns.length x:=by
  unfold sPar at h ⊢;split at h
  ·omega
  ·rename_i hh;rw[if_neg hh]
 rw[e]at h ⊢;obtain⟨j,q,h3,h4,h5,h6⟩:=parUpto_kid ns.length x h;have h7:=kidsIn_get (hk j h4) q h5;exact⟨j,q,h3,h4,by omega,h5,by omega⟩
attribute [local go_sem] run_store_float
def loopKind (k:Int):Bool:=k==6||k==7||k==8
def loopAt (ns:List NodeD)(up below:Nat):Bool:=loopKind (nd ns up).kind&&((nd ns up).kids[(nd ns up).kids.length-1]?.getD 0==below)
def inloopFrom (ns:List NodeD):Nat->Nat->Bool
 | 0,_=>false
 | g+1,y=>if sPar ns y<0 then false else loopAt ns (sPar ns y).toNat y||inloopFrom ns g (sPar ns y).toNat
def sInloop (ns:List NodeD)(p:Nat):Bool:=inloopFrom ns ns.length p
structure FT (w:World)(o1 o2:Obj)(wr:World):Prop where
 below:Below (w.heap.size+2) ((w.alloc o1).alloc o2) wr
section
variable {w:World} {o1 o2:Obj} {wr w2:World}
theorem FT.start (w:World)(o1 o2:Obj):FT w o1 o2 ((w.alloc o1).alloc o2):=⟨Below.refl _ _⟩
theorem FT.old (h:FT w o1 o2 wr):Below w.heap.size w wr:=(((Below.refl _ _).alloc (Nat.le_refl _) o1).alloc (by simp) o2).trans (h.below.mono (by omega))
theorem FT.size (h:FT w o1 o2 wr):w.heap.size+2<=wr.heap.size:=by have:=h.below.size;simpa using this
theorem FT.below' (h:FT w o1 o2 wr)(hb:Below wr.heap.size wr w2):FT w o1 o2 w2:=⟨h.below.trans (hb.mono h.size)⟩
theorem FT.alloc (h:FT w o1 o2 wr)(o:Obj):FT w o1 o2 (wr.alloc o):=⟨h.below.alloc h.size o⟩
theorem FT.drew (h:FT w o1 o2 wr):FT w o1 o2 wr.drew:=⟨h.below.drew⟩
theorem FT.cell0 (h:FT w o1 o2 wr)(j:Nat):wr.cell? ⟨w.heap.size,j,none⟩=((w.alloc o1).alloc o2).cell? ⟨w.heap.size,j,none⟩:=h.below.cell (p:=⟨w.heap.size,j,none⟩) (by simp)
theorem FT.cell1 (h:FT w o1 o2 wr)(j:Nat):wr.cell? ⟨w.heap.size+1,j,none⟩=((w.alloc o1).alloc o2).cell? ⟨w.heap.size+1,j,none⟩:=h.below.cell (p:=⟨w.heap.size+1,j,none⟩) (by simp)
end
theorem l3inloop_any (nm:ByteArray)(ln pr:Int)(rs:Bool)(n4 n5:Nat)(a4 a5 a6:Option Addr)(c4 c5 c6:Nat)(ns:List NodeD)(bp:Nat)(dv:Option Addr)(p:Nat)(S:Nat->Prop)(w:World)
  (hs:NodesAt w S a6 ns)(hB:∀ b,S b->b<w.heap.size)(hrp:w.rowIs bp 3 ns.length (fun j=>.int .i64 (sPar ns j)))(hk:∀ p,p<ns.length->kidsIn ns p=true)(hl:ns.length<=3000)(hp:p<ns.length) :
  Calls Tryz.prog 42 #[.agg #[.string nm,.int .i64 ln,.int .i64 pr,.bool rs,.slice a4 n4 c4,.slice a5 n5 c5,.slice a6 ns.length c6],.agg #[.slice (some ⟨bp,0,none⟩) ns.length ns.length,.slice dv ns.length ns.length],.int .i64 p] w fun e w'=>
   e=.returned (.bool (sInloop ns p))/\Below w.heap.size w w':=by
 have X0:=hide (FT.start w (.cells #[.string nm,.int .i64 ln,.int .i64 pr,.bool rs,.slice a4 n4 c4,.slice a5 n5 c5,.slice a6 ns.length c6] 54) (.cells #[.slice (some ⟨bp,0,none⟩) ns.length ns.length,.slice dv ns.length ns.length] 79));have hn:=hs.1;have HS:=hide hs;have HB:=hide hB;have HK:=hide hk;have HR:=hide hrp;have hbpl:=hrp.lt;have pc0:w.cell? ⟨bp,p,none⟩=some (.int .i64 (sPar ns p)):=hrp.cell hp;clear hs hB hk hrp;go_enter Tryz.func42,Tryz.ntmps42;go_wp2_with fail
 clear pc0;go_loopg [7,8] ns.length (fun g bl up wr=>∃(y:Nat),bl=.int .i64 y/\up=.int .i64 (sPar ns y)/\y<ns.length/\ns.length<=y+g /\
   FT w (.cells #[.string nm,.int .i64 ln,.int .i64 pr,.bool rs,.slice a4 n4 c4,.slice a5 n5 c5,.slice a6 ns.length c6] 54) (.cells #[.slice (some ⟨bp,0,none⟩) ns.length ns.length,.slice dv ns.length ns.length] 79) wr/\Hid (sInloop ns p=inloopFrom ns g y))
 case atStart=>exact⟨p,rfl,rfl,hp,by omega,unhide X0,rfl⟩
 case round=>
  clear X0;obtain⟨y,rfl,rfl,hy,hyg,hx,hinv⟩:=hrel;have f6:wr.cell? ⟨w.heap.size,6,none⟩=some (.slice a6 ns.length c6):=by rw[hx.cell0];simp[go_sem]
  have g0:wr.cell? ⟨w.heap.size+1,0,none⟩=some (.slice (some ⟨bp,0,none⟩) ns.length ns.length):=by rw[hx.cell1];simp[go_sem]
  have hsz:=hx.size;have z1:w.heap.size<wr.heap.size:=by omega
  have z2:w.heap.size+1<wr.heap.size:=by omega
  have z3:bp<wr.heap.size:=by omega
  by_cases h0:0<=sPar ns y
  ·obtain⟨j,q,hj,hjn,hyj,hql,hqy⟩:=sPar_kid (unhide HK) h0;rw[hj];obtain⟨g',rfl⟩:∃ g',gk=g'+1:=⟨gk-1,by omega⟩;have HIN:Hid (sInloop ns p=(loopAt ns j y||inloopFrom ns g' j)):=by
    show _=_;rw[unhide hinv,inloopFrom,hj,if_neg (by omega)];rfl
   have rowr:=(unhide HR).of_block (hx.old.block bp hbpl);have pcj:wr.cell? ⟨bp,j,none⟩=some (.int .i64 (sPar ns j)):=rowr.cell hjn;obtain⟨b,off,rfl,hb,hcc⟩:=((unhide HS).keep hx.old (unhide HB)).2 (by omega);have N:NodeCells wr S b (off+j * 8) (nd ns j):=hcc j hjn;have hbs:b<wr.heap.size:=Nat.lt_of_lt_of_le (unhide HB b hb) hx.old.size;obtain⟨ra,rc,hr,hrI⟩:=N.refs;obtain⟨ka,kc,hkk,hkI⟩:=N.kids;have hkl:=hkI.1;obtain⟨b2,off2,rfl,hb2,hc2⟩:=hkI.2 (by omega);have hb2s:b2<wr.heap.size:=Nat.lt_of_lt_of_le (unhide HB b2 hb2) hx.old.size;have hlastc:wr.cell? ⟨b2,off2+((nd ns j).kids.length-1),none⟩=some (.int .i64 ((nd ns j).kids[(nd ns j).kids.length-1]?.getD 0)):=hc2 _ (by omega);have c0:=N.kind;have c1:=N.line;have c2:=N.op;have c3:=N.num;have c4':=N.flt;have c5':=N.str;have hpos:1<=(nd ns j).kids.length:=by omega
   have HLA:Hid (loopAt ns j y=(loopKind (nd ns j).kind&&((nd ns j).kids[(nd ns j).kids.length-1]?.getD 0==(y:Int)))):=rfl;clear N hrI hkI hc2 hcc hj h0 hql hqy hinv rowr;generalize (nd ns j).kids[(nd ns j).kids.length-1]?.getD 0=lk at *;generalize nd ns j=n at *;obtain⟨kind,line,op,num,flt,str,refs,kids⟩:=n;dsimp only at *;have hposI:(1:Int)<=kids.length:=by omega
   cases hlk:loopKind kind
   ·have k1:(kind==6)=false:=by simp[loopKind]at hlk;simp;omega
    have k2:(kind==7)=false:=by simp[loopKind]at hlk;simp;omega
    have k3:(kind==8)=false:=by simp[loopKind]at hlk;simp;omega
    have HL0:Hid (loopAt ns j y=false):=by show _=_;rw[unhide HLA,hlk];rfl
    clear hlk;go_wp2_with fail
    go_roundg g'
    case measure=>omega
    case rel=>exact⟨j,rfl,rfl,hjn,by omega,hx.alloc _,by show _=_;rw[unhide HIN,unhide HL0];rfl⟩
   ·have k4:kind=6\/kind=7\/kind=8:=by simp[loopKind]at hlk;omega
    cases heq:(lk==(y:Int))
    ·have HL0:Hid (loopAt ns j y=false):=by show _=_;rw[unhide HLA,heq,Bool.and_false]
     clear hlk;rcases k4 with rfl | rfl | rfl
     all_goals
      go_wp2_with fail
      go_roundg g'
      case measure=>omega
      case rel=>exact⟨j,rfl,rfl,hjn,by omega,hx.alloc _,by show _=_;rw[unhide HIN,unhide HL0];rfl⟩
    ·have HL0:Hid (loopAt ns j y=true):=by show _=_;rw[unhide HLA,heq,hlk];rfl
     clear hlk;rcases k4 with rfl | rfl | rfl
     all_goals
      go_wp2_with fail
      go_ret;exact⟨ret_bool (by rw[unhide HIN,unhide HL0];rfl),(hx.alloc _).old⟩
  ·have HI0:Hid (sInloop ns p=false):=by
    show _=_;rw[unhide hinv];cases gk with
    | zero=>rfl
    | succ g=>rw[inloopFrom,if_pos (by omega)]
   generalize sPar ns y=sy at *;go_wp2_with fail
   go_ret;exact⟨ret_bool (unhide HI0).symm,hx.old⟩
attribute [local go_sem] run_store_float
def anyTo (q:Nat->Bool)(n:Int):Bool:=!(allFrom (fun i=>!q i) 0 n.toNat)
theorem anyTo_true {q:Nat->Bool}{n:Int}{i:Nat}(h:(i:Int)<n)(hq:q i=true):anyTo q n=true:=by
 unfold anyTo;rw[allFrom_false (i:=i) (Nat.zero_le _) (by omega) (by simp[hq])];rfl
theorem anyTo_false {q:Nat->Bool}{n:Int}(h:∀ i:Nat,(i:Int)<n->q i=false):anyTo q n=false:=by
 unfold anyTo;rw[allFrom_true (fun i _ hi=>by simp[h i (by omega)])];rfl
def letAt (ns:List NodeD)(up:Nat)(v:Int)(i:Nat):Bool:=
 ((nd ns ((nd ns up).kids[i]?.getD 0).toNat).kind==2)&&(declKind (nd ns ((nd ns up).kids[i]?.getD 0).toNat).kind&&decide (0<=sPlace (nd ns ((nd ns up).kids[i]?.getD 0).toNat).refs v))
def headKind (k:Int):Bool:=k==7||k==8||k==12
def visAt (ns:List NodeD)(up below:Nat)(v:Int):Bool:=
 ((nd ns up).kind==1&&anyTo (letAt ns up v) (sPlace (nd ns up).kids below)) ||
 (headKind (nd ns up).kind&&(sPlace (nd ns up).kids below==((nd ns up).kids.length:Int)-1)&&(declKind (nd ns up).kind&&decide (0<=sPlace (nd ns up).refs v)))
def visFrom (ns:List NodeD)(v:Int):Nat->Nat->Bool
 | 0,_=>false
 | g+1,y=>if sPar ns y<0 then false else visAt ns (sPar ns y).toNat y v||visFrom ns v g (sPar ns y).toNat
def sVisible (pr:Int)(ns:List NodeD)(p:Nat)(v:Int):Bool:=decide (v<pr)||visFrom ns v ns.length p
theorem l3visible_any (nm:ByteArray)(ln pr:Int)(rs:Bool)(n4 n5:Nat)(a4 a5 a6:Option Addr)(c4 c5 c6:Nat)(ns:List NodeD)(bp:Nat)(dv:Option Addr)(p:Nat)(v:Int)(S:Nat->Prop)(w:World)
  (hs:NodesAt w S a6 ns)(hB:∀ b,S b->b<w.heap.size)(hrp:w.rowIs bp 3 ns.length (fun j=>.int .i64 (sPar ns j)))(hk:∀ p,p<ns.length->kidsIn ns p=true)(hl:ns.length<=3000)(hp:p<ns.length) :
  Calls Tryz.prog 63 #[.agg #[.string nm,.int .i64 ln,.int .i64 pr,.bool rs,.slice a4 n4 c4,.slice a5 n5 c5,.slice a6 ns.length c6],.agg #[.slice (some ⟨bp,0,none⟩) ns.length ns.length,.slice dv ns.length ns.length],.int .i64 p,.int .i64 v] w fun e w'=>
   e=.returned (.bool (sVisible pr ns p v))/\Below w.heap.size w w':=by
 have X0:=hide (FT.start w (.cells #[.string nm,.int .i64 ln,.int .i64 pr,.bool rs,.slice a4 n4 c4,.slice a5 n5 c5,.slice a6 ns.length c6] 54) (.cells #[.slice (some ⟨bp,0,none⟩) ns.length ns.length,.slice dv ns.length ns.length] 79));have hn:=hs.1;have HS:=hide hs;have HB:=hide hB;have HK:=hide hk;have HR:=hide hrp;have hbpl:=hrp.lt;have pc0:w.cell? ⟨bp,p,none⟩=some (.int .i64 (sPar ns p)):=hrp.cell hp;clear hs hB hk hrp;by_cases hv:v<pr
 ·have HE:Hid (sVisible pr ns p v=true):=by show _=_;unfold sVisible;rw[decide_eq_true hv];rfl
  go_enter Tryz.func63,Tryz.ntmps63;go_wp2_with fail
  go_ret;exact⟨ret_bool (unhide HE).symm,(unhide X0).old⟩
 have HE:Hid (sVisible pr ns p v=visFrom ns v ns.length p):=by show _=_;unfold sVisible;rw[decide_eq_false hv];rfl
 have hdv:decide (v<pr)=false:=decide_eq_false hv;go_enter Tryz.func63,Tryz.ntmps63;go_wp2_with fail
 clear pc0;go_loopg [9,10] ns.length (fun g bl up wr=>∃(y:Nat),bl=.int .i64 y/\up=.int .i64 (sPar ns y)/\y<ns.length/\ns.length<=y+g /\
   FT w (.cells #[.string nm,.int .i64 ln,.int .i64 pr,.bool rs,.slice a4 n4 c4,.slice a5 n5 c5,.slice a6 ns.length c6] 54) (.cells #[.slice (some ⟨bp,0,none⟩) ns.length ns.length,.slice dv ns.length ns.length] 79) wr/\Hid (sVisible pr ns p v=visFrom ns v g y))
 case atStart=>exact⟨p,rfl,rfl,hp,by omega,unhide X0,unhide HE⟩
 case round=>
  clear X0 HE;obtain⟨y,rfl,rfl,hy,hyg,hx,hinv⟩:=hrel;obtain⟨wo,rfl⟩:∃ wo,wo=wr:=⟨wr,rfl⟩;have f6:wo.cell? ⟨w.heap.size,6,none⟩=some (.slice a6 ns.length c6):=by rw[hx.cell0];simp[go_sem]
  have g0:wo.cell? ⟨w.heap.size+1,0,none⟩=some (.slice (some ⟨bp,0,none⟩) ns.length ns.length):=by rw[hx.cell1];simp[go_sem]
  have hsz:=hx.size;have z1:w.heap.size<wo.heap.size:=by omega
  have z2:w.heap.size+1<wo.heap.size:=by omega
  have z3:bp<wo.heap.size:=by omega
  by_cases h0:0<=sPar ns y
  ·obtain⟨j,q,hj,hjn,hyj,hql,hqy⟩:=sPar_kid (unhide HK) h0;rw[hj];obtain⟨g',rfl⟩:∃ g',gk=g'+1:=⟨gk-1,by omega⟩;have HIN:Hid (sVisible pr ns p v=(visAt ns j y v||visFrom ns v g' j)):=by
    show _=_;rw[unhide hinv,visFrom,hj,if_neg (by omega)];rfl
   have rowr:=(unhide HR).of_block (hx.old.block bp hbpl);have pcj:wo.cell? ⟨bp,j,none⟩=some (.int .i64 (sPar ns j)):=rowr.cell hjn;have N0:=(unhide HS).keep hx.old (unhide HB);obtain⟨b,off,ea,hb,hcc⟩:=N0.2 (by omega);have N:NodeCells wo S b (off+j * 8) (nd ns j):=hcc j hjn;have hbs:b<wo.heap.size:=Nat.lt_of_lt_of_le (unhide HB b hb) hx.old.size;obtain⟨ra,rc,hr,hrI⟩:=N.refs;obtain⟨ka,kc,hkk,hkI⟩:=N.kids;have hkl:=hkI.1;have hpl:=sPlace_bd (nd ns j).kids y;have c0:=N.kind;have c1:=N.line;have c2:=N.op;have c3:=N.num;have c4':=N.flt;have c5':=N.str;have HVA:Hid (visAt ns j y v=(((nd ns j).kind==1&&anyTo (letAt ns j v) (sPlace (nd ns j).kids y)) ||
    (headKind (nd ns j).kind&&(sPlace (nd ns j).kids y==((nd ns j).kids.length:Int)-1)&&(declKind (nd ns j).kind&&decide (0<=sPlace (nd ns j).refs v))))):=rfl
   have HRI:=hide hrI;have HKI:=hide hkI;have HCC:=hide hcc;have HBr:Hid (∀ b,S b->b<wo.heap.size):=fun b h=>Nat.lt_of_lt_of_le (unhide HB b h) hx.old.size;have HLT:Hid (∀ i,letAt ns j v i=(((nd ns ((nd ns j).kids[i]?.getD 0).toNat).kind==2)&&(declKind (nd ns ((nd ns j).kids[i]?.getD 0).toNat).kind&&decide (0<=sPlace (nd ns ((nd ns j).kids[i]?.getD 0).toNat).refs v)))):=fun i=>rfl;have HKN:Hid (∀ i,i<(nd ns j).kids.length->0<=(nd ns j).kids[i]?.getD 0/\(nd ns j).kids[i]?.getD 0<j):=fun i hi=>kidsIn_get (unhide HK j hjn) i hi;clear N N0 hrI hkI hcc hj h0 hql hqy hinv rowr;generalize nd ns j=n at *;obtain⟨kind,line,op,num,flt,str,refs,kids⟩:=n;dsimp only at *;subst ea;by_cases hk1:kind=1
   ·subst hk1;have HV1:Hid (visAt ns j y v=anyTo (letAt ns j v) (sPlace kids y)):=by show _=_;rw[unhide HVA];simp[headKind]
    go_wp2_with fail
    refine(l3place_from wo _ (unhide HKI) (unhide HBr) ((Below.refl _ _).alloc (Nat.le_refl _) _)).mono ?_;rintro e w' ⟨rfl,rfl⟩;generalize sPlace kids y=P at *;have hPk:P<=kids.length:=by omega
    go_wp2_with fail
    go_loopg [13] P.toNat (fun g i wr=>∃(k:Nat),k+g=P.toNat/\i=.int .i64 k/\Below (wo.heap.size+1) (wo.alloc (.cells #[.int .i64 1,.int .i64 line,.int .i64 op,.int .i64 num,.float .f64 flt,.string str,.slice ra refs.length rc,.slice ka kids.length kc] 58)) wr/\Hid (∀ q,q<k->letAt ns j v q=false))
    case atStart=>exact⟨0,by omega,rfl,Below.refl _ _,fun q h=>absurd h (Nat.not_lt_zero _)⟩
    case round=>
     obtain⟨k,hkg,rfl,hbw,hno⟩:=hrel;have h1:Below wo.heap.size wo wr:=((Below.refl _ _).alloc (Nat.le_refl _) _).trans (hbw.mono (by omega));have y1:wo.heap.size<wr.heap.size:=by have:=hbw.size;simp at this;omega
     have m0:wr.cell? ⟨wo.heap.size,0,none⟩=some (.int .i64 1):=by rw[hbw.cell (p:=⟨wo.heap.size,0,none⟩) (by simp)];simp[go_sem]
     have m7:wr.cell? ⟨wo.heap.size,7,none⟩=some (.slice ka kids.length kc):=by rw[hbw.cell (p:=⟨wo.heap.size,7,none⟩) (by simp)];simp[go_sem]
     have f6':wr.cell? ⟨w.heap.size,6,none⟩=some (.slice (some ⟨b,off,none⟩) ns.length c6):=(h1.cell (p:=⟨w.heap.size,6,none⟩) z1).trans f6;have g0':wr.cell? ⟨w.heap.size+1,0,none⟩=some (.slice (some ⟨bp,0,none⟩) ns.length ns.length):=(h1.cell (p:=⟨w.heap.size+1,0,none⟩) z2).trans g0;have pcj':wr.cell? ⟨bp,j,none⟩=some (.int .i64 (sPar ns j)):=(h1.cell (p:=⟨bp,j,none⟩) z3).trans pcj;have z1':w.heap.size<wr.heap.size:=by omega
     have z2':w.heap.size+1<wr.heap.size:=by omega
     have z3':bp<wr.heap.size:=by omega
     have hbs':b<wr.heap.size:=by omega
     have hx':=hx.below' h1;by_cases hkP:(k:Int)<P
     ·obtain⟨b2,off2,rfl,hb2,hc2⟩:=((unhide HKI).keep h1 (unhide HBr)).2 (by omega);have hcl:=hc2 k (by omega);have hin:=unhide HKN k (by omega);have hb2s:b2<wr.heap.size:=Nat.lt_of_lt_of_le (unhide HBr b2 hb2) h1.size;obtain⟨x,hxx⟩:=Int.eq_ofNat_of_zero_le hin.1;have HLk:Hid (letAt ns j v k=(((nd ns x).kind==2)&&(declKind (nd ns x).kind&&decide (0<=sPlace (nd ns x).refs v)))):=by show _=_;rw[unhide HLT k,hxx];rfl
      rw[hxx]at hcl hin;have hxn:x<ns.length:=by omega
      have Nx:NodeCells wr S b (off+x * 8) (nd ns x):=(unhide HCC x hxn).same (.of_below h1 (unhide HBr)) hb;obtain⟨ra2,rc2,hr2,hrI2⟩:=Nx.refs;obtain⟨ka2,kc2,hkk2,hkI2⟩:=Nx.kids;have d0:=Nx.kind;have d1:=Nx.line;have d2:=Nx.op;have d3:=Nx.num;have d4:=Nx.flt;have d5:=Nx.str;have HRI2:=hide hrI2;have HBi:Hid (∀ b,S b->b<wr.heap.size):=fun b h=>Nat.lt_of_lt_of_le (unhide HBr b h) h1.size;clear Nx hrI2 hkI2 hc2 hxx;generalize nd ns x=n2 at *;obtain⟨kind2,line2,op2,num2,flt2,str2,refs2,kids2⟩:=n2;dsimp only at *;by_cases hk2:kind2=2
      ·subst hk2;go_wp2_with fail
       go_region
       go_wp2_with fail
       refine(l3declares_from wr _ (unhide HRI2) (unhide HBi) (Below.drew ((Below.refl _ _).alloc (Nat.le_refl _) _))).mono ?_;rintro e w2 ⟨rfl,hb2'⟩;have hbw2:Below wr.heap.size wr w2:=(Below.drew ((Below.refl _ _).alloc (Nat.le_refl _) _)).trans (hb2'.mono (by simp));cases hd:declKind 2&&decide (0<=sPlace refs2 v)
       ·have HD:=hide hd;clear hd;go_wp2_with fail
        go_roundg (P.toNat-(k+1))
        case measure=>omega
        case rel=>
         refine⟨k+1,by omega,by go_num,hbw.trans (hbw2.mono (by omega)),fun q hq=>?_⟩;by_cases e:q=k
         ·subst e;rw[unhide HLk,unhide HD];rfl
         ·exact hno.out q (by omega)
       ·have HD:=hide hd;clear hd;go_wp2_with fail
        go_ret;refine⟨ret_bool ?_,(hx'.below' hbw2).old⟩;rw[unhide HIN,unhide HV1,anyTo_true hkP (by rw[unhide HLk,unhide HD];rfl)];rfl
      ·have hk2':(kind2==2)=false:=beq_eq_false_iff_ne.2 hk2;have HD:Hid (letAt ns j v k=false):=by show _=_;rw[unhide HLk,hk2'];rfl
       clear hk2;go_wp2_with fail
       go_region
       go_wp2_with fail
       go_roundg (P.toNat-(k+1))
       case measure=>omega
       case rel=>
        refine⟨k+1,by omega,by go_num,(hbw.alloc (by have:=hbw.size;simp at this;omega) _).drew,fun q hq=>?_⟩;by_cases e:q=k
        ·subst e;exact unhide HD
        ·exact hno.out q (by omega)
     ·have HV0:Hid (visAt ns j y v=false):=by show _=_;rw[unhide HV1];exact anyTo_false (fun q hq=>hno.out q (by omega))
      go_wp2_with fail
      go_roundg g'
      case measure=>omega
      case rel=>exact⟨j,rfl,rfl,hjn,by omega,hx',by show _=_;rw[unhide HIN,unhide HV0];rfl⟩
   ·have hk1':(kind==1)=false:=beq_eq_false_iff_ne.2 hk1;have HV1:Hid (visAt ns j y v=(headKind kind&&(sPlace kids y==(kids.length:Int)-1)&&(declKind kind&&decide (0<=sPlace refs v)))):=by show _=_;rw[unhide HVA,hk1'];rfl
    clear hk1;cases hhk:headKind kind
    ·have k1:(kind==7)=false:=by simp[headKind]at hhk;simp;omega
     have k2:(kind==8)=false:=by simp[headKind]at hhk;simp;omega
     have k3:(kind==12)=false:=by simp[headKind]at hhk;simp;omega
     have HV0:Hid (visAt ns j y v=false):=by show _=_;rw[unhide HV1,hhk];rfl
     clear hhk;go_wp2_with fail
     refine(l3place_from wo _ (unhide HKI) (unhide HBr) ((Below.refl _ _).alloc (Nat.le_refl _) _)).mono ?_;rintro e w' ⟨rfl,rfl⟩;go_wp2_with fail
     go_roundg g'
     case measure=>omega
     case rel=>exact⟨j,rfl,rfl,hjn,by omega,hx.alloc _,by show _=_;rw[unhide HIN,unhide HV0];rfl⟩
    ·have k4:kind=7\/kind=8\/kind=12:=by simp[headKind]at hhk;omega
     cases hpe:(sPlace kids y==(kids.length:Int)-1)
     ·have HV0:Hid (visAt ns j y v=false):=by show _=_;rw[unhide HV1,hpe];simp
      clear hhk;rcases k4 with rfl | rfl | rfl
      all_goals
       go_wp2_with fail
       refine(l3place_from wo _ (unhide HKI) (unhide HBr) ((Below.refl _ _).alloc (Nat.le_refl _) _)).mono ?_;rintro e w' ⟨rfl,rfl⟩;go_wp2_with fail
       go_roundg g'
       case measure=>omega
       case rel=>exact⟨j,rfl,rfl,hjn,by omega,hx.alloc _,by show _=_;rw[unhide HIN,unhide HV0];rfl⟩
     ·have HV2:Hid (visAt ns j y v=(declKind kind&&decide (0<=sPlace refs v))):=by show _=_;rw[unhide HV1,hpe,hhk];rfl
      clear hhk;rcases k4 with rfl | rfl | rfl
      all_goals
       go_wp2_with fail
       refine(l3place_from wo _ (unhide HKI) (unhide HBr) ((Below.refl _ _).alloc (Nat.le_refl _) _)).mono ?_;rintro e w' ⟨rfl,rfl⟩;go_wp2_with fail
       refine(l3declares_from wo _ (unhide HRI) (unhide HBr) ((Below.refl _ _).alloc (Nat.le_refl _) _)).mono ?_;rintro e w2 ⟨rfl,hb2'⟩;have hbw2:Below wo.heap.size wo w2:=((Below.refl _ _).alloc (Nat.le_refl _) _).trans (hb2'.mono (by simp));have hx':=hx.below' hbw2;have g0':w2.cell? ⟨w.heap.size+1,0,none⟩=some (.slice (some ⟨bp,0,none⟩) ns.length ns.length):=(hbw2.cell (p:=⟨w.heap.size+1,0,none⟩) z2).trans g0;have pcj':w2.cell? ⟨bp,j,none⟩=some (.int .i64 (sPar ns j)):=(hbw2.cell (p:=⟨bp,j,none⟩) z3).trans pcj;rw[<-unhide HV2];cases hd:visAt ns j y v
       ·have HD:=hide hd;clear hd;go_wp2_with fail
        go_roundg g'
        case measure=>omega
        case rel=>exact⟨j,rfl,rfl,hjn,by omega,hx',by show _=_;rw[unhide HIN,unhide HD];rfl⟩
       ·have HD:=hide hd;clear hd;go_wp2_with fail
        go_ret;exact⟨ret_bool (by rw[unhide HIN,unhide HD];rfl),hx'.old⟩
  ·have HI0:Hid (sVisible pr ns p v=false):=by
    show _=_;rw[unhide hinv];cases gk with
    | zero=>rfl
    | succ g=>rw[visFrom,if_pos (by omega)]
   generalize sPar ns y=sy at *;go_wp2_with fail
   go_ret;exact⟨ret_bool (unhide HI0).symm,hx.old⟩
end Go.Proofs.YtofcbekoaghikaaGreatDoor
