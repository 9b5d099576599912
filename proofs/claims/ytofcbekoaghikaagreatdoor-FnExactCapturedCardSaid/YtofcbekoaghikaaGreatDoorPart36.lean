import Derived.Test.YtofcbekoaghikaaGreatDoorPart35
import Derived.Deep.RegionHeld3
set_option linter.unusedSimpArgs false
set_option linter.unusedVariables false
set_option maxHeartbeats 4000000
set_option maxRecDepth 100000
namespace Go.Proofs.YtofcbekoaghikaaGreatDoor
open Go.RowKit Go.Maps
attribute [local go_sem] run_store_float
theorem run_makeClo (w:World):(Instr.makeMap 63 none).run Tryz.prog w=.ok (.map (some w.heap.size)) (w.alloc (.map #[] 0)):=by
 simp[Instr.makeMap,run_underlying Tryz.underlying63,Result.andThen]
theorem closers_any (a:Option Addr)(l:List FnD)(c f:Nat)(S:Nat->Prop)(w:World)(hs:FnsAt w S a l)(hB:∀ b,S b->b<w.heap.size)(hf:f<l.length)(hl:l.length<=1000000)
  (hv:(fnD l f).vars.length<=200)(hnl:(fnD l f).nodes.length<=1000000)(hul:∀ g,g<l.length->(fnD l g).ups.length<=200)(hok:∀ p,p<(fnD l f).nodes.length->(nd (fnD l f).nodes p).kind=36->MadeOk l f p) :
  Calls Tryz.prog 28 #[.agg #[.slice a l.length c],.int .i64 f] w fun e w'=>∃ bm m,e=.returned (.map (some bm))/\CloW w.heap.size f bm (captured l f) m w'/\Below w.heap.size w w':=by
 obtain⟨b,off,rfl,hb,hcc⟩:=hs.2 (by omega);have hbs:b<w.heap.size:=hB b hb;have NF:FnCells w S b (off+f * 7) (fnD l f):=hcc f hf;obtain⟨na,nc,hna,hnI⟩:=NF.nodes;have HN:=hide hnI;have HB:=hide hB;have HS:=hide hs;have HOK:Hid (∀ p,p<(fnD l f).nodes.length->(nd (fnD l f).nodes p).kind=36->(nd (fnD l f).nodes p).refs.length=1/\((madeBy l f p:Nat):Int)=(nd (fnD l f).nodes p).refs[0]?.getD 0/\madeBy l f p<l.length /\
   ∀ q,q<(fnD l (madeBy l f p)).ups.length->(upD (fnD l (madeBy l f p)).ups q).1=true->0<=(upD (fnD l (madeBy l f p)).ups q).2/\(upD (fnD l (madeBy l f p)).ups q).2<1000):=fun p hp hk=>by
  obtain⟨h1,h2,h3,h4⟩:=hok p hp hk;have e:((madeBy l f p:Nat):Int)=ref0 (nd (fnD l f).nodes p):=by unfold madeBy;omega
  exact⟨h1,e,by omega,fun q hq hu=>by obtain⟨u0,u1⟩:=h4 q hq hu;exact⟨u0,by omega⟩⟩
 have HUL:=hide hul;have hfI:(f:Int)<l.length:=by omega
 have hfI0:(0:Int)<=(f:Int):=by omega
 have HT:Hid (∀ p i,capTo l f (p+1) i=(capTo l f p i||((nd (fnD l f).nodes p).kind==36&&capUps (fnD l (madeBy l f p)).ups (fnD l (madeBy l f p)).ups.length i))):=fun p i=>rfl;have HC:Hid (∀ i,captured l f i=capTo l f (fnD l f).nodes.length i):=fun i=>rfl;have HT0:Hid (∀ i,capTo l f 0 i=false):=fun i=>rfl;have ADD:Hid (∀(W:World) (n:Nat) (g:Nat->Bool) (m0:Value->Option Value),Below w.heap.size w W->w.heap.size+1<=W.heap.size->n<l.length->(∀ q,q<(fnD l n).ups.length->(upD (fnD l n).ups q).1=true->0<=(upD (fnD l n).ups q).2/\(upD (fnD l n).ups q).2<1000)->CloW (w.heap.size+1) f (w.heap.size+1) g m0 W ->
   Calls Tryz.prog 53 #[.map (some (w.heap.size+1)),.agg #[.slice (some ⟨b,off,none⟩) l.length c],.int .i64 f,.int .i64 n] W fun e w'=>e=.returned (.tuple #[])/\(∃ m,CloW (w.heap.size+1) f (w.heap.size+1) (fun i=>g i||capUps (fnD l n).ups (fnD l n).ups.length i) m w')/\Below (w.heap.size+1) W w'):=fun W n g m0 h1 h2 h3 h4 h5=>
  addCloser_any (some ⟨b,off,none⟩) l c f n (w.heap.size+1) (w.heap.size+1) g m0 S W (hs.keep h1 hB) (fun b h=>Nat.lt_succ_of_lt (hB b h)) (Nat.le_refl _) h2 h3 hl hf (hul n h3) h4 h5
 clear hs hB hok hul hcc NF hnI;generalize hns:(fnD l f).nodes=ns at *;clear hns;have hmm:=run_makeClo;go_enter Tryz.func28,Tryz.ntmps28;go_wp2_with fail
 clear hmm;go_loopg [16] ns.length (fun gg i wr=>∃(k:Nat) (m:Value->Option Value),k+gg=ns.length/\i=.int .i64 k/\Below w.heap.size w wr/\wr.cell? ⟨w.heap.size,0,none⟩=some (.slice (some ⟨b,off,none⟩) l.length c)/\CloW (w.heap.size+1) f (w.heap.size+1) (capTo l f k) m wr)
 case atStart=>
  have h1:=MapK.made Tryz.prog 68 (w.alloc (.cells #[.slice (some ⟨b,off,none⟩) l.length c] 30));refine⟨0,fun _=>none,by omega,rfl,((Below.refl _ _).alloc (Nat.le_refl _) _).alloc (by simp) _,by simp[go_sem],⟨by simpa using h1,fun i hi=>(by rw[unhide HT0 i]at hi;cases hi),fun i _=>rfl⟩⟩
 case round=>
  obtain⟨k,m,hkg,rfl,hw,u0,hC⟩:=hrel;clear hna;have z:w.heap.size+1<wr.heap.size:=hC.map.lt;have z1:w.heap.size<wr.heap.size:=by omega
  have z2:b<wr.heap.size:=by omega
  by_cases hlt:k<ns.length
  ·obtain⟨nb,noff,rfl,hnb,hnc⟩:=((unhide HN).keep hw (unhide HB)).2 (by omega);have N:NodeCells wr S nb (noff+k * 8) (nd ns k):=hnc k hlt;have HOKk:=hide (unhide HOK k hlt);have HTk:=hide (unhide HT k);have hnbs:nb<wr.heap.size:=Nat.lt_of_lt_of_le (unhide HB nb hnb) hw.size;clear hnc;generalize madeBy l f k=g at *;generalize nd ns k=x at *;obtain⟨ra,rc,hr,hrI⟩:=N.refs;obtain⟨ka,kc,hk,hkI⟩:=N.kids;have c0:=N.kind;have c1:=N.line;have c2:=N.op;have c3:=N.num;have c4:=N.flt;have c5:=N.str;clear N hkI;have CW:=hide hC;have HW:=hide hw;have U0:=hide u0;by_cases hk36:x.kind=36
   ·obtain⟨h1,h2,h3,h4⟩:=unhide HOKk hk36;obtain⟨rb,roff,rfl,hrb,hrc⟩:=hrI.2 (by omega);have hr0:wr.cell? ⟨rb,roff,none⟩=some (.int .i64 (g:Int)):=by rw[h2];exact hrc 0 (by omega)
    have hrbs:rb<wr.heap.size:=Nat.lt_of_lt_of_le (unhide HB rb hrb) hw.size;have HT2:Hid (∀ i,capTo l f (k+1) i=(capTo l f k i||capUps (fnD l g).ups (fnD l g).ups.length i)):=fun i=>by rw[unhide HTk i,hk36];simp
    have H4:=hide h4;have hne:(x.kind==36)=true:=by rw[hk36];rfl
    have hlen:((x.refs.length:Nat):Int)=1:=by omega
    clear hrc h4 h2 HOKk HTk hrI HT;have hA:∀ o,Below wr.heap.size wr (wr.alloc o).drew:=fun o=>((Below.refl _ _).alloc (Nat.le_refl _) _).drew;have CALL:Hid (∀ o,Calls Tryz.prog 53 #[.map (some (w.heap.size+1)),.agg #[.slice (some ⟨b,off,none⟩) l.length c],.int .i64 f,.int .i64 g] (wr.alloc o).drew fun e w'=>e=.returned (.tuple #[])/\(∃ m,CloW (w.heap.size+1) f (w.heap.size+1) (capTo l f (k+1)) m w')/\Below w.heap.size w w'/\w'.cell? ⟨w.heap.size,0,none⟩=some (.slice (some ⟨b,off,none⟩) l.length c)):=fun o=>by
     refine(unhide ADD (wr.alloc o).drew g (capTo l f k) m ((unhide HW).trans ((hA o).mono (unhide HW).size)) (by simp;omega) h3 (unhide H4) ((unhide CW).keep (hA o))).mono ?_;rintro e w' ⟨e1,⟨m',e2⟩,e3⟩;refine⟨e1,⟨m',e2.congr (fun i=>unhide HT2 i)⟩,((unhide HW).trans ((hA o).mono (unhide HW).size)).trans (e3.mono (by omega)),?_⟩;exact(e3.cell (p:=⟨w.heap.size,0,none⟩) (by show w.heap.size<w.heap.size+1;omega)).trans (((hA o).cell (p:=⟨w.heap.size,0,none⟩) z1).trans (unhide U0))
    clear hA;go_wp2_with fail
    go_region_with (first | (go_at_call 53;refine(unhide CALL _).mono ?_;rintro e w7 ⟨rfl,⟨m7,hc7⟩,hw7,hu7⟩))
    all_goals (go_wp2_with fail)
    all_goals go_roundg (ns.length-(k+1))
    all_goals first | (case rel=>exact⟨k+1,m7,by omega,by go_num,hw7,hu7,hc7⟩) | (case measure=>omega)
   ·have hne:(x.kind==36)=false:=by simpa using hk36
    have HT2:Hid (∀ i,capTo l f (k+1) i=capTo l f k i):=fun i=>by
     rw[unhide HTk i,hne,Bool.false_and,Bool.or_false]
    have hA:∀ o,Below wr.heap.size wr (wr.alloc o):=fun o=>(Below.refl _ _).alloc (Nat.le_refl _) _;have HA:=hide hA;clear hA;go_wp2_with fail
    go_roundg (ns.length-(k+1))
    case rel=>exact⟨k+1,m,by omega,by go_num,(unhide HW).alloc (unhide HW).size _,((unhide HA _).cell (p:=⟨w.heap.size,0,none⟩) z1).trans (unhide U0),((unhide CW).keep (unhide HA _)).congr (fun i=>unhide HT2 i)⟩
    case measure=>omega
  ·have HK:Hid (k=ns.length):=by show _=_;omega
   go_wp2_with fail
   go_ret;have e:=HK.out;subst e;refine⟨_,m,rfl,⟨hC.map,fun i hi=>?_,fun i hi=>hC.no i (by rw[<-unhide HC i];exact hi)⟩,hw⟩;obtain⟨bs,q1,q2,q3,q4⟩:=hC.yes i (by rw[<-unhide HC i];exact hi);exact⟨bs,q1,q2,by omega,q4⟩
end Go.Proofs.YtofcbekoaghikaaGreatDoor
