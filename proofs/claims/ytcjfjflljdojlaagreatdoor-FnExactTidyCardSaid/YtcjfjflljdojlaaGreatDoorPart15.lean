import Derived.Deep.Slices
import Derived.Test.YtcjfjflljdojlaaGreatDoorPart09
set_option linter.all false
set_option maxHeartbeats 4000000
set_option maxRecDepth 100000
namespace Go.Proofs.YtcjfjflljdojlaaGreatDoor
open Go.RowKit Go.WideShapes
theorem qm {α:Type}(d:α){n:Nat}{p:Nat->α->Prop}(h:∀ i,i<n->∃ x,p i x):∃ l:List α,l.length=n/\∀ i,i<n->p i (l[i]?.getD d):=by
 obtain⟨f,hf⟩:=@Go.Deep.choose_lt α ⟨d⟩ n p h;refine⟨(List.range n).map f,by simp,fun i hi=>?_⟩;have e:((List.range n).map f)[i]?.getD d=f i:=by{rw[zae,List.getElem?_range hi];rfl};rw[e];exact hf i hi
theorem GS:maxLen=9223372036854775807:=rfl
theorem cV {cs:List Value}{k:Nat}{v:Value}(h:(cs.drop k).take 1=[v]):cs[k]? = some v:=by
 have h1:((cs.drop k).take 1)[0]? = some v:=by{rw[h];rfl};rw[List.getElem?_take]at h1;simpa using h1
section
variable {H:Type} {enc:TypeId×Value->H} {P:Program} {w:w_} {base:Nat} {spare:Nat->Bool} {held:Bool}
theorem CY {t:TypeId}{k:FloatKind}{fuel:Nat}{cs:List Value}{x:DataW H×List MemPlace}(ht:P.underlying t=some (.float k))(h:DataW.trod enc P w base spare held fuel t cs=some x):∃ b,cs=[.float k b]:=by
 cases fuel with
 | zero=>simp[DataW.trod]at h
 | succ n=>
  unfold DataW.trod at h;simp only[ht]at h;split at h<;>simp_all
theorem mR {t e:TypeId}{sz:Nat}{fuel:Nat}{cs:List Value}{x:DataW H×List MemPlace}(ht:P.underlying t=some (.slice e))(he:P.cellsOf e=sz)(hz:0<sz)(h:DataW.trod enc P w base spare held fuel t cs=some x) :
  ∃(a:o_) (len cap:Nat),cs=[.slice a len cap]/\len<=cap/\len<=9223372036854775807/\(0<len->∃ b off,a=some (a_ b off)/\b<w.heap.size /\
   ∀ i,i<len->∃(n:Nat) (L7:List Value) (y:DataW H×List MemPlace),DataW.trod enc P w base spare held n e L7=some y/\L7.length=sz/\∀ j,j<sz->w.cell? (a_ b (off+i * sz+j))=L7[j]?):=by
 rcases Go.Deep.open_slice ht h with⟨rfl,_⟩ | ⟨a,len,cap,m,n,D,Pl,rfl,_,hl,hm,Ts,_,hx⟩;{exact⟨none,0,0,rfl,n_,by omega,fun h=>zcc h (Nat.lt_irrefl _)⟩};{rw[GS]at hm;refine⟨some a,len,cap,rfl,hl,by omega,fun h0=>?_⟩;have hlm:len<=m:=by{rw[Ts];split<;>omega};rw[he]at hx;obtain⟨c0,h1,_⟩:=hx 0 (by omega);obtain⟨_,aO,lp⟩:=World.cells?_some h1;obtain⟨b,off,aa6⟩:=a;have iu:=lp 0 hz;have e0:c0[0]? = some c0[0]:=g_ (by omega);rw[e0]at iu;have V5:aa6=none:=by{simpa[Addr.add]using World.cell?_spot iu};subst V5;refine⟨b,off,rfl,?_,fun i hi=>?_⟩;{have:=zbd _ _ iu;simpa[Addr.add]using this};{obtain⟨L7,g1,g2⟩:=hx i (by omega);obtain⟨_,acf,WG⟩:=World.cells?_some g1;refine⟨n,L7,_,g2,acf,fun j hj=>?_⟩;rw[<-WG j hj,add_plain,add_plain]}}
theorem cW {t:TypeId}{fs:Array Field}{fuel:Nat}{cs:List Value}{x:DataW H×List MemPlace}(ht:P.underlying t=some (.struct fs))(h:DataW.trod enc P w base spare held fuel t cs=some x)(i:Nat){k ty:Nat}(hf:(fs[i]?).map (fun f=>(f.offset,f.type))=some (k,ty))(hc:P.cellsOf ty=1) :
  ∃ n y,DataW.trod enc P w base spare held n ty ((cs.drop k).take 1)=some y:=by
 obtain⟨xs,n,_,_,_,aO,hx⟩:=DataW.trod_struct ht h;cases e:fs[i]? with
 | none=>rw[e]at hf;cases hf
 | some f=>
  rw[e]at hf;obtain⟨rfl,rfl⟩:f.offset=k/\f.type=ty:=by{simpa using hf};have hi:i<fs.size:=(zbc.1 e).1;refine⟨n,xs[i]'(by omega),?_⟩;have h1:=hx i f e;rw[hc]at h1;rw[h1];exact g_ (by omega)
end
section
variable {H:Type} {enc:TypeId×Value->H} {w:w_} {base:Nat} {spare:Nat->Bool} {held:Bool} {fuel:Nat} {cs:List Value} {x:DataW H×List MemPlace}
def Ni (w:w_)(b:Nat):Prop:=b<w.heap.size
theorem kz:Tryz.prog.cellsOf 3=1:=by kernel_rfl
theorem Mz:Tryz.prog.cellsOf 2=1:=by kernel_rfl
theorem I4:Tryz.prog.cellsOf 4=1:=by kernel_rfl
theorem uM:Tryz.prog.cellsOf 9=1:=by kernel_rfl
theorem Nr:Tryz.prog.cellsOf 47=1:=by kernel_rfl
theorem Uq:Tryz.prog.cellsOf 58=1:=by kernel_rfl
theorem YX:Tryz.prog.cellsOf 157=2:=by kernel_rfl
theorem Nl:Tryz.prog.cellsOf 143=5:=by kernel_rfl
theorem JX:Tryz.prog.cellsOf 59=1:=by kernel_rfl
theorem Up:Tryz.prog.cellsOf 160=5:=by kernel_rfl
theorem Qi:Tryz.prog.cellsOf 60=1:=by kernel_rfl
theorem Ms:Tryz.prog.cellsOf 145=4:=by kernel_rfl
theorem Jf:Tryz.prog.cellsOf 61=1:=by kernel_rfl
theorem Ml:Tryz.prog.cellsOf 63=9:=by kernel_rfl
theorem IE:Tryz.prog.cellsOf 22=1:=by kernel_rfl
theorem Qz (h:DataW.trod enc Tryz.prog w base spare held fuel 58 cs=some x):∃(a:o_)(l:List (Bool×Int))(c:Nat),cs=[.slice a l.length c]/\dG w (Ni w) a l:=by
 obtain⟨a,len,cap,rfl,h1,h2,h3⟩:=mR Tryz.underlying58 YX (by decide) h;by_cases h0:0<len
 ·obtain⟨b,off,rfl,hb,hx⟩:=h3 h0;obtain⟨l,hl,hp⟩:=qm ((false,0):Bool×Int) (n:=len) (p:=fun i z=>w.cell? (a_ b (off+i * 2))=some (.bool z.1)/\w.cell? (a_ b (off+i * 2+1))=some (i_ z.2)) (fun i hi=>by
   obtain⟨n,L7,y,g1,g2,g3⟩:=hx i hi;obtain⟨n0,y0,f0⟩:=cW Tryz.underlying157 g1 0 rfl I4;obtain⟨n1,y1,f1⟩:=cW Tryz.underlying157 g1 1 rfl kz;obtain⟨z0,e0,_⟩:=DataW.trod_bool Tryz.underlying4 f0;obtain⟨z1,e1,_⟩:=DataW.trod_int Tryz.underlying3 f1;exact⟨(z0,z1),(g3 0 (by decide)).trans (cV e0),(g3 1 (by decide)).trans (cV e1)⟩)
  subst hl;exact⟨_,l,cap,rfl,h2,fun _=>⟨b,off,rfl,hb,hp⟩⟩
 {obtain rfl:len=0:=by{omega};exact⟨a,[],cap,rfl,by simp,fun h=>zcc h (by simp)⟩}
theorem JS (h:DataW.trod enc Tryz.prog w base spare held fuel 143 cs=some x){b o:Nat}(hc:∀ j,j<5->w.cell? (a_ b (o+j))=cs[j]?):∃ n:cN,kT w b o n:=by
 obtain⟨_,_,f0⟩:=cW Tryz.underlying143 h 0 rfl kz;obtain⟨_,_,f1⟩:=cW Tryz.underlying143 h 1 rfl Mz;obtain⟨_,_,f2⟩:=cW Tryz.underlying143 h 2 rfl Nr;obtain⟨_,_,f3⟩:=cW Tryz.underlying143 h 3 rfl uM;obtain⟨_,_,f4⟩:=cW Tryz.underlying143 h 4 rfl kz;obtain⟨kind,e0,_⟩:=DataW.trod_int Tryz.underlying3 f0;obtain⟨num,e1,_⟩:=DataW.trod_int Tryz.underlying2 f1;obtain⟨flt,e2⟩:=CY Tryz.underlying47 f2;obtain⟨str,e3,_,hs⟩:=DataW.trod_string Tryz.underlying9 f3;obtain⟨ref,e4,_⟩:=DataW.trod_int Tryz.underlying3 f4;exact⟨⟨kind,num,flt,str,ref⟩,
  {kind:=(hc 0 (by decide)).trans (cV e0),num:=(hc 1 (by decide)).trans (cV e1),flt:=(hc 2 (by decide)).trans (cV e2),strs:=hs,str:=(hc 3 (by decide)).trans (cV e3),ref:=(hc 4 (by decide)).trans (cV e4) }⟩
theorem FZ (h:DataW.trod enc Tryz.prog w base spare held fuel 59 cs=some x):∃(a:o_)(l:List cN)(c:Nat),cs=[.slice a l.length c]/\cQ w (Ni w) a l:=by
 obtain⟨a,len,cap,rfl,h1,h2,h3⟩:=mR Tryz.underlying59 Nl (by decide) h;by_cases h0:0<len
 ·obtain⟨b,off,rfl,hb,hx⟩:=h3 h0;obtain⟨l,hl,hp⟩:=qm cN.z (n:=len) (p:=fun i z=>kT w b (off+i * 5) z) (fun i hi=>by
   obtain⟨n,L7,y,g1,g2,g3⟩:=hx i hi;exact JS g1 g3)
  subst hl;exact⟨_,l,cap,rfl,h2,fun _=>⟨b,off,rfl,hb,hp⟩⟩
 {obtain rfl:len=0:=by{omega};exact⟨a,[],cap,rfl,by simp,fun h=>zcc h (by simp)⟩}
theorem Qr (h:DataW.trod enc Tryz.prog w base spare held fuel 160 cs=some x){b o:Nat}(hc:∀ j,j<5->w.cell? (a_ b (o+j))=cs[j]?):∃ n:az,aK w b o n:=by
 obtain⟨_,_,f0⟩:=cW Tryz.underlying160 h 0 rfl kz;obtain⟨_,_,f1⟩:=cW Tryz.underlying160 h 1 rfl kz;obtain⟨_,_,f2⟩:=cW Tryz.underlying160 h 2 rfl kz;obtain⟨_,_,f3⟩:=cW Tryz.underlying160 h 3 rfl kz;obtain⟨_,_,f4⟩:=cW Tryz.underlying160 h 4 rfl kz;obtain⟨op,e0,_⟩:=DataW.trod_int Tryz.underlying3 f0;obtain⟨fa,e1,_⟩:=DataW.trod_int Tryz.underlying3 f1;obtain⟨fb,e2,_⟩:=DataW.trod_int Tryz.underlying3 f2;obtain⟨fc,e3,_⟩:=DataW.trod_int Tryz.underlying3 f3;obtain⟨fd,e4,_⟩:=DataW.trod_int Tryz.underlying3 f4;exact⟨⟨op,fa,fb,fc,fd⟩,
  {op:=(hc 0 (by decide)).trans (cV e0),fa:=(hc 1 (by decide)).trans (cV e1),fb:=(hc 2 (by decide)).trans (cV e2),fc:=(hc 3 (by decide)).trans (cV e3),fd:=(hc 4 (by decide)).trans (cV e4) }⟩
theorem Mi (h:DataW.trod enc Tryz.prog w base spare held fuel 60 cs=some x):∃(a:o_)(l:List az)(c:Nat),cs=[.slice a l.length c]/\bN w (Ni w) a l:=by
 obtain⟨a,len,cap,rfl,h1,h2,h3⟩:=mR Tryz.underlying60 Up (by decide) h;by_cases h0:0<len
 ·obtain⟨b,off,rfl,hb,hx⟩:=h3 h0;obtain⟨l,hl,hp⟩:=qm az.z (n:=len) (p:=fun i z=>aK w b (off+i * 5) z) (fun i hi=>by
   obtain⟨n,L7,y,g1,g2,g3⟩:=hx i hi;exact Qr g1 g3)
  subst hl;exact⟨_,l,cap,rfl,h2,fun _=>⟨b,off,rfl,hb,hp⟩⟩
 {obtain rfl:len=0:=by{omega};exact⟨a,[],cap,rfl,by simp,fun h=>zcc h (by simp)⟩}
theorem Jy (h:DataW.trod enc Tryz.prog w base spare held fuel 145 cs=some x){b o:Nat}(hc:∀ j,j<4->w.cell? (a_ b (o+j))=cs[j]?):∃ n:bB,lm w b o n:=by
 obtain⟨_,_,f0⟩:=cW Tryz.underlying145 h 0 rfl uM;obtain⟨_,_,f1⟩:=cW Tryz.underlying145 h 1 rfl kz;obtain⟨_,_,f2⟩:=cW Tryz.underlying145 h 2 rfl kz;obtain⟨_,_,f3⟩:=cW Tryz.underlying145 h 3 rfl kz;obtain⟨name,e0,_,hs⟩:=DataW.trod_string Tryz.underlying9 f0;obtain⟨reg,e1,_⟩:=DataW.trod_int Tryz.underlying3 f1;obtain⟨fro,e2,_⟩:=DataW.trod_int Tryz.underlying3 f2;obtain⟨til,e3,_⟩:=DataW.trod_int Tryz.underlying3 f3;exact⟨⟨name,reg,fro,til⟩,
  {names:=hs,name:=(hc 0 (by decide)).trans (cV e0),reg:=(hc 1 (by decide)).trans (cV e1),fro:=(hc 2 (by decide)).trans (cV e2),til:=(hc 3 (by decide)).trans (cV e3) }⟩
theorem GU (h:DataW.trod enc Tryz.prog w base spare held fuel 61 cs=some x):∃(a:o_)(l:List bB)(c:Nat),cs=[.slice a l.length c]/\da w (Ni w) a l:=by
 obtain⟨a,len,cap,rfl,h1,h2,h3⟩:=mR Tryz.underlying61 Ms (by decide) h;by_cases h0:0<len
 ·obtain⟨b,off,rfl,hb,hx⟩:=h3 h0;obtain⟨l,hl,hp⟩:=qm bB.z (n:=len) (p:=fun i z=>lm w b (off+i * 4) z) (fun i hi=>by
   obtain⟨n,L7,y,g1,g2,g3⟩:=hx i hi;exact Jy g1 g3)
  subst hl;exact⟨_,l,cap,rfl,h2,fun _=>⟨b,off,rfl,hb,hp⟩⟩
 {obtain rfl:len=0:=by{omega};exact⟨a,[],cap,rfl,by simp,fun h=>zcc h (by simp)⟩}
theorem JC (h:DataW.trod enc Tryz.prog w base spare held fuel 63 cs=some x){b o:Nat}(hc:∀ j,j<9->w.cell? (a_ b (o+j))=cs[j]?):∃ n:aj,aT w (Ni w) b o n:=by
 obtain⟨_,_,f0⟩:=cW Tryz.underlying63 h 0 rfl uM;obtain⟨_,_,f1⟩:=cW Tryz.underlying63 h 1 rfl kz;obtain⟨_,_,f2⟩:=cW Tryz.underlying63 h 2 rfl kz;obtain⟨_,_,f3⟩:=cW Tryz.underlying63 h 3 rfl I4;obtain⟨_,_,f4⟩:=cW Tryz.underlying63 h 4 rfl kz;obtain⟨_,_,f5⟩:=cW Tryz.underlying63 h 5 rfl Uq;obtain⟨_,_,f6⟩:=cW Tryz.underlying63 h 6 rfl JX;obtain⟨_,_,f7⟩:=cW Tryz.underlying63 h 7 rfl Qi;obtain⟨_,_,f8⟩:=cW Tryz.underlying63 h 8 rfl Jf;obtain⟨name,e0,_,hs⟩:=DataW.trod_string Tryz.underlying9 f0;obtain⟨line,e1,_⟩:=DataW.trod_int Tryz.underlying3 f1;obtain⟨params,e2,_⟩:=DataW.trod_int Tryz.underlying3 f2;obtain⟨rest,e3,_⟩:=DataW.trod_bool Tryz.underlying4 f3;obtain⟨regs,e4,_⟩:=DataW.trod_int Tryz.underlying3 f4;obtain⟨a5,ups,c5,e5,h5⟩:=Qz f5;obtain⟨a6,consts,c6,e6,h6⟩:=FZ f6;obtain⟨a7,ins,c7,e7,h7⟩:=Mi f7;obtain⟨a8,named,c8,e8,h8⟩:=GU f8;exact⟨⟨name,line,params,rest,regs,ups,consts,ins,named⟩,
  {names:=hs,name:=(hc 0 (by decide)).trans (cV e0),f:=(hc 1 (by decide)).trans (cV e1),l:=(hc 2 (by decide)).trans (cV e2),e:=(hc 3 (by decide)).trans (cV e3),m:=(hc 4 (by decide)).trans (cV e4),s:=⟨a5,c5,(hc 5 (by decide)).trans (cV e5),h5⟩,k:=⟨a6,c6,(hc 6 (by decide)).trans (cV e6),h6⟩,u:=⟨a7,c7,(hc 7 (by decide)).trans (cV e7),h7⟩,g:=⟨a8,c8,(hc 8 (by decide)).trans (cV e8),h8⟩ }⟩
theorem GZ (h:DataW.trod enc Tryz.prog w base spare held fuel 22 cs=some x):∃(a:o_)(l:List aj)(c:Nat),cs=[.slice a l.length c]/\am w (Ni w) a l:=by
 obtain⟨a,len,cap,rfl,h1,h2,h3⟩:=mR Tryz.underlying22 Ml (by decide) h;by_cases h0:0<len
 ·obtain⟨b,off,rfl,hb,hx⟩:=h3 h0;obtain⟨l,hl,hp⟩:=qm aj.z (n:=len) (p:=fun i z=>aT w (Ni w) b (off+i * 9) z) (fun i hi=>by
   obtain⟨n,L7,y,g1,g2,g3⟩:=hx i hi;exact JC g1 g3)
  subst hl;exact⟨_,l,cap,rfl,h2,fun _=>⟨b,off,rfl,hb,hp⟩⟩
 {obtain rfl:len=0:=by{omega};exact⟨a,[],cap,rfl,by simp,fun h=>zcc h (by simp)⟩}
end
end Go.Proofs.YtcjfjflljdojlaaGreatDoor
namespace Go.Proofs.YtcjfjflljdojlaaGreatDoor
open Go.RowKit
theorem aM {T:Nat}{z:Value}{s b:Nat}(h:(Tryz.prog.info? T).map (fun i=>(i.zero,i.size,i.bytes))=some (some z,s,b)):∃ i0,Tryz.prog.info? T=some i0/\i0.zero=some z/\i0.size=s/\i0.bytes=b:=by
 cases e:Tryz.prog.info? T with
 | none=>rw[e]at h;cases h
 | some i=>
  rw[e]at h;simp only[Option.map_some,Option.some.injEq,Prod.mk.injEq]at h;exact⟨i,rfl,h.1,h.2.1,h.2.2⟩
theorem dR:(Tryz.prog.info? 3).map (fun i=>(i.zero,i.size,i.bytes))=some (some (i_ 0),1,8):=by kernel_rfl
theorem fA:(Tryz.prog.info? 154).map (fun i=>(i.zero,i.size,i.bytes))=some (some (.agg #[.bool false,i_ 0,i_ 0]),3,24):=by kernel_rfl
def ao (w:w_)(base:Nat)(v:Value)(t:List Int):Prop:=w.ownsRow base 3 1 v t.length (t.map (Value.int .i64))
theorem ao.push {w:w_}{base:Nat}{v:Value}{t:List Int}{x:Int}(h:w.ownsRow base 3 1 v (t.length+1) (t.map (Value.int .i64)++[i_ x])):ao w base v (t++[x]):=by
 unfold ao;rw[zad,List.map_append];exact h
theorem qT {α:Type}(l:List α)(k:Nat)(d:α)(h:k<l.length):l.take (k+1)=l.take k++[l[k]?.getD d]:=by
 rw[List.take_succ_eq_append_getElem h,g_ h];rfl
structure og (w:w_)(b o:Nat)(n:bc):Prop where
 tr:w.cell? (a_ b o)=some (.bool n.tr)
 keep:w.cell? (a_ b (o+1))=some (i_ n.keep)
 hand:w.cell? (a_ b (o+2))=some (i_ n.hand)
def bw (w:w_)(S:Nat->Prop)(a:o_)(l:List bc):Prop:=
 l.length<=9223372036854775807/\(0<l.length->∃ b off,a=some (a_ b off)/\S b/\∀ j,j<l.length->og w b (off+j * 3) (l[j]?.getD bc.z))
theorem og.same {w w':w_}{S:Nat->Prop}{b o:Nat}{n:bc}(h:og w b o n)(hb:cH S w w')(hs:S b):og w' b o n:=
 ⟨(hb.cell hs _).trans h.tr,(hb.cell hs _).trans h.keep,(hb.cell hs _).trans h.hand⟩
theorem bw.same {w w':w_}{S:Nat->Prop}{a:o_}{l:List bc}(h:bw w S a l)(hb:cH S w w'):bw w' S a l:=
 ⟨h.1,fun h0=>by
  obtain⟨b,off,e,hs,hc⟩:=h.2 h0;exact⟨b,off,e,hs,fun j hj=>(hc j hj).same hb hs⟩⟩
theorem bw.keep {w w':w_}{S:Nat->Prop}{a:o_}{l:List bc}{B:Nat}(h:bw w S a l)(hb:Below B w w')(hS:∀ b,S b->b<B):bw w' S a l:=h.same (.of_below hb hS)
def pU (g:bc):List Value:=[.bool g.tr,i_ g.keep,i_ g.hand]
def cd (w:w_)(base:Nat)(v:Value)(t:List bc):Prop:=w.ownsRow base 154 3 v t.length (t.flatMap pU)
theorem cd.push {w:w_}{base:Nat}{v:Value}{t:List bc}{x:bc}(h:w.ownsRow base 154 3 v (t.length+1) (t.flatMap pU++pU x)):cd w base v (t++[x]):=by
 unfold cd;rw[zad,List.flatMap_append];simpa using h
theorem lW (a:o_)(l:List Int)(c:Nat)(S:Nat->Prop)(w:w_)(hs:aQ w S a l)(hB:∀ b,S b->b<w.heap.size)(hl:l.length<=1048576) :
  c_ 57 #[.slice a l.length c] w fun e w'=>∃ v,e=.returned v/\ao w' w.heap.size v l/\b_ w w':=by
 have hn:=hs.1;obtain⟨i0,hi,dE,cS,dA⟩:=aM dR;go_enter Tryz.func57,Tryz.ntmps57;go_wp2
 go_loopg [3,8] l.length (fun g v i wr=>∃(k:Nat),k+g=l.length/\i=i_ k/\ao wr w.heap.size v (l.take k)/\b_ w wr);(case atStart=>exact⟨0,by omega,rfl,zbh _ _ _ _,r_⟩);case round=>
  obtain⟨k,hk,rfl,bb,hb⟩:=hrel;by_cases au:k<l.length
  ·obtain⟨b,off,rfl,jA,aC⟩:=(hs.keep hb hB).2 (by omega);have hc:=aC k au;have Tu:=af (qT l k 0 au);have Ld:H_ ((l.take k).length<=1048576):=by show _<=_;simp;omega
   clear aC;generalize l[k]?.getD 0=x at *;generalize l.take k=t at *;have mI:=af bb;have HB:=af hb;have kN:=hb.size;clear bb hb;go_wp2_with (first
    | (at_builtin;refine zce _ rfl _ _ 70 rfl w.heap.size 3 i0 (i_ 0) 1 8 Tryz.underlying70 hi dE cS dA rfl (by decide) _ _ _ rfl ((aa mI).alloc _) (a_ wr.heap.size 0) 1 1 [i_ x] rfl rfl ?c1 ?c2 ?c3 ?c4 ?c5 ?_)
    | go_in)
   case c1=>
    intro j u hj
    match j,hj with
    | 0,hj=>simp at hj;subst hj;simp[Addr.add]
   (case c2=>intro u hu;simp at hu;subst hu;rfl);(case c3=>have:=Ld.o;unfold maxLen;omega);(case c4=>have:=Ld.o;omega);(case c5=>simp;omega);intro v' w1 di hgrow _;have R1:H_ (ao w1 w.heap.size v' (l.take (k+1))):=by{show ao _ _ _ _;rw[Tu.o];exact ao.push di};have R2:H_ (b_ w w1):=((aa HB).alloc kN _).grown hgrow (by simp;omega) (fun j hj=>((aa mI).lt j hj).1);clear di hgrow;go_wp2;go_roundg (l.length-(k+1));(case measure=>omega);case rel=>exact⟨k+1,by omega,by go_num,aa R1,aa R2⟩
  {have iJ:l.take k=l:=List.take_of_length_le (by omega);rw[iJ]at bb;go_wp2;go_ret;exact⟨_,rfl,bb,hb⟩}
theorem eU (a:o_)(l:List bc)(c:Nat)(S:Nat->Prop)(w:w_)(hs:bw w S a l)(hB:∀ b,S b->b<w.heap.size)(hl:l.length<=1048576) :
  c_ 63 #[.slice a l.length c] w fun e w'=>∃ v,e=.returned v/\cd w' w.heap.size v l/\b_ w w':=by
 have hn:=hs.1;obtain⟨i0,hi,dE,cS,dA⟩:=aM fA;go_enter Tryz.func63,Tryz.ntmps63;go_wp2
 go_loopg [3,8] l.length (fun g v i wr=>∃(k:Nat),k+g=l.length/\i=i_ k/\cd wr w.heap.size v (l.take k)/\b_ w wr);(case atStart=>exact⟨0,by omega,rfl,zbh _ _ _ _,r_⟩);case round=>
  obtain⟨k,hk,rfl,bb,hb⟩:=hrel;by_cases au:k<l.length
  ·obtain⟨b,off,rfl,jA,aC⟩:=(hs.keep hb hB).2 (by omega);have hc:=aC k au;have Tu:=af (qT l k bc.z au);have Ld:H_ ((l.take k).length<=1048576):=by show _<=_;simp;omega
   clear aC;generalize l[k]?.getD bc.z=x at *;generalize l.take k=t at *;have mI:=af bb;have HB:=af hb;have kN:=hb.size;clear bb hb;have d0:=hc.tr;have d1:=hc.keep;have d2:=hc.hand;clear hc;obtain⟨xt,xk,xh⟩:=x;simp only at *;go_wp2_with (first
    | (at_builtin;refine zce _ rfl _ _ 95 rfl w.heap.size 154 i0 (.agg #[.bool false,i_ 0,i_ 0]) 3 24 Tryz.underlying95 hi dE cS dA rfl (by decide) _ _ _ rfl (((aa mI).alloc _).alloc _) (a_ (wr.heap.size+1) 0) 1 1 [.bool xt,i_ xk,i_ xh] rfl rfl ?c1 ?c2 ?c3 ?c4 ?c5 ?_)
    | go_in)
   case c1=>
    intro j u hj
    match j,hj with
    | 0,hj=>simp at hj;subst hj;simp[Addr.add,go_sem]
    | 1,hj=>simp at hj;subst hj;simp[Addr.add,go_sem]
    | 2,hj=>simp at hj;subst hj;simp[Addr.add,go_sem]
    | n+3,hj=>simp at hj
   (case c2=>intro u hu;simp at hu;rcases hu with rfl | rfl | rfl<;>rfl);(case c3=>have:=Ld.o;unfold maxLen;omega);(case c4=>have:=Ld.o;omega);(case c5=>simp;omega);intro v' w1 di hgrow _;have R1:H_ (cd w1 w.heap.size v' (l.take (k+1))):=by{show cd _ _ _ _;rw[Tu.o];exact cd.push di};have R2:H_ (b_ w w1):=(((aa HB).alloc kN _).alloc (by simp;omega) _).grown hgrow (by simp;omega) (fun j hj=>((aa mI).lt j hj).1);clear di hgrow;go_wp2;go_roundg (l.length-(k+1));(case measure=>omega);case rel=>exact⟨k+1,by omega,by go_num,aa R1,aa R2⟩
  {have iJ:l.take k=l:=List.take_of_length_le (by omega);rw[iJ]at bb;go_wp2;go_ret;exact⟨_,rfl,bb,hb⟩}
end Go.Proofs.YtcjfjflljdojlaaGreatDoor
