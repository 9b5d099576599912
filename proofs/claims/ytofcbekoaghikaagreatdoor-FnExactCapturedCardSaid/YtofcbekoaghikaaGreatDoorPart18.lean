import Derived.Test.YtofcbekoaghikaaGreatDoorPart17
set_option linter.unusedSimpArgs false
set_option linter.unusedVariables false
set_option maxHeartbeats 8000000
namespace Go.Proofs.YtofcbekoaghikaaGreatDoor
open Go.RowKit
def lexle (c f n c' f' n':Int):Prop:=c<c'\/c=c'/\(f<f'\/f=f'/\n<=n')
def Least (F:Int->Int->Int->Prop)(s:VS):Prop:=
 (s.lc=0/\s.lf=0/\s.ln=0/\∀ c f n,¬F c f n)\/(s.lc≠0/\F s.lc s.lf s.ln/\∀ c f n,F c f n->lexle s.lc s.lf s.ln c f n)
theorem Least.congr {F G:Int->Int->Int->Prop}{s s':VS}(h:Least F s)(e:∀ c f n,G c f n↔F c f n)(h1:s'.lc=s.lc)(h2:s'.lf=s.lf)(h3:s'.ln=s.ln):Least G s':=by
 unfold Least at *;rw[h1,h2,h3];rcases h with⟨a,b,c,d⟩ | ⟨a,b,d⟩
 ·exact .inl ⟨a,b,c,fun x y z=>by rw[e];exact d x y z⟩
 ·exact .inr ⟨a,(e _ _ _).2 b,fun x y z h=>d x y z ((e _ _ _).1 h)⟩
theorem tell_order {c f n c' f' n':Int}:or3 (cmp3 c c') (cmp3 f f') (cmp3 n n')<0↔c<c'\/c=c'/\(f<f'\/f=f'/\n<n'):=by
 unfold or3 cmp3
 repeat' split
 all_goals omega
theorem Least.tell {C:VC}{F:Int->Int->Int->Prop}{s:VS}(h:Least F s){c:Int}(hc:c≠0)(n:Int):Least (fun c' f' n'=>F c' f' n'\/(c'=c/\f'=C.f/\n'=n)) (tellS C s c n):=by
 unfold tellS;split
 ·rename_i q;refine .inr ⟨hc,.inr ⟨rfl,rfl,rfl⟩,fun x y z hxyz=>?_⟩;rcases hxyz with hF | ⟨rfl,rfl,rfl⟩
  ·rcases h with⟨_,_,_,d⟩ | ⟨a,b,d⟩
   ·exact absurd hF (d x y z)
   ·have h1:=d x y z hF;rcases q with q | q
    ·exact absurd q a
    ·rw[tell_order]at q;unfold lexle at h1 ⊢;simp only;omega
  ·unfold lexle;simp
 ·rename_i q;rw[not_or,tell_order]at q;rcases h with⟨a,_⟩ | ⟨a,b,d⟩
  ·exact absurd a q.1
  ·refine .inr ⟨a,.inl b,fun x y z hxyz=>?_⟩;rcases hxyz with hF | ⟨rfl,rfl,rfl⟩
   ·exact d x y z hF
   ·have:=q.2;unfold lexle;omega
def bodyKind (k:Int):Bool:=k==6||k==7||k==8||k==12
structure Cx where
 cnt:Nat->Nat->Int
 lps:Nat->Int
 dpt:Nat->Int
def Cx.st (K:Cx)(p:Nat):VS:=⟨K.cnt p,K.lps p,K.dpt p,0,0,0⟩
def kidN (C:VC)(n i:Nat):Nat:=(kidI (nd C.x.nodes n) i).toNat
def kindN (C:VC)(n:Nat):Int:=(nd C.x.nodes n).kind
def nkidN (C:VC)(n:Nat):Nat:=(nd C.x.nodes n).kids.length
def refsN (C:VC)(n:Nat):List Int:=(nd C.x.nodes n).refs
def letOf (C:VC)(n v:Nat):Int:=if kindN C n=2 then cntTo (refsN C n) (refsN C n).length v else 0
def letSum (C:VC)(n:Nat):Nat->Nat->Int
 | 0,_=>0
 | i+1,v=>letSum C n i v+letOf C (kidN C n i) v
structure CxOk (C:VC)(K:Cx):Prop where
 len:C.x.nodes.length<=3000
 kid:∀ n i,n<C.x.nodes.length->i<nkidN C n->kidI (nd C.x.nodes n) i=(kidN C n i:Int)/\kidN C n i<n
 refs:∀ n,n<C.x.nodes.length->(refsN C n).length<=1048576
 nkid:∀ n,n<C.x.nodes.length->nkidN C n<=200
 cnt0:∀ n v,n<C.x.nodes.length->v<C.x.vars.length->0<=K.cnt n v/\K.cnt n v<=288230376151711744
 dpt0:∀ n,n<C.x.nodes.length->0<=K.dpt n/\K.dpt n<=10000
 lps0:∀ n,n<C.x.nodes.length->0<=K.lps n/\K.lps n<=10000
 dk:∀ n i,n<C.x.nodes.length->i<nkidN C n->K.dpt (kidN C n i)=K.dpt n+1
 ck:∀ n i v,n<C.x.nodes.length->i<nkidN C n->bodyKind (kindN C n)=false->v<C.x.vars.length->K.cnt (kidN C n i) v=K.cnt n v+letSum C n i v
 lk:∀ n i,n<C.x.nodes.length->i<nkidN C n->bodyKind (kindN C n)=false->K.lps (kidN C n i)=K.lps n
 cb:∀ n i v,n<C.x.nodes.length->i+1<nkidN C n->bodyKind (kindN C n)=true->v<C.x.vars.length->K.cnt (kidN C n i) v=K.cnt n v
 lb:∀ n i,n<C.x.nodes.length->i+1<nkidN C n->bodyKind (kindN C n)=true->K.lps (kidN C n i)=K.lps n
 cl:∀ n i v,n<C.x.nodes.length->i+1=nkidN C n->bodyKind (kindN C n)=true->v<C.x.vars.length->K.cnt (kidN C n i) v=K.cnt n v+cntTo (refsN C n) (refsN C n).length v
 ll:∀ n i,n<C.x.nodes.length->i+1=nkidN C n->bodyKind (kindN C n)=true->K.lps (kidN C n i)=K.lps n+(if kindN C n=12 then 0 else 1)
 nl:∀ n i,n<C.x.nodes.length->i<nkidN C n->kindN C n≠1->kindN C (kidN C n i)≠2
 bk:∀ n,n<C.x.nodes.length->bodyKind (kindN C n)=true->0<nkidN C n
 one:∀ n,n<C.x.nodes.length->(kindN C n=26\/kindN C n=27\/kindN C n=36)->0<(refsN C n).length
 leaf:∀ n,n<C.x.nodes.length->(kindN C n=9\/kindN C n=10\/kindN C n=26\/kindN C n=27\/kindN C n=36\/kindN C n=37)->nkidN C n=0
 made:∀ n,n<C.x.nodes.length->kindN C n=36->∃ f' n',C.M (ref0 (nd C.x.nodes n))=some (siteV f' n')
def bad (C:VC)(K:Cx)(c:Int)(p:Nat):Prop:=
 (c=5/\100<K.dpt p) \/
 (c=7/\(kindN C p=9\/kindN C p=10)/\K.lps p=0) \/
 (c=6/\kindN C p=26/\inSc C (K.st p) (ref0 (nd C.x.nodes p))=false) \/
 (c=6/\kindN C p=27/\inR (ref0 (nd C.x.nodes p)) 0 ((C.x.ups.length:Int)-1)=false) \/
 (c=8/\kindN C p=37/\C.x.rest=false) \/
 (c=6/\kindN C p=36/\inR (ref0 (nd C.x.nodes p)) 0 ((C.l.length:Int)-1)=false) \/
 (c=8/\kindN C p=36/\inR (ref0 (nd C.x.nodes p)) 0 ((C.l.length:Int)-1)=true/\∃ f' n',C.M (ref0 (nd C.x.nodes p))=some (siteV f' n') /\
  (ref0 (nd C.x.nodes p)<=C.f\/¬(f'=C.f/\n'=p)\/upsFits C (K.st p) (fnD C.l (ref0 (nd C.x.nodes p)).toNat).ups=false))
def SubN (C:VC):Nat->Nat->Nat->Prop
 | 0,n,p=>n=p
 | d+1,n,p=>n=p\/∃ i,i<nkidN C n/\SubN C d (kidN C n i) p
def Sub (C:VC)(n p:Nat):Prop:=∃ d,SubN C d n p
theorem Sub.self {C:VC}(n:Nat):Sub C n n:=⟨0,rfl⟩
theorem Sub.kid {C:VC}(n i p:Nat)(hi:i<nkidN C n)(h:Sub C (kidN C n i) p):Sub C n p:=by
 obtain⟨d,hd⟩:=h;exact⟨d+1,.inr ⟨i,hi,hd⟩⟩
theorem Sub.inv {C:VC}{n p:Nat}(h:Sub C n p):n=p\/∃ i,i<nkidN C n/\Sub C (kidN C n i) p:=by
 obtain⟨d,hd⟩:=h;cases d with
 | zero=>exact .inl hd
 | succ d=>
  rcases hd with hd | ⟨i,hi,hd⟩
  ·exact .inl hd
  ·exact .inr ⟨i,hi,d,hd⟩
def Tr (C:VC)(K:Cx)(n:Nat)(c f p:Int):Prop:=f=C.f/\∃ q:Nat,p=q/\Sub C n q/\bad C K c q
def TrK (C:VC)(K:Cx)(n i:Nat)(c f p:Int):Prop:=∃ j,j<i/\j<nkidN C n/\Tr C K (kidN C n j) c f p
def Own (C:VC)(K:Cx)(n:Nat)(c f p:Int):Prop:=f=C.f/\p=n/\c≠5/\bad C K c n
theorem tr_split {C:VC}{K:Cx}{n:Nat}{c f p:Int}:Tr C K n c f p↔(c=5/\f=C.f/\p=n/\100<K.dpt n)\/Own C K n c f p\/TrK C K n (nkidN C n) c f p:=by
 constructor
 ·rintro⟨rfl,q,rfl,hs,hb⟩;rcases hs.inv with rfl | ⟨i,hi,h⟩
  ·by_cases h5:c=5
   ·subst h5;refine .inl ⟨rfl,rfl,rfl,?_⟩;rcases hb with⟨_,h⟩ | ⟨h,_⟩ | ⟨h,_⟩ | ⟨h,_⟩ | ⟨h,_⟩ | ⟨h,_⟩ | ⟨h,_⟩
    ·exact h
    all_goals exact absurd h (by omega)
   ·exact .inr (.inl ⟨rfl,rfl,h5,hb⟩)
  ·exact .inr (.inr ⟨i,hi,hi,rfl,q,rfl,h,hb⟩)
 ·rintro(⟨rfl,rfl,rfl,h⟩ | ⟨rfl,rfl,_,h⟩ | ⟨j,_,hj,rfl,q,rfl,h,hb⟩)
  ·exact⟨rfl,n,rfl,.self n,.inl ⟨rfl,h⟩⟩
  ·exact⟨rfl,n,rfl,.self n,h⟩
  ·exact⟨rfl,q,rfl,.kid n j q hj h,hb⟩
structure Ahead (C:VC)(s:VS)(sc:Nat->Int)(lo dp:Int):Prop where
 sc:∀ v,v<C.x.vars.length->s.sc v=sc v
 lo:s.lo=lo
 dp:s.dp=dp
def VisitOk (C:VC)(K:Cx)(n:Nat):Prop:=
 ∀(s:VS) (w:World) (F:Int->Int->Int->Prop),Vis C s w->Ahead C s (K.cnt n) (K.lps n) (K.dpt n)->Least F s ->
  Calls Tryz.prog 73 #[.pointer (some ⟨C.vb,0,none⟩),.int .i64 n] w fun e w'=>e=.returned (.tuple #[])/\∃ s',Vis C s' w' /\
   Ahead C s' (fun v=>K.cnt n v+letOf C n v) (K.lps n) (K.dpt n)/\Least (fun c f p=>F c f p\/Tr C K n c f p) s'/\ButS C.T w.heap.size w w'
theorem letOf_bd {C:VC}{K:Cx}(h:CxOk C K){n:Nat}(hn:n<C.x.nodes.length)(v:Nat):0<=letOf C n v/\letOf C n v<=1048576:=by
 unfold letOf;have h1:=cntTo_bd (refsN C n) (refsN C n).length v;have h2:=h.refs n hn;split<;>omega
theorem letSum_bd {C:VC}{K:Cx}(h:CxOk C K){n:Nat}(hn:n<C.x.nodes.length)(v:Nat):∀ i,i<=nkidN C n->0<=letSum C n i v/\letSum C n i v<=1048576 * i
 | 0,_=>⟨Int.le_refl _,Int.le_refl _⟩
 | i+1,hi=>by
  have h1:=letSum_bd h hn v i (by omega);have hk:=h.kid n i hn (by omega);have h2:=letOf_bd h (n:=kidN C n i) (by omega) v;unfold letSum;omega
theorem kids_any (C:VC)(K:Cx)(hK:CxOk C K)(n:Nat)(hn:n<C.x.nodes.length)(hbk:bodyKind (kindN C n)=false)(IH:∀ m,m<n->VisitOk C K m)
  (s:VS)(w:World)(F:Int->Int->Int->Prop)(hV:Vis C s w)(hA:Ahead C s (K.cnt n) (K.lps n) (K.dpt n+1))(hL:Least F s) :
  Calls Tryz.prog 99 #[.pointer (some ⟨C.vb,0,none⟩),.int .i64 n] w fun e w'=>e=.returned (.tuple #[])/\∃ s',Vis C s' w' /\
   Ahead C s' (fun v=>K.cnt n v+letSum C n (nkidN C n) v) (K.lps n) (K.dpt n+1)/\Least (fun c f p=>F c f p\/TrK C K n (nkidN C n) c f p) s'/\ButS C.T w.heap.size w w':=by
 obtain⟨b,off,hna,hb,N⟩:=hV.node hn;obtain⟨ka,kc,hkf,hkI⟩:=N.kids;have c8:=hV.c8;rw[hna]at c8;have hnl:=hV.nodes.1;have HI:=hide hkI;have HKK:=hide hK;have HIH:=hide IH;have SSS:Hid (∀ b,C.S b->b<w.heap.size/\¬C.T b):=hV.sS;have ST:Hid (∃ s',Vis C s' w/\Ahead C s' (fun v=>K.cnt n v+letSum C n 0 v) (K.lps n) (K.dpt n+1)/\Least (fun c f p=>F c f p\/TrK C K n 0 c f p) s'):=
  ⟨s,hV,⟨fun v hv=>by rw[hA.sc v hv];simp[letSum],hA.lo,hA.dp⟩,hL.congr (fun c f p=>⟨fun h=>h.elim id (fun⟨j,h,_⟩=>absurd h (Nat.not_lt_zero _)),.inl⟩) rfl rfl rfl⟩
 have hlenk:=hkI.1;clear N hV hA hL hkI hK IH;have EK:Hid (nkidN C n=(nd C.x.nodes n).kids.length):=rfl;have hkid:Hid (∀ i,i<nkidN C n->(nd C.x.nodes n).kids[i]?.getD 0=(kidN C n i:Int)/\kidN C n i<n):=fun i hi=>(unhide HKK).kid n i hn hi;generalize (nd C.x.nodes n).kids=kids at *;rw[EK.out];rw[EK.out]at hkid;go_enter Tryz.func99,Tryz.ntmps99;go_wp2_with fail
 go_loopg [16] kids.length (fun g i wr=>∃(k:Nat),k+g=kids.length/\i=.int .i64 k/\ButS C.T w.heap.size w wr/\∃ s',Vis C s' wr/\Ahead C s' (fun v=>K.cnt n v+letSum C n k v) (K.lps n) (K.dpt n+1)/\Least (fun c f p=>F c f p\/TrK C K n k c f p) s')
 case atStart=>exact⟨0,by omega,rfl,ButS.refl _ _ _,unhide ST⟩
 case round=>
  clear ST;obtain⟨k,hk,rfl,hb1,s1,hV1,hA1,hL1⟩:=hrel;by_cases hlt:k<kids.length
  ·obtain⟨b2,off2,rfl,hb2,hc2⟩:=((unhide HI).same (hb1.same (unhide SSS))).2 (by omega);have hki:=hc2 k hlt;obtain⟨e1,e2⟩:=unhide hkid k hlt;rw[e1]at hki;clear hc2 e1;have hkn:k<nkidN C n:=by rw[EK.out];exact hlt
   have CALL:Hid (Calls Tryz.prog 73 #[.pointer (some ⟨C.vb,0,none⟩),.int .i64 (kidN C n k)] wr fun e w'=>e=.returned (.tuple #[])/\∃ s',Vis C s' w'/\Ahead C s' (fun v=>K.cnt n v+letSum C n (k+1) v) (K.lps n) (K.dpt n+1)/\Least (fun c f p=>F c f p\/TrK C K n (k+1) c f p) s'/\ButS C.T wr.heap.size wr w'):=by
    have hKK:=unhide HKK;refine(unhide HIH _ e2 s1 wr _ hV1 ⟨fun v hv=>?_,?_,?_⟩ hL1).mono ?_
    ·rw[hA1.sc v hv,hKK.ck n k v hn hkn hbk hv]
    ·rw[hA1.lo,hKK.lk n k hn hkn hbk]
    ·rw[hA1.dp,hKK.dk n k hn hkn]
    ·rintro e w' ⟨rfl,s2,hV2,hA2,hL2,hB2⟩;refine⟨rfl,s2,hV2,⟨fun v hv=>?_,?_,?_⟩,hL2.congr (fun c f p=>?_) rfl rfl rfl,hB2⟩
     ·rw[hA2.sc v hv];show K.cnt (kidN C n k) v+letOf C (kidN C n k) v=K.cnt n v+(letSum C n k v+letOf C (kidN C n k) v);rw[hKK.ck n k v hn hkn hbk hv];omega
     ·rw[hA2.lo,hKK.lk n k hn hkn hbk]
     ·rw[hA2.dp,hKK.dk n k hn hkn]
     ·constructor
      ·rintro(h | ⟨j,h1,h2,h3⟩)
       ·exact .inl (.inl h)
       ·by_cases e:j=k
        ·subst e;exact .inr h3
        ·exact .inl (.inr ⟨j,by omega,h2,h3⟩)
      ·rintro((h | ⟨j,h1,h2,h3⟩) | h)
       ·exact .inl h
       ·exact .inr ⟨j,by omega,h2,h3⟩
       ·exact .inr ⟨k,by omega,hkn,h⟩
   clear hA1 hL1 hV1;generalize kidN C n k=m at *;go_wp2_with fail
   refine(unhide CALL).mono ?_;rintro e w2 ⟨rfl,hS2⟩;obtain⟨s2,hV2,hA2,hL2,hB2⟩:=hS2;go_wp2_with fail
   go_roundg (kids.length-(k+1))
   case measure=>omega
   case rel=>exact⟨k+1,by omega,by go_num,hb1.next hB2,s2,hV2,hA2,hL2⟩
  ·have:k=kids.length:=by omega
   subst this;go_wp2_with fail
   go_end0
   exact⟨rfl,s1,hV1,hA1,hL1,hb1⟩
def StepPost (C:VC)(K:Cx)(n:Nat)(F:Int->Int->Int->Prop)(w:World)(e:Ending)(w':World):Prop:=
 e=.returned (.tuple #[])/\∃ s',Vis C s' w'/\Ahead C s' (fun v=>K.cnt n v+letOf C n v) (K.lps n) (K.dpt n+1)/\Least (fun c f p=>F c f p\/Own C K n c f p\/TrK C K n (nkidN C n) c f p) s'/\ButS C.T w.heap.size w w'
def plainKind (k:Int):Prop:=k≠9/\k≠10/\k≠26/\k≠27/\k≠36/\k≠37
theorem own_plain {C:VC}{K:Cx}{n:Nat}(h:plainKind (kindN C n)){c f p:Int}:¬Own C K n c f p:=by
 obtain⟨h1,h2,h3,h4,h5,h6⟩:=h;rintro⟨_,_,h7,hb⟩;rcases hb with⟨h,_⟩ | ⟨_,h,_⟩ | ⟨_,h,_⟩ | ⟨_,h,_⟩ | ⟨_,h,_⟩ | ⟨_,h,_⟩ | ⟨_,h,_⟩
 ·exact h7 h
 ·exact h.elim h1 h2
 ·exact h3 h
 ·exact h4 h
 ·exact h6 h
 ·exact h5 h
 ·exact h5 h
theorem plain_least {C:VC}{K:Cx}{n:Nat}{F G:Int->Int->Int->Prop}{s s':VS}(hp:plainKind (kindN C n))(h:Least (fun c f p=>F c f p\/G c f p) s)(h1:s'.lc=s.lc)(h2:s'.lf=s.lf)(h3:s'.ln=s.ln):Least (fun c f p=>F c f p\/Own C K n c f p\/G c f p) s':=
 h.congr (fun _ _ _=>⟨fun h=>h.elim .inl (fun h=>h.elim (fun h=>absurd h (own_plain hp)) .inr),fun h=>h.elim .inl (fun h=>.inr (.inr h))⟩) h1 h2 h3
theorem letSum_none {C:VC}{K:Cx}(h:CxOk C K){n:Nat}(hn:n<C.x.nodes.length)(h1:kindN C n≠1)(v:Nat):∀ i,i<=nkidN C n->letSum C n i v=0
 | 0,_=>rfl
 | i+1,hi=>by
  unfold letSum;rw[letSum_none h hn h1 v i (by omega),letOf,if_neg (h.nl n i hn (by omega) h1)];rfl
theorem small_of {C:VC}{s:VS}{g:Nat->Int}{lo dp:Int}(hA:Ahead C s g lo dp)(hg:∀ v,v<C.x.vars.length->-1152921504606846976<=g v/\g v<=1152921504606846976):Small C s:=fun v hv=>by rw[hA.sc v hv];exact hg v hv
theorem kids_step (C:VC)(K:Cx)(hK:CxOk C K)(n:Nat)(hn:n<C.x.nodes.length)(hbk:bodyKind (kindN C n)=false)(hp:plainKind (kindN C n))(h1:kindN C n≠1)(h2:kindN C n≠2)(IH:∀ m,m<n->VisitOk C K m)
  (s:VS)(w:World)(F:Int->Int->Int->Prop)(hV:Vis C s w)(hA:Ahead C s (K.cnt n) (K.lps n) (K.dpt n+1))(hL:Least F s) :
  Calls Tryz.prog 99 #[.pointer (some ⟨C.vb,0,none⟩),.int .i64 n] w (StepPost C K n F w):=by
 refine(kids_any C K hK n hn hbk IH s w F hV hA hL).mono ?_;rintro e w' ⟨rfl,s',hV',hA',hL',hB'⟩;refine⟨rfl,s',hV',⟨fun v hv=>?_,hA'.lo,hA'.dp⟩,plain_least hp hL' rfl rfl rfl,hB'⟩;rw[hA'.sc v hv,letSum_none hK hn h1 v _ (Nat.le_refl _),letOf,if_neg h2]
theorem let_step (C:VC)(K:Cx)(hK:CxOk C K)(n:Nat)(hn:n<C.x.nodes.length)(h2:kindN C n=2)(IH:∀ m,m<n->VisitOk C K m)
  (s:VS)(w:World)(F:Int->Int->Int->Prop)(hV:Vis C s w)(hA:Ahead C s (K.cnt n) (K.lps n) (K.dpt n+1))(hL:Least F s) :
  Calls Tryz.prog 89 #[.pointer (some ⟨C.vb,0,none⟩),.int .i64 n] w (StepPost C K n F w):=by
 have KID:=hide (kids_any C K hK n hn (by rw[h2];rfl) IH s w F hV hA hL);have HKK:=hide hK;clear IH hV hA hL hK;go_enter Tryz.func89,Tryz.ntmps89;go_wp2_with fail
 refine(unhide KID).mono ?_;rintro e w1 ⟨rfl,hS1⟩;have HS1:=hide hS1;clear hS1 KID;obtain⟨s1,hV1,hA1,hL1,hB1⟩:=unhide HS1;have HB1:=hide hB1;have hKK:=unhide HKK;have SH:=hide (shift_any C s1 n 1 w1 hV1 hn (.inl rfl) (hKK.refs n hn) (small_of hA1 fun v hv=>by
  have a1:=hKK.cnt0 n v hn hv;have a2:=letSum_bd hKK hn v _ (Nat.le_refl _);have a3:=hKK.nkid n hn;omega))
 have FIN:Hid (Ahead C (shiftS C s1 n 1) (fun v=>K.cnt n v+letOf C n v) (K.lps n) (K.dpt n+1)/\Least (fun c f p=>F c f p\/Own C K n c f p\/TrK C K n (nkidN C n) c f p) (shiftS C s1 n 1)):=
  ⟨⟨fun v hv=>by
   show s1.sc v+1 * cntTo (refsN C n) (refsN C n).length v=K.cnt n v+letOf C n v;rw[hA1.sc v hv,letSum_none hKK hn (by rw[h2];decide) v _ (Nat.le_refl _),letOf,if_pos h2];omega,hA1.lo,hA1.dp⟩,
  plain_least (by rw[h2];unfold plainKind;decide) hL1 rfl rfl rfl⟩
 clear hV1 hA1 hL1 hB1 hKK HS1;go_wp2_with fail
 refine(unhide SH).mono ?_;rintro e w2 ⟨rfl,hV2,hB2⟩;go_wp2_with fail
 go_end0
 exact⟨rfl,_,hV2,FIN.out.1,FIN.out.2,HB1.out.next hB2⟩
theorem block_step (C:VC)(K:Cx)(hK:CxOk C K)(n:Nat)(hn:n<C.x.nodes.length)(h1:kindN C n=1)(IH:∀ m,m<n->VisitOk C K m)
  (s:VS)(w:World)(F:Int->Int->Int->Prop)(hV:Vis C s w)(hA:Ahead C s (K.cnt n) (K.lps n) (K.dpt n+1))(hL:Least F s) :
  Calls Tryz.prog 88 #[.pointer (some ⟨C.vb,0,none⟩),.int .i64 n] w (StepPost C K n F w):=by
 have KID:=hide (kids_any C K hK n hn (by rw[h1];rfl) IH s w F hV hA hL);have HKK:=hide hK;clear IH hV hA hL hK;go_enter Tryz.func88,Tryz.ntmps88;go_wp2_with fail
 refine(unhide KID).mono ?_;rintro e w1 ⟨rfl,hS1⟩;have HS1:=hide hS1;clear hS1 KID;obtain⟨s1,hV1,hA1,hL1,hB1⟩:=unhide HS1;have HB1:=hide hB1;have HL1:=hide hL1;obtain⟨b,off,hna,hb,N⟩:=hV1.node hn;obtain⟨ka,kc,hkf,hkI⟩:=N.kids;have c8:=hV1.c8;rw[hna]at c8;have hnl:=hV1.nodes.1;have HI:=hide hkI;have SSS:Hid (∀ b,C.S b->b<w1.heap.size/\¬C.T b):=hV1.sS;have HNA:=hide hna;have hlenk:=hkI.1;have EK:Hid (nkidN C n=(nd C.x.nodes n).kids.length):=rfl;have hkid:Hid (∀ i,i<nkidN C n->(nd C.x.nodes n).kids[i]?.getD 0=(kidN C n i:Int)/\kidN C n i<n):=fun i hi=>(unhide HKK).kid n i hn hi;have ST:Hid (∃ s',Vis C s' w1/\Ahead C s' (fun v=>K.cnt n v+letSum C n (nkidN C n) v-letSum C n 0 v) (K.lps n) (K.dpt n+1)/\Least (fun c f p=>F c f p\/TrK C K n (nkidN C n) c f p) s'):=
  ⟨s1,hV1,⟨fun v hv=>by rw[hA1.sc v hv];simp[letSum],hA1.lo,hA1.dp⟩,hL1⟩
 clear N hV1 hA1 hL1 hB1 hkI HS1;generalize (nd C.x.nodes n).kids=kids at *;go_wp2_with fail
 go_loopg [19] kids.length (fun g i wr=>∃(k:Nat),k+g=kids.length/\i=.int .i64 k/\ButS C.T w1.heap.size w1 wr/\∃ s',Vis C s' wr/\Ahead C s' (fun v=>K.cnt n v+letSum C n (nkidN C n) v-letSum C n k v) (K.lps n) (K.dpt n+1)/\Least (fun c f p=>F c f p\/TrK C K n (nkidN C n) c f p) s')
 case atStart=>exact⟨0,by omega,rfl,ButS.refl _ _ _,unhide ST⟩
 case round=>
  clear ST c8 hkf;obtain⟨k,hk,rfl,hb1,s2,hV2,hA2,hL2⟩:=hrel;by_cases hlt:k<kids.length
  ·obtain⟨b2,off2,rfl,hb2,hc2⟩:=((unhide HI).same (hb1.same (unhide SSS))).2 (by omega);have hki:=hc2 k hlt;have hkn:k<nkidN C n:=by rw[EK.out];exact hlt
   obtain⟨e1,e2⟩:=unhide hkid k hkn;rw[e1]at hki;clear hc2 e1;have hml:kidN C n k<C.x.nodes.length:=by omega
   obtain⟨b',off',hna',hbb',N⟩:=hV2.node hml;obtain⟨rfl,rfl⟩:b'=b/\off'=off:=by rw[hna]at hna';simp at hna';exact⟨hna'.1.symm,hna'.2.symm⟩
   have cK:wr.cell? ⟨b',off'+kidN C n k * 8,none⟩=some (.int .i64 (kindN C (kidN C n k))):=N.kind;have c8:=hV2.c8;rw[hna]at c8;have hKK:=unhide HKK;by_cases hq:kindN C (kidN C n k)=2
   ·have SH:=hide (shift_any C s2 (kidN C n k) (-1) wr hV2 hml (.inr rfl) (hKK.refs _ hml) (small_of hA2 fun v hv=>by
     have a1:=hKK.cnt0 n v hn hv;have a2:=letSum_bd hKK hn v _ (Nat.le_refl _);have a4:=letSum_bd hKK hn v k (by omega);have a3:=hKK.nkid n hn;omega))
    have FIN:Hid (Ahead C (shiftS C s2 (kidN C n k) (-1)) (fun v=>K.cnt n v+letSum C n (nkidN C n) v-letSum C n (k+1) v) (K.lps n) (K.dpt n+1)/\Least (fun c f p=>F c f p\/TrK C K n (nkidN C n) c f p) (shiftS C s2 (kidN C n k) (-1))):=
     ⟨⟨fun v hv=>by
      show s2.sc v + -1 * cntTo (refsN C (kidN C n k)) (refsN C (kidN C n k)).length v=K.cnt n v+letSum C n (nkidN C n) v-(letSum C n k v+letOf C (kidN C n k) v);rw[hA2.sc v hv,letOf,if_pos hq];omega,hA2.lo,hA2.dp⟩,hL2⟩
    rw[hq]at cK;clear hq hV2 hA2 hL2 N hKK hna';generalize kidN C n k=m at *;go_wp2_with fail
    refine(unhide SH).mono ?_;rintro e w3 ⟨rfl,hV3,hB3⟩;go_wp2_with fail
    go_roundg (kids.length-(k+1))
    case measure=>omega
    case rel=>exact⟨k+1,by omega,by go_num,hb1.next hB3,_,hV3,FIN.out.1,FIN.out.2⟩
   ·have hq':(kindN C (kidN C n k)==2)=false:=by simpa using hq
    have FIN:Hid (∃ s',Vis C s' wr/\Ahead C s' (fun v=>K.cnt n v+letSum C n (nkidN C n) v-letSum C n (k+1) v) (K.lps n) (K.dpt n+1)/\Least (fun c f p=>F c f p\/TrK C K n (nkidN C n) c f p) s'):=
     ⟨s2,hV2,⟨fun v hv=>by
      show s2.sc v=K.cnt n v+letSum C n (nkidN C n) v-(letSum C n k v+letOf C (kidN C n k) v);rw[hA2.sc v hv,letOf,if_neg hq];omega,hA2.lo,hA2.dp⟩,hL2⟩
    clear hq hV2 hA2 hL2 N hKK hna';generalize kidN C n k=m at *;generalize kindN C m=km at *;go_wp2_with fail
    go_roundg (kids.length-(k+1))
    case measure=>omega
    case rel=>exact⟨k+1,by omega,by go_num,hb1,unhide FIN⟩
  ·have hkl:k=nkidN C n:=by rw[EK.out];omega
   have FIN:Hid (Ahead C s2 (fun v=>K.cnt n v+letOf C n v) (K.lps n) (K.dpt n+1)/\Least (fun c f p=>F c f p\/Own C K n c f p\/TrK C K n (nkidN C n) c f p) s2):=
    ⟨⟨fun v hv=>by rw[hA2.sc v hv,hkl,letOf,if_neg (by rw[h1];decide)];omega,hA2.lo,hA2.dp⟩,plain_least (by rw[h1];unfold plainKind;decide) hL2 rfl rfl rfl⟩
   go_wp2_with fail
   go_end0
   exact⟨rfl,s2,hV2,FIN.out.1,FIN.out.2,HB1.out.next hb1⟩
theorem body_step (C:VC)(K:Cx)(hK:CxOk C K)(n:Nat)(x:Int)(hn:n<C.x.nodes.length)(hbk:bodyKind (kindN C n)=true)(hx:x=if kindN C n=12 then 0 else 1)(IH:∀ m,m<n->VisitOk C K m)
  (s:VS)(w:World)(F:Int->Int->Int->Prop)(hV:Vis C s w)(hA:Ahead C s (K.cnt n) (K.lps n) (K.dpt n+1))(hL:Least F s) :
  Calls Tryz.prog 108 #[.pointer (some ⟨C.vb,0,none⟩),.int .i64 n,.int .i64 x] w (StepPost C K n F w):=by
 obtain⟨b,off,hna,hb,N⟩:=hV.node hn;obtain⟨ka,kc,hkf,hkI⟩:=N.kids;obtain⟨ka',kc',hkf',hcap⟩:=N.kcap;rw[hkf]at hkf';obtain⟨rfl,rfl⟩:ka=ka'/\kc=kc':=by simp at hkf';exact hkf'
 have hpos:=hK.bk n hn hbk;have hx01:x=0\/x=1:=by rw[hx];split<;>simp
 have hx0:0<=x:=by omega
 have hx1:x<=1:=by omega
 have h1:kindN C n≠1:=fun e=>by rw[e]at hbk;cases hbk
 have h2:kindN C n≠2:=fun e=>by rw[e]at hbk;cases hbk
 have hpk:plainKind (kindN C n):=by
  unfold bodyKind at hbk;simp only[Bool.or_eq_true,beq_iff_eq]at hbk;unfold plainKind;omega
 have HXX:=hide hx;clear hx hx01;have hnk:=hK.nkid n hn;obtain⟨L,hLk⟩:∃ L,nkidN C n=L+1:=⟨nkidN C n-1,by omega⟩;have EK:Hid (nkidN C n=(nd C.x.nodes n).kids.length):=rfl;have hkl:(nd C.x.nodes n).kids.length=L+1:=hLk;have c8:=hV.c8;rw[hna]at c8;have hnl:=hV.nodes.1;have HI:=hide hkI;have HKK:=hide hK;have HIH:=hide IH;have SSS:Hid (∀ b,C.S b->b<w.heap.size/\¬C.T b):=hV.sS;have ST:Hid (∃ s',Vis C s' w/\Ahead C s' (K.cnt n) (K.lps n) (K.dpt n+1)/\Least (fun c f p=>F c f p\/TrK C K n 0 c f p) s'):=
  ⟨s,hV,hA,hL.congr (fun c f p=>⟨fun h=>h.elim id (fun⟨j,h,_⟩=>absurd h (Nat.not_lt_zero _)),.inl⟩) rfl rfl rfl⟩
 have hkid:Hid (∀ i,i<L+1->(nd C.x.nodes n).kids[i]?.getD 0=(kidN C n i:Int)/\kidN C n i<n):=fun i hi=>(unhide HKK).kid n i hn (by omega);clear N hV hA hL hkI hK IH hkf' hpos;obtain⟨b2,off2,rfl,hb2,hc0⟩:=(unhide HI).2 (by omega);have HC0:Hid (∀(wr:World),ButS C.T w.heap.size w wr->∀ j,j<L+1->wr.cell? ⟨b2,off2+j,none⟩=some (.int .i64 (kidN C n j))):=fun wr hB j hj=>by
  rw[hB.cell (unhide SSS b2 hb2).1 (unhide SSS b2 hb2).2,hc0 j (by omega),(unhide hkid j hj).1]
 have hne:b2≠C.vb:=fun e=>(unhide SSS b2 hb2).2 (.inl e);have hne':C.vb≠b2:=hne.symm;clear hc0 hkid HI;rw[hkl]at hkf hcap;have hL200:L<=200:=by omega
 clear hkl;go_enter Tryz.func108,Tryz.ntmps108;go_wp2_with fail
 go_loopg [26] L (fun g i wr=>∃(k:Nat),k+g=L/\i=.int .i64 k/\ButS C.T w.heap.size w wr/\∃ s',Vis C s' wr/\Ahead C s' (K.cnt n) (K.lps n) (K.dpt n+1)/\Least (fun c f p=>F c f p\/TrK C K n k c f p) s')
 case atStart=>exact⟨0,by omega,rfl,ButS.refl _ _ _,unhide ST⟩
 case round=>
  clear ST c8 hkf;obtain⟨k,hk,rfl,hb1,s1,hV1,hA1,hL1⟩:=hrel;by_cases hlt:k<L
  ·have hki:=unhide HC0 wr hb1 k (by omega);have hkn:k<nkidN C n:=by omega
   have CALL:Hid (Calls Tryz.prog 73 #[.pointer (some ⟨C.vb,0,none⟩),.int .i64 (kidN C n k)] wr fun e w'=>e=.returned (.tuple #[])/\∃ s',Vis C s' w'/\Ahead C s' (K.cnt n) (K.lps n) (K.dpt n+1)/\Least (fun c f p=>F c f p\/TrK C K n (k+1) c f p) s'/\ButS C.T wr.heap.size wr w'):=by
    have hKK:=unhide HKK;refine(unhide HIH _ (hKK.kid n k hn hkn).2 s1 wr _ hV1 ⟨fun v hv=>?_,?_,?_⟩ hL1).mono ?_
    ·rw[hA1.sc v hv,hKK.cb n k v hn (by omega) hbk hv]
    ·rw[hA1.lo,hKK.lb n k hn (by omega) hbk]
    ·rw[hA1.dp,hKK.dk n k hn hkn]
    ·rintro e w' ⟨rfl,s2,hV2,hA2,hL2,hB2⟩;refine⟨rfl,s2,hV2,⟨fun v hv=>?_,?_,?_⟩,hL2.congr (fun c f p=>?_) rfl rfl rfl,hB2⟩
     ·rw[hA2.sc v hv,hKK.cb n k v hn (by omega) hbk hv,letOf,if_neg (hKK.nl n k hn hkn h1)];omega
     ·rw[hA2.lo,hKK.lb n k hn (by omega) hbk]
     ·rw[hA2.dp,hKK.dk n k hn hkn]
     ·constructor
      ·rintro(h | ⟨j,h1,h2,h3⟩)
       ·exact .inl (.inl h)
       ·by_cases e:j=k
        ·subst e;exact .inr h3
        ·exact .inl (.inr ⟨j,by omega,h2,h3⟩)
      ·rintro((h | ⟨j,h1,h2,h3⟩) | h)
       ·exact .inl h
       ·exact .inr ⟨j,by omega,h2,h3⟩
       ·exact .inr ⟨k,by omega,hkn,h⟩
   clear hA1 hL1 hV1;generalize kidN C n k=m at *;go_wp2_with fail
   refine(unhide CALL).mono ?_;rintro e w2 ⟨rfl,hS2⟩;obtain⟨s2,hV2,hA2,hL2,hB2⟩:=hS2;go_wp2_with fail
   go_roundg (L-(k+1))
   case measure=>omega
   case rel=>exact⟨k+1,by omega,by go_num,hb1.next hB2,s2,hV2,hA2,hL2⟩
  ·obtain rfl:k=L:=by omega
   have hKK:=unhide HKK;have hlp:=hKK.lps0 n hn;have SH:=hide (shift_any C s1 n 1 wr hV1 hn (.inl rfl) (hKK.refs n hn) (small_of hA1 fun v hv=>by
    have a1:=hKK.cnt0 n v hn hv;omega))
   have A2:Hid (Ahead C (shiftS C s1 n 1) (fun v=>K.cnt n v+cntTo (refsN C n) (refsN C n).length v) (K.lps n) (K.dpt n+1)/\Least (fun c f p=>F c f p\/TrK C K n k c f p) (shiftS C s1 n 1)):=
    ⟨⟨fun v hv=>by
     show s1.sc v+1 * cntTo (refsN C n) (refsN C n).length v=_;rw[hA1.sc v hv];omega,hA1.lo,hA1.dp⟩,hL1⟩
   have HB1:=hide hb1;clear hA1 hL1 hV1 hb1 hKK;go_wp2_with fail
   refine(unhide SH).mono ?_;rintro e w2 ⟨rfl,hV2,hB2⟩;have hB2':=(unhide HB1).next hB2;have HB2:=hide hB2';have hlo2:(shiftS C s1 n 1).lo=K.lps n:=A2.out.1.lo;have HA2:=A2;generalize shiftS C s1 n 1=s2 at *;have c12:=hV2.c12;have z12:=hV2.v.frozen 12;rw[hlo2]at c12;have hk2:=unhide HC0 w2 hB2' k (by omega);have HV2:=hide hV2;have hkn:k<nkidN C n:=by omega
   have hki3:(w2.setCell ⟨C.vb,12,none⟩ (.int .i64 (K.lps n+x))).cell? ⟨b2,off2+k,none⟩=some (.int .i64 (kidN C n k)):=unhide HC0 _ (hB2'.set C.Tv _ _) k (by omega);have CALL:Hid (Calls Tryz.prog 73 #[.pointer (some ⟨C.vb,0,none⟩),.int .i64 (kidN C n k)] (w2.setCell ⟨C.vb,12,none⟩ (.int .i64 (K.lps n+x))) fun e w'=>e=.returned (.tuple #[])/\∃ s',Vis C s' w'/\Ahead C s' (fun v=>K.cnt n v+cntTo (refsN C n) (refsN C n).length v) (K.lps n+x) (K.dpt n+1)/\Least (fun c f p=>F c f p\/TrK C K n (nkidN C n) c f p) s'/\ButS C.T w.heap.size w w'):=by
    have hKK:=unhide HKK;obtain⟨hA2,hL2⟩:=unhide HA2;have hV3:=(unhide HV2).setLo (K.lps n+x);refine(unhide HIH _ (hKK.kid n k hn hkn).2 { s2 with lo:=K.lps n+x } _ _ hV3 ⟨fun v hv=>?_,?_,?_⟩ (hL2.congr (fun _ _ _=>Iff.rfl) rfl rfl rfl)).mono ?_
    ·show s2.sc v=_;rw[hA2.sc v hv,hKK.cl n k v hn (by omega) hbk hv]
    ·show K.lps n+x=_;rw[hKK.ll n k hn (by omega) hbk,HXX.out]
    ·show s2.dp=_;rw[hA2.dp,hKK.dk n k hn hkn]
    ·rintro e w' ⟨rfl,s4,hV4,hA4,hL4,hB4⟩;refine⟨rfl,s4,hV4,⟨fun v hv=>?_,?_,?_⟩,hL4.congr (fun c f p=>?_) rfl rfl rfl,(hB2'.set C.Tv _ _).next hB4⟩
     ·rw[hA4.sc v hv,hKK.cl n k v hn (by omega) hbk hv,letOf,if_neg (hKK.nl n k hn hkn h1)];omega
     ·rw[hA4.lo,hKK.ll n k hn (by omega) hbk,HXX.out]
     ·rw[hA4.dp,hKK.dk n k hn hkn]
     ·rw[hLk];constructor
      ·rintro(h | ⟨j,h1,h2,h3⟩)
       ·exact .inl (.inl h)
       ·by_cases e:j=k
        ·subst e;exact .inr h3
        ·exact .inl (.inr ⟨j,by omega,h2,h3⟩)
      ·rintro((h | ⟨j,h1,h2,h3⟩) | h)
       ·exact .inl h
       ·exact .inr ⟨j,by omega,h2,h3⟩
       ·exact .inr ⟨k,by omega,hkn,h⟩
   clear hV2 hB2 hB2' A2 HA2 HV2 SH;have hlp0:=hlp.1;have hlp1:=hlp.2;generalize kidN C n k=m at *;go_wp2_with fail
   refine(unhide CALL).mono ?_;rintro e w4 ⟨rfl,hS4⟩;obtain⟨s4,hV4,hA4,hL4,hB4⟩:=hS4;have c12:=hV4.c12;have z12:=hV4.v.frozen 12;rw[hA4.lo]at c12;have hKK:=unhide HKK;have hV5:=hV4.setLo (K.lps n);have SH:=hide (shift_any C { s4 with lo:=K.lps n } n (-1) (w4.setCell ⟨C.vb,12,none⟩ (.int .i64 (K.lps n))) hV5 hn (.inr rfl) (hKK.refs n hn) (fun v hv=>by
    have a1:=hKK.cnt0 n v hn hv;have a2:=cntTo_bd (refsN C n) (refsN C n).length v;have a3:=hKK.refs n hn;show _<=s4.sc v/\s4.sc v<=_;rw[hA4.sc v hv];omega))
   have FIN:Hid (Ahead C (shiftS C { s4 with lo:=K.lps n } n (-1)) (fun v=>K.cnt n v+letOf C n v) (K.lps n) (K.dpt n+1)/\Least (fun c f p=>F c f p\/Own C K n c f p\/TrK C K n (nkidN C n) c f p) (shiftS C { s4 with lo:=K.lps n } n (-1))):=
    ⟨⟨fun v hv=>by
     show s4.sc v + -1 * cntTo (refsN C n) (refsN C n).length v=_;rw[hA4.sc v hv,letOf,if_neg h2];omega,rfl,hA4.dp⟩,plain_least hpk hL4 rfl rfl rfl⟩
   have HB5:=hide (hB4.set C.Tv 12 (.int .i64 (K.lps n)));clear hV4 hA4 hL4 hB4 hV5 hKK CALL;go_wp2_with fail
   refine(unhide SH).mono ?_;rintro e w6 ⟨rfl,hV6,hB6⟩;go_wp2_with fail
   go_end0
   exact⟨rfl,_,hV6,FIN.out.1,FIN.out.2,(unhide HB5).next hB6⟩
theorem loop_step (C:VC)(K:Cx)(hK:CxOk C K)(n:Nat)(hn:n<C.x.nodes.length)(hk:kindN C n=6\/kindN C n=7\/kindN C n=8)(IH:∀ m,m<n->VisitOk C K m)
  (s:VS)(w:World)(F:Int->Int->Int->Prop)(hV:Vis C s w)(hA:Ahead C s (K.cnt n) (K.lps n) (K.dpt n+1))(hL:Least F s) :
  Calls Tryz.prog 90 #[.pointer (some ⟨C.vb,0,none⟩),.int .i64 n] w (StepPost C K n F w):=by
 have B:=hide (body_step C K hK n 1 hn (by unfold bodyKind;rcases hk with h | h | h<;>rw[h]<;>rfl) (by rw[if_neg (by omega)]) IH s w F hV hA hL);clear hK IH hV hA hL;go_enter Tryz.func90,Tryz.ntmps90;go_wp2_with fail
 refine(unhide B).mono ?_;rintro e w1 ⟨rfl,hS⟩;go_wp2_with fail
 go_end0
 exact⟨rfl,hS⟩
theorem try_step (C:VC)(K:Cx)(hK:CxOk C K)(n:Nat)(hn:n<C.x.nodes.length)(hk:kindN C n=12)(IH:∀ m,m<n->VisitOk C K m)
  (s:VS)(w:World)(F:Int->Int->Int->Prop)(hV:Vis C s w)(hA:Ahead C s (K.cnt n) (K.lps n) (K.dpt n+1))(hL:Least F s) :
  Calls Tryz.prog 91 #[.pointer (some ⟨C.vb,0,none⟩),.int .i64 n] w (StepPost C K n F w):=by
 have B:=hide (body_step C K hK n 0 hn (by rw[hk];rfl) (by rw[if_pos hk]) IH s w F hV hA hL);clear hK IH hV hA hL;go_enter Tryz.func91,Tryz.ntmps91;go_wp2_with fail
 refine(unhide B).mono ?_;rintro e w1 ⟨rfl,hS⟩;go_wp2_with fail
 go_end0
 exact⟨rfl,hS⟩
theorem tellS_sc (C:VC)(s:VS)(c n:Int):(tellS C s c n).sc=s.sc:=by unfold tellS;split<;>rfl
theorem tellS_lo (C:VC)(s:VS)(c n:Int):(tellS C s c n).lo=s.lo:=by unfold tellS;split<;>rfl
theorem tellS_dp (C:VC)(s:VS)(c n:Int):(tellS C s c n).dp=s.dp:=by unfold tellS;split<;>rfl
theorem Ahead.tell {C:VC}{s:VS}{g:Nat->Int}{lo dp:Int}(h:Ahead C s g lo dp)(c n:Int):Ahead C (tellS C s c n) g lo dp:=
 ⟨fun v hv=>by rw[tellS_sc];exact h.sc v hv,by rw[tellS_lo];exact h.lo,by rw[tellS_dp];exact h.dp⟩
theorem inSc_congr {C:VC}{s s':VS}(h:∀ v,v<C.x.vars.length->s.sc v=s'.sc v)(r:Int):inSc C s r=inSc C s' r:=by
 unfold inSc;cases hq:isVar C r
 ·rfl
 ·unfold isVar inR at hq;rw[Bool.and_eq_true]at hq;have h1:=of_decide_eq_true hq.1;have h2:=of_decide_eq_true hq.2;rw[h r.toNat (by omega)]
theorem upsFits_congr {C:VC}{s s':VS}(h:∀ v,v<C.x.vars.length->s.sc v=s'.sc v)(us:List (Bool×Int)):upsFits C s us=upsFits C s' us:=by
 unfold upsFits
 congr 1
 funext i
 unfold upFits;rw[inSc_congr h]
theorem leaf_post {C:VC}{K:Cx}{n:Nat}(h0:nkidN C n=0)(h2:kindN C n≠2){F:Int->Int->Int->Prop}{s s':VS}{w w':World}(hA:Ahead C s (K.cnt n) (K.lps n) (K.dpt n+1))(hL:Least F s){q:Prop}{x:Int}(hx:x≠0)
  (hown:∀ c f p,Own C K n c f p↔(q/\c=x/\f=C.f/\p=n))(hs:(q/\s'=tellS C s x n)\/(¬q/\s'=s))(hV:Vis C s' w')(hB:ButS C.T w.heap.size w w'):StepPost C K n F w (.returned (.tuple #[])) w':=by
 have ht:∀ c f p,¬TrK C K n (nkidN C n) c f p:=fun c f p ⟨j,h,_⟩=>by rw[h0]at h;exact Nat.not_lt_zero _ h
 have hl:∀ v,letOf C n v=0:=fun v=>if_neg h2;rcases hs with⟨hq,rfl⟩ | ⟨hq,rfl⟩
 ·have hA':=hA.tell x n;exact⟨rfl,_,hV,⟨fun v hv=>by rw[hA'.sc v hv];simp only[hl];omega,hA'.lo,hA'.dp⟩,(hL.tell (C:=C) hx n).congr (fun c f p=>⟨fun h=>h.elim .inl (fun h=>h.elim (fun h=>.inr ((hown c f p).1 h).2) (fun h=>absurd h (ht c f p))),fun h=>h.elim .inl (fun h=>.inr (.inl ((hown c f p).2 ⟨hq,h⟩)))⟩) rfl rfl rfl,hB⟩
 ·exact⟨rfl,_,hV,⟨fun v hv=>by rw[hA.sc v hv];simp only[hl];omega,hA.lo,hA.dp⟩,hL.congr (fun c f p=>⟨fun h=>h.elim id (fun h=>h.elim (fun h=>absurd ((hown c f p).1 h).1 hq) (fun h=>absurd h (ht c f p))),.inl⟩) rfl rfl rfl,hB⟩
theorem leave_step (C:VC)(K:Cx)(hK:CxOk C K)(n:Nat)(hn:n<C.x.nodes.length)(hk:kindN C n=9\/kindN C n=10)
  (s:VS)(w:World)(F:Int->Int->Int->Prop)(hV:Vis C s w)(hA:Ahead C s (K.cnt n) (K.lps n) (K.dpt n+1))(hL:Least F s) :
  Calls Tryz.prog 92 #[.pointer (some ⟨C.vb,0,none⟩),.int .i64 n] w (StepPost C K n F w):=by
 refine(leave_any C s n w hV).mono ?_;rintro e w' ⟨rfl,hV',hB'⟩;refine leaf_post (hK.leaf n hn (by omega)) (by omega) hA hL (q:=K.lps n=0) (x:=7) (by decide) (fun c f p=>?_) ?_ hV' hB'
 ·constructor
  ·rintro⟨rfl,rfl,h5,hb⟩;rcases hb with⟨h,_⟩ | ⟨h,_,h'⟩ | ⟨_,h,_⟩ | ⟨_,h,_⟩ | ⟨_,h,_⟩ | ⟨_,h,_⟩ | ⟨_,h,_⟩
   ·exact absurd h h5
   ·exact⟨h',h,rfl,rfl⟩
   all_goals exact absurd h (by omega)
  ·rintro⟨h,rfl,rfl,rfl⟩;exact⟨rfl,rfl,by decide,.inr (.inl ⟨rfl,hk,h⟩)⟩
 ·unfold leaveS;rw[hA.lo];split
  ·exact .inl ⟨by assumption,rfl⟩
  ·exact .inr ⟨by assumption,rfl⟩
theorem variable_step (C:VC)(K:Cx)(hK:CxOk C K)(n:Nat)(hn:n<C.x.nodes.length)(hk:kindN C n=26)
  (s:VS)(w:World)(F:Int->Int->Int->Prop)(hV:Vis C s w)(hA:Ahead C s (K.cnt n) (K.lps n) (K.dpt n+1))(hL:Least F s) :
  Calls Tryz.prog 93 #[.pointer (some ⟨C.vb,0,none⟩),.int .i64 n] w (StepPost C K n F w):=by
 refine(variable_any C s n w hV hn (hK.one n hn (by omega))).mono ?_;rintro e w' ⟨rfl,hV',hB'⟩;refine leaf_post (hK.leaf n hn (by omega)) (by omega) hA hL (q:=inSc C (K.st n) (ref0 (nd C.x.nodes n))=false) (x:=6) (by decide) (fun c f p=>?_) ?_ hV' hB'
 ·constructor
  ·rintro⟨rfl,rfl,h5,hb⟩;rcases hb with⟨h,_⟩ | ⟨_,h,_⟩ | ⟨h,_,h'⟩ | ⟨_,h,_⟩ | ⟨_,h,_⟩ | ⟨_,h,_⟩ | ⟨_,h,_⟩
   ·exact absurd h h5
   ·exact absurd h (by omega)
   ·exact⟨h',h,rfl,rfl⟩
   all_goals exact absurd h (by omega)
  ·rintro⟨h,rfl,rfl,rfl⟩;exact⟨rfl,rfl,by decide,.inr (.inr (.inl ⟨rfl,hk,h⟩))⟩
 ·unfold variableS;rw[inSc_congr (s':=K.st n) hA.sc];cases inSc C (K.st n) (ref0 (nd C.x.nodes n))<;>simp
theorem up_step (C:VC)(K:Cx)(hK:CxOk C K)(n:Nat)(hn:n<C.x.nodes.length)(hk:kindN C n=27)
  (s:VS)(w:World)(F:Int->Int->Int->Prop)(hV:Vis C s w)(hA:Ahead C s (K.cnt n) (K.lps n) (K.dpt n+1))(hL:Least F s) :
  Calls Tryz.prog 94 #[.pointer (some ⟨C.vb,0,none⟩),.int .i64 n] w (StepPost C K n F w):=by
 refine(up_any C s n w hV hn (hK.one n hn (by omega))).mono ?_;rintro e w' ⟨rfl,hV',hB'⟩;refine leaf_post (hK.leaf n hn (by omega)) (by omega) hA hL (q:=inR (ref0 (nd C.x.nodes n)) 0 ((C.x.ups.length:Int)-1)=false) (x:=6) (by decide) (fun c f p=>?_) ?_ hV' hB'
 ·constructor
  ·rintro⟨rfl,rfl,h5,hb⟩;rcases hb with⟨h,_⟩ | ⟨_,h,_⟩ | ⟨_,h,_⟩ | ⟨h,_,h'⟩ | ⟨_,h,_⟩ | ⟨_,h,_⟩ | ⟨_,h,_⟩
   ·exact absurd h h5
   ·exact absurd h (by omega)
   ·exact absurd h (by omega)
   ·exact⟨h',h,rfl,rfl⟩
   all_goals exact absurd h (by omega)
  ·rintro⟨h,rfl,rfl,rfl⟩;exact⟨rfl,rfl,by decide,.inr (.inr (.inr (.inl ⟨rfl,hk,h⟩)))⟩
 ·unfold upS;cases inR (ref0 (nd C.x.nodes n)) 0 ((C.x.ups.length:Int)-1)<;>simp
theorem rest_step (C:VC)(K:Cx)(hK:CxOk C K)(n:Nat)(hn:n<C.x.nodes.length)(hk:kindN C n=37)
  (s:VS)(w:World)(F:Int->Int->Int->Prop)(hV:Vis C s w)(hA:Ahead C s (K.cnt n) (K.lps n) (K.dpt n+1))(hL:Least F s) :
  Calls Tryz.prog 96 #[.pointer (some ⟨C.vb,0,none⟩),.int .i64 n] w (StepPost C K n F w):=by
 refine(rest_any C s n w hV).mono ?_;rintro e w' ⟨rfl,hV',hB'⟩;refine leaf_post (hK.leaf n hn (by omega)) (by omega) hA hL (q:=C.x.rest=false) (x:=8) (by decide) (fun c f p=>?_) ?_ hV' hB'
 ·constructor
  ·rintro⟨rfl,rfl,h5,hb⟩;rcases hb with⟨h,_⟩ | ⟨_,h,_⟩ | ⟨_,h,_⟩ | ⟨_,h,_⟩ | ⟨h,_,h'⟩ | ⟨_,h,_⟩ | ⟨_,h,_⟩
   ·exact absurd h h5
   ·exact absurd h (by omega)
   ·exact absurd h (by omega)
   ·exact absurd h (by omega)
   ·exact⟨h',h,rfl,rfl⟩
   all_goals exact absurd h (by omega)
  ·rintro⟨h,rfl,rfl,rfl⟩;exact⟨rfl,rfl,by decide,.inr (.inr (.inr (.inr (.inl ⟨rfl,hk,h⟩))))⟩
 ·unfold restS;cases C.x.rest<;>simp
theorem closure_step (C:VC)(K:Cx)(hK:CxOk C K)(n:Nat)(hn:n<C.x.nodes.length)(hk:kindN C n=36)
  (s:VS)(w:World)(F:Int->Int->Int->Prop)(hV:Vis C s w)(hA:Ahead C s (K.cnt n) (K.lps n) (K.dpt n+1))(hL:Least F s) :
  Calls Tryz.prog 95 #[.pointer (some ⟨C.vb,0,none⟩),.int .i64 n] w (StepPost C K n F w):=by
 obtain⟨f',n',hM⟩:=hK.made n hn hk;refine(closure_any C s n f' n' w hV hn (hK.one n hn (by omega)) hM).mono ?_;rintro e w' ⟨rfl,hV',hB'⟩;cases hq:inR (ref0 (nd C.x.nodes n)) 0 ((C.l.length:Int)-1)
 ·refine leaf_post (hK.leaf n hn (by omega)) (by omega) hA hL (q:=True) (x:=6) (by decide) (fun c f p=>?_) ?_ hV' hB'
  ·constructor
   ·rintro⟨rfl,rfl,h5,hb⟩;rcases hb with⟨h,_⟩ | ⟨_,h,_⟩ | ⟨_,h,_⟩ | ⟨_,h,_⟩ | ⟨_,h,_⟩ | ⟨h,_,_⟩ | ⟨_,_,h,_⟩
    ·exact absurd h h5
    ·exact absurd h (by omega)
    ·exact absurd h (by omega)
    ·exact absurd h (by omega)
    ·exact absurd h (by omega)
    ·exact⟨trivial,h,rfl,rfl⟩
    ·rw[hq]at h;cases h
   ·rintro⟨_,rfl,rfl,rfl⟩;exact⟨rfl,rfl,by decide,.inr (.inr (.inr (.inr (.inr (.inl ⟨rfl,hk,hq⟩)))))⟩
  ·exact .inl ⟨trivial,by unfold closureS;rw[if_neg (by simp[hq])]⟩
 ·refine leaf_post (hK.leaf n hn (by omega)) (by omega) hA hL (q:=ref0 (nd C.x.nodes n)<=C.f\/¬(f'=C.f/\n'=n)\/upsFits C (K.st n) (fnD C.l (ref0 (nd C.x.nodes n)).toNat).ups=false) (x:=8) (by decide) (fun c f p=>?_) ?_ hV' hB'
  ·constructor
   ·rintro⟨rfl,rfl,h5,hb⟩;rcases hb with⟨h,_⟩ | ⟨_,h,_⟩ | ⟨_,h,_⟩ | ⟨_,h,_⟩ | ⟨_,h,_⟩ | ⟨_,_,h⟩ | ⟨h,_,_,f2,n2,hM2,h'⟩
    ·exact absurd h h5
    ·exact absurd h (by omega)
    ·exact absurd h (by omega)
    ·exact absurd h (by omega)
    ·exact absurd h (by omega)
    ·rw[hq]at h;cases h
    ·rw[hM]at hM2;have hM2:=Option.some.inj hM2;simp[siteV]at hM2;obtain⟨rfl,rfl⟩:f'=f2/\n'=n2:=⟨by omega,by omega⟩;exact⟨h',h,rfl,rfl⟩
   ·rintro⟨h,rfl,rfl,rfl⟩;exact⟨rfl,rfl,by decide,.inr (.inr (.inr (.inr (.inr (.inr ⟨rfl,hk,hq,f',n',hM,h⟩)))))⟩
  ·unfold closureS;rw[if_pos hq,upsFits_congr (s':=K.st n) hA.sc];split
   ·exact .inl ⟨by assumption,rfl⟩
   ·exact .inr ⟨by assumption,rfl⟩
end Go.Proofs.YtofcbekoaghikaaGreatDoor
