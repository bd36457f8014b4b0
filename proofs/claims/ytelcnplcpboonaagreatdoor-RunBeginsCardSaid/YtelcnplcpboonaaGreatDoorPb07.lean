import Derived.Test.YtelcnplcpboonaaGreatDoorPb06
import Derived.Lib.Fields
import Derived.Lib.Bytealg
import Derived.Lib.IndexLaws
open Go.Proofs.Tryz
namespace Go.Proofs.YtelcnplcpboonaaGreatDoor
open Go Go.RowKit
def z4k(t l:Wd):Wd:=(if l≠[]/\t≠[]then t++[32]else t)++l
def ntx(ws:List Wd):Wd:=ws.foldl z4k []
def z3j(w:Wd):Wd:=ntx (q0i (w.drop 1))
def jb:List Wd->Wd
 | []=>[]
 | w::r=>w++match r with
  | []=>[]
  | _::_=>32::jb r
theorem z5l:∀s:List UInt8,jb (q4y s)=s
 | []=>rfl
 | c::r=>by
  have ih:=z5l r;by_cases hc:c=32
  ·subst hc;rw[q5i];cases hs:q4y r with
   | nil=>exact absurd hs (q6s r)
   | cons w ws=>
    rw[hs]at ih;simp[jb,<-ih]
  ·cases hs:q4y r with
   | nil=>exact absurd hs (q6s r)
   | cons w ws=>
    rw[q5j hc hs];rw[hs]at ih;rw[<-ih];simp[jb]
theorem j4a:∀(ws:List Wd)(t:Wd),(∀w∈ws,w≠[])->t≠[]->ws.foldl z4k t=t++(match ws with|[]=>[]|_::_=>32::jb ws)
 | [],t,_,_=>by simp
 | w::r,t,h,ht=>by
  have hw:=h w (by simp);have e:z4k t w=t++32::w:=by simp[z4k,hw,ht]
  rw[List.foldl_cons,e,j4a r _ (fun x hx=>h x (by simp[hx])) (by simp)];cases r with
  | nil=>simp[jb]
  | cons u r=>simp[jb]
theorem v7d{ws:List Wd}(h:∀w∈ws,w≠[]):ntx ws=jb ws:=by
 cases ws with
 | nil=>rfl
 | cons w r=>
  have A:=h w (by simp);have e:z4k [] w=w:=by simp[z4k]
  rw[ntx,List.foldl_cons,e,j4a r w (fun x hx=>h x (by simp[hx])) A];cases r<;>simp[jb]
theorem j6h(ws:List Wd):ntx ([]::ws)=ntx ws:=by
 have e:z4k [] []=[]:=by simp[z4k]
 rw[ntx,List.foldl_cons,e];rfl
theorem z7p{tx:ByteArray}(h:q3k tx=0):(q0i (btL tx)).length<=60/\∀w∈q0i (btL tx),w≠[]/\w.length<=20/\∀b∈w,q9r b=true:=by
 obtain⟨B,C⟩:=q8d h;refine⟨by simpa using B,fun w hw=>?_⟩;have A:=C (wbS w) (List.mem_map.2 ⟨w,hw,rfl⟩);have D:(wbS w).size=w.length:=by rw[<-q0b];rfl
 simp only[okW,Bool.and_eq_true,decide_eq_true_eq,List.all_eq_true,D]at A;refine⟨fun e=>?_,A.1.2,A.2⟩;rw[e]at A;simp at A
def k1q(tx:ByteArray):Wd:=if tx.size=0 then [35]else [35,32]++btL tx
theorem q5x{tx:ByteArray}:tx.size=0↔btL tx=[]:=by
 rw[<-q0b];exact List.length_eq_zero_iff
theorem k8y{tx:ByteArray}(h:q3k tx=0):z3j (k1q tx)=btL tx:=by
 obtain⟨_,E⟩:=z7p h;unfold k1q z3j;by_cases A:tx.size=0
 ·rw[if_pos A,q5x.1 A];rfl
 ·rw[if_neg A];have B:btL tx≠[]:=fun e=>A (q5x.2 e)
  have C:([35,32]++btL tx).drop 1=32::btL tx:=rfl;have D:q0i (btL tx)=q4y (btL tx):=by rw[q0i,if_neg B]
  rw[C,q0i,if_neg (by simp),q5i,j6h,v7d (fun w hw=>(E w (by rw[D];exact hw)).1),z5l]
theorem z6z{p:UInt8->Bool}(A:p 32=true):∀ws:List Wd,(∀w∈ws,∀b∈w,p b=true)->∀b∈jb ws,p b=true
 | [],_,b,hb=>by cases hb
 | [w],h,b,hb=>by
  have e:jb [w]=w:=by simp[jb]
  rw[e]at hb;exact h w (by simp) b hb
 | w::u::r,h,b,hb=>by
  have e:jb (w::u::r)=w++32::jb (u::r):=by simp[jb]
  rw[e]at hb;rcases List.mem_append.1 hb with hb|hb
  ·exact h w (by simp) b hb
  ·rcases List.mem_cons.1 hb with rfl|hb
   ·exact A
   ·exact z6z A (u::r) (fun x hx=>h x (by simp[hx])) b hb
theorem j4j:∀(ws:List Wd),ws≠[]->(∀w∈ws,w≠[])->∃v c,jb ws=v++[c]/\∃w∈ws,c∈w
 | [],h,_=>absurd rfl h
 | [w],_,h=>by
  have hw:=h w (by simp);rcases List.eq_nil_or_concat w with e|⟨v,c,e⟩
  ·exact absurd e hw
  ·exact⟨v,c,by rw[jb,e];simp,w,by simp,by rw[e];simp⟩
 | w::u::r,_,h=>by
  obtain⟨v,c,e,x,hx,hc⟩:=j4j (u::r) (by simp) fun y hy=>h y (by simp[hy])
  exact⟨w++32::v,c,by rw[jb];simp[e],x,by simp[hx],hc⟩
theorem v3g{tx:ByteArray}(h:q3k tx=0):q3q (k1q tx):=by
 obtain⟨_,H⟩:=z7p h;unfold k1q;by_cases I:tx.size=0
 ·rw[if_pos I];exact⟨35,[],rfl,rfl,rfl,rfl,rfl⟩
 ·rw[if_neg I];have J:btL tx≠[]:=fun e=>I (q5x.2 e)
  have M:q0i (btL tx)=q4y (btL tx):=by rw[q0i,if_neg J]
  rw[M]at H;have L:=z5l (btL tx)
  have D:∀b∈btL tx,prB b=true/\nlB b=true:=by
   intro b B;rw[<-L]at B
   have:=z6z (p:=fun b=>prB b&&nlB b) rfl (q4y (btL tx)) (fun w G b B=>by
    have K:=(H w G).2.2 b B;simp only[q9r,Bool.and_eq_true,decide_eq_true_eq]at K;simp only[prB,nlB,Bool.and_eq_true,decide_eq_true_eq,bne_iff_ne,ne_eq];refine⟨by omega,?_⟩;rintro rfl
    simp at K) b B
   simpa using this
  have E:(32::btL tx).takeWhile nlB=32::btL tx:=by
   have:=k7e (p:=nlB) (32::btL tx) [] (fun x A=>by
    rcases List.mem_cons.1 A with rfl|A
    ·rfl
    ·exact(D x A).2) (fun b B=>by cases B)
   rw[List.append_nil]at this;exact this
  refine⟨35,32::btL tx,rfl,rfl,?_,?_,?_⟩
  ·simp only[q4o];rw[E];simp only[q3g,q2s];show List.all _ _=true;rw[List.all_eq_true];intro x A;rcases List.mem_cons.1 A with rfl|A
   ·rfl
   ·exact(D x A).1
  ·simp only[q0m];rw[E];rfl
  ·obtain⟨v,c,e,w,G,O⟩:=j4j (q4y (btL tx)) (q6s _) (fun w G=>(H w G).1);rw[L]at e
   have C:c≠32:=by
    rintro rfl
    have:=(H w G).2.2 32 O
    revert this;decide
   have N:(35::32::btL tx)=(35::32::v)++[c]:=by rw[e];rfl
   rw[N];exact q1k _ C
inductive Rp where
 | ok (ps:List (List Td)):Rp
 | bad (rest:List Wd):Rp
abbrev z1o:Wd:=[108,101,116]
def ntT(t:Wd):Td:=⟨9,wbS t,0⟩
def j0r(w:Wd):Td:=⟨7,wbS w,0⟩
def doT:Td:=⟨8,⟨#[]⟩,0⟩
def z5m(acc:List (List Td)):Wd:=match acc.getLast? with
 | some (x::_)=>btL x.tx
 | _=>[]
def v8a(pv:Bool)(acc:List (List Td))(t:Wd):List (List Td):=if pv then acc.dropLast++[[ntT (z4k (z5m acc) t)]]else acc++[[ntT t]]
inductive PG:Bool->List (List Td)->List Wd->Rp->Prop where
 | done {pv acc}:PG pv acc [] (.ok acc)
 | note {pv acc w ts r}:w.headD 0=35->PG true (v8a pv acc (z3j w)) ts r->PG pv acc (w::ts) r
 | letN {pv acc ts}:(∀w,ts.head?=some w->nmW w=false)->PG pv acc (z1o::ts) (.bad ts)
 | letE {pv acc nm ts}:nmW nm=true->ts.head?≠some [61]->PG pv acc (z1o::nm::ts) (.bad ts)
 | letB {pv acc nm ts u}:nmW nm=true->PR (.level 0) ts (.bad u)->PG pv acc (z1o::nm::[61]::ts) (.bad u)
 | letX {pv acc nm ts m ns u}:nmW nm=true->PR (.level 0) ts (.ok m ns u)->u.head?≠some [59]->PG pv acc (z1o::nm::[61]::ts) (.bad u)
 | letO {pv acc nm ts m ns u r}:nmW nm=true->PR (.level 0) ts (.ok m ns ([59]::u))->PG false (acc++[j0r nm::ns]) u r->PG pv acc (z1o::nm::[61]::ts) r
 | doB {pv acc w ts u}:w.headD 0≠35->w≠z1o->PR (.level 0) (w::ts) (.bad u)->PG pv acc (w::ts) (.bad u)
 | doX {pv acc w ts m ns u}:w.headD 0≠35->w≠z1o->PR (.level 0) (w::ts) (.ok m ns u)->u.head?≠some [59]->PG pv acc (w::ts) (.bad u)
 | doO {pv acc w ts m ns u r}:w.headD 0≠35->w≠z1o->PR (.level 0) (w::ts) (.ok m ns ([59]::u))->PG false (acc++[doT::ns]) u r->PG pv acc (w::ts) r
theorem q7p:z1o.headD 0≠35:=by decide
theorem q7r{pv:Bool}{B:List (List Td)}{ts:List Wd}{r:Rp}(h:PG pv B ts r):∀{r':Rp},PG pv B ts r'->r=r':=by
 induction h with
 | done=>intro r' A;cases A;rfl
 | note h0 _ ih=>intro r' A;cases A with
  | note _ h2=>exact ih h2
  | letN=>exact absurd h0 q7p
  | letE=>exact absurd h0 q7p
  | letB=>exact absurd h0 q7p
  | letX=>exact absurd h0 q7p
  | letO=>exact absurd h0 q7p
  | doB h2=>exact absurd h0 h2
  | doX h2=>exact absurd h0 h2
  | doO h2=>exact absurd h0 h2
 | letN h0=>intro r' A;cases A with
  | note h2=>exact absurd h2 q7p
  | letN=>rfl
  | letE h2=>rw[h0 _ rfl]at h2;cases h2
  | letB h2=>rw[h0 _ rfl]at h2;cases h2
  | letX h2=>rw[h0 _ rfl]at h2;cases h2
  | letO h2=>rw[h0 _ rfl]at h2;cases h2
  | doB _ h2=>exact absurd rfl h2
  | doX _ h2=>exact absurd rfl h2
  | doO _ h2=>exact absurd rfl h2
 | letE h0 h1=>intro r' A;cases A with
  | note h2=>exact absurd h2 q7p
  | letN h2=>rw[h2 _ rfl]at h0;cases h0
  | letE=>rfl
  | letB=>simp at h1
  | letX=>simp at h1
  | letO=>simp at h1
  | doB _ h2=>exact absurd rfl h2
  | doX _ h2=>exact absurd rfl h2
  | doO _ h2=>exact absurd rfl h2
 | letB h0 h1=>intro r' A;cases A with
  | note h2=>exact absurd h2 q7p
  | letN h2=>rw[h2 _ rfl]at h0;cases h0
  | letE _ h2=>simp at h2
  | letB _ h2=>cases q2k h1 h2;rfl
  | letX _ h2=>cases q2k h1 h2
  | letO _ h2=>cases q2k h1 h2
  | doB _ h2=>exact absurd rfl h2
  | doX _ h2=>exact absurd rfl h2
  | doO _ h2=>exact absurd rfl h2
 | letX h0 h1 h3=>intro r' A;cases A with
  | note h2=>exact absurd h2 q7p
  | letN h2=>rw[h2 _ rfl]at h0;cases h0
  | letE _ h2=>simp at h2
  | letB _ h2=>cases q2k h1 h2
  | letX _ h2 _=>cases q2k h1 h2;rfl
  | letO _ h2 _=>cases q2k h1 h2;simp at h3
  | doB _ h2=>exact absurd rfl h2
  | doX _ h2=>exact absurd rfl h2
  | doO _ h2=>exact absurd rfl h2
 | letO h0 h1 _ ih=>intro r' A;cases A with
  | note h2=>exact absurd h2 q7p
  | letN h2=>rw[h2 _ rfl]at h0;cases h0
  | letE _ h2=>simp at h2
  | letB _ h2=>cases q2k h1 h2
  | letX _ h2 h4=>cases q2k h1 h2;simp at h4
  | letO _ h2 h4=>cases q2k h1 h2;exact ih h4
  | doB _ h2=>exact absurd rfl h2
  | doX _ h2=>exact absurd rfl h2
  | doO _ h2=>exact absurd rfl h2
 | doB h0 h1 h3=>intro r' A;cases A with
  | note h2=>exact absurd h2 h0
  | letN=>exact absurd rfl h1
  | letE=>exact absurd rfl h1
  | letB=>exact absurd rfl h1
  | letX=>exact absurd rfl h1
  | letO=>exact absurd rfl h1
  | doB _ _ h2=>cases q2k h3 h2;rfl
  | doX _ _ h2=>cases q2k h3 h2
  | doO _ _ h2=>cases q2k h3 h2
 | doX h0 h1 h3 h4=>intro r' A;cases A with
  | note h2=>exact absurd h2 h0
  | letN=>exact absurd rfl h1
  | letE=>exact absurd rfl h1
  | letB=>exact absurd rfl h1
  | letX=>exact absurd rfl h1
  | letO=>exact absurd rfl h1
  | doB _ _ h2=>cases q2k h3 h2
  | doX _ _ h2 _=>cases q2k h3 h2;rfl
  | doO _ _ h2 _=>cases q2k h3 h2;simp at h4
 | doO h0 h1 h3 _ ih=>intro r' A;cases A with
  | note h2=>exact absurd h2 h0
  | letN=>exact absurd rfl h1
  | letE=>exact absurd rfl h1
  | letB=>exact absurd rfl h1
  | letX=>exact absurd rfl h1
  | letO=>exact absurd rfl h1
  | doB _ _ h2=>cases q2k h3 h2
  | doX _ _ h2 h4=>cases q2k h3 h2;simp at h4
  | doO _ _ h2 h4=>cases q2k h3 h2;exact ih h4
def okP:Int->List (List Td)->Prop
 | _,[]=>True
 | prev,t::r=>q0c t=0/\¬(opT t=9/\prev=9)/\okP (opT t) r
theorem v7f:∀(ps:List (List Td))(prev:Int)(k:Nat),(q4i prev k ps).2=0->okP prev ps
 | [],_,_,_=>trivial
 | t::r,prev,k,h=>by
  rw[q4i]at h
  split at h
  ·rename_i h1;exact absurd h h1
  ·rename_i h1
   split at h
   ·cases h
   ·rename_i h2;exact⟨by omega,h2,v7f r _ _ h⟩
theorem z0u{ps:List (List Td)}(h:(q0o ps).2=0):ps.length<=20/\okP 0 ps:=by
 unfold q0o at h
 split at h
 ·cases h
 ·exact⟨by omega,v7f ps 0 0 h⟩
theorem y0v{t:List Td}(h:q0c t=0)(rest:List UInt8)(i:Nat):(lxW (q2n t++10::rest) i).map (·.2)=k6y t++(lxW rest (i+(q2n t).length+1)).map (·.2)/\lxF (q2n t++10::rest) i=lxF rest (i+(q2n t).length+1):=by
 have P:∀{s:List UInt8}{ws:List Wd},Lx s ws->(lxW (s++10::rest) i).map (·.2)=ws++(lxW rest (i+s.length+1)).map (·.2)/\lxF (s++10::rest) i=lxF rest (i+s.length+1):=fun{s ws}I=>by
  obtain⟨Y,Z⟩:=I (10::rest) i (q2i rfl rest);have e:lx (10::rest) (i+s.length)=lx rest (i+s.length+1):=z7h _ _ rfl;rw[Y,Z,lxW,lxF,e];exact⟨rfl,rfl⟩
 rcases q5y h with⟨x,rfl,A,_,O⟩|⟨x,F,rfl,E,K,I,X⟩
 ·have H:q2n [x]=k1q x.tx/\k6y [x]=[k1q x.tx]:=by
   have g:(Fo.nil).len=kdT x:=by unfold kdT;rw[A];rfl
   have:=z7z (x:=x) (F:=.nil) trivial g
   rw[show([x]:List Td)=x::Fo.nil.N from rfl,this.1,this.2];simp[stX,stK,A,k1q]
  have J:=y5h (v3g O) rest i;rw[H.1,H.2,lxW,lxF,J];exact⟨rfl,rfl⟩
 ·have L:F.len=kdT x:=by
   rw[I];unfold kdT;rcases X with⟨h,_⟩|⟨h,_⟩<;>rw[h]<;>rfl
  obtain⟨H,J⟩:=z7z E L;have S:F.R.length=1:=by rw[z0y];exact I
  obtain⟨t,W⟩:∃t,F.R=[t]:=by
   match F.R,S with
   | [t],_=>exact⟨t,rfl⟩
  have M:=j5s F E K t (by rw[W];simp);rw[H,J,W];refine P ?_;have G:=Lx.post M (c:=59) rfl (Lx.mark (c:=59) rfl);rcases X with⟨A,Q,_⟩|⟨A,_,_⟩
  ·obtain⟨c,z,e,_,_,f,C⟩:=q7g (w:=btL x.tx) Q;have B:=Lx.name C (by rw[e];simp) f;have D:Lx z1o [z1o]:=Lx.name (by decide) (by decide) (by decide);have a:Lx (32::61::32::(t.tx++[59])) ([]++([[61]]++([]++(t.tk++[[59]])))):=Lx.pre (Lx.blank (c:=32) rfl) rfl (Lx.pre (Lx.mark (c:=61) rfl) rfl (Lx.pre (Lx.blank (c:=32) rfl) rfl G));have b:=Lx.app B a (q2i rfl _);have d:=Lx.app D (Lx.pre (Lx.blank (c:=32) rfl) rfl b) (q2i rfl _);have U:stX x [t]=z1o++32::(btL x.tx++32::61::32::(t.tx++[59])):=by simp[stX,A,hdT]
   have V:stK x [t]=[z1o]++([]++([btL x.tx]++([]++([[61]]++([]++(t.tk++[[59]])))))):=by simp[stK,A,hdK]
   rw[U,V];exact d
  ·have U:stX x [t]=t.tx++[59]:=by simp[stX,A,hdT]
   have V:stK x [t]=t.tk++[[59]]:=by simp[stK,A,hdK]
   rw[U,V];exact G
theorem k3c:∀(ps:List (List Td))(prev:Int)(i:Nat),okP prev ps->(lxW (q2a ps) i).map (·.2)=ps.flatMap k6y/\lxF (q2a ps) i=none
 | [],_,i,_=>by
  rw[show q2a []=[]from rfl,lxW,lxF,q7q];exact⟨rfl,rfl⟩
 | t::r,prev,i,h=>by
  have e:q2a (t::r)=q2n t++10::q2a r:=by rw[z5v];simp
  obtain⟨A,B⟩:=y0v h.1 (q2a r) i;obtain⟨C,D⟩:=k3c r _ (i+(q2n t).length+1) h.2.2;rw[e,A,B,C,D];exact⟨by simp,rfl⟩
theorem z2c:∀(ps:List (List Td))(prev:Int)(pv:Bool)(acc:List (List Td)),okP prev ps->(pv=true->prev=9)->PG pv acc (ps.flatMap k6y) (.ok (acc++ps))
 | [],_,_,acc,_,_=>by simpa using PG.done
 | t::r,prev,pv,acc,h,hpv=>by
  have ih:∀pv',(pv'=true->opT t=9)->PG pv' (acc++[t]) (r.flatMap k6y) (.ok (acc++[t]++r)):=fun pv' h'=>z2c r (opT t) pv' (acc++[t]) h.2.2 h'
  have e0:acc++t::r=acc++[t]++r:=by simp
  rw[e0,List.flatMap_cons];rcases q5y h.1 with⟨x,rfl,A,D,K⟩|⟨x,F,rfl,G,I,V,C⟩
  ·have X:k6y [x]=[k1q x.tx]:=by
    have Z:(Fo.nil).len=kdT x:=by unfold kdT;rw[A];rfl
    have:=z7z (x:=x) (F:=.nil) trivial Z
    rw[show([x]:List Td)=x::Fo.nil.N from rfl,this.2];simp[stK,A,k1q]
   rw[X]
   have O:pv=false:=by
    cases pv with
    | false=>rfl
    | true=>exact absurd ⟨A,hpv rfl⟩ h.2.1
   have C:x=ntT (btL x.tx):=z8f A rfl D;refine .note (by unfold k1q;split<;>rfl) ?_;rw[k8y K,O]
   have H:v8a false acc (btL x.tx)=acc++[[x]]:=by
    rw[v8a];simp only[Bool.false_eq_true,if_false];rw[<-C]
   rw[H];exact ih true (fun _=>A)
  ·have J:F.len=kdT x:=by
    rw[V];unfold kdT;rcases C with⟨h,_⟩|⟨h,_⟩<;>rw[h]<;>rfl
   obtain⟨_,H⟩:=z7z G J;have Q:F.R.length=1:=by rw[z0y];exact V
   obtain⟨t,P⟩:∃t,F.R=[t]:=by
    match F.R,Q with
    | [t],_=>exact⟨t,rfl⟩
   have W:=z3n F G I t (by rw[P];simp)
   have M:t.ns=F.N:=by
    have:=q9p F
    rw[P]at this;simpa using this
   have B:=k3b W (rest:=[59]::r.flatMap k6y) (by simp) (by simp) (by simp);rw[M]at B;rw[H,P];rcases C with⟨A,L,D⟩|⟨A,S,D⟩
   ·have U:stK x [t]++r.flatMap k6y=z1o::btL x.tx::[61]::(t.tk++[59]::r.flatMap k6y):=by simp[stK,A,hdK]
    have C:x=j0r (btL x.tx):=z8f A rfl D;rw[U];refine .letO L B ?_;rw[<-C];exact ih false (fun h=>by cases h)
   ·have U:stK x [t]++r.flatMap k6y=t.tk++[59]::r.flatMap k6y:=by simp[stK,A,hdK]
    have C:x=doT:=z8f A S D;obtain⟨w,z,Y,a⟩:=W.b;have E:=j1h a;rw[U];rw[Y,List.cons_append]at B⊢;refine .doO E.2.2.2.2 E.2.2.2.1 B ?_;rw[<-C];exact ih false (fun h=>by cases h)
theorem v6p:∀ws:List Wd,(∀w∈ws,w.length<=20)->(jb ws).length<=21*ws.length
 | [],_=>by simp[jb]
 | [w],h=>by
  have:=h w (by simp)
  simp[jb];omega
 | w::u::r,h=>by
  have h1:=h w (by simp);have h2:=v6p (u::r) fun x hx=>h x (by simp[hx])
  rw[jb,List.length_append];simp only[List.length_cons]at h2⊢;omega
theorem z7o{tx:ByteArray}(h:q3k tx=0):tx.size<=1300:=by
 by_cases A:btL tx=[]
 ·have:=q0b tx
  rw[A]at this;simp at this;omega
 ·obtain⟨D,B⟩:=z7p h;have C:q0i (btL tx)=q4y (btL tx):=by rw[q0i,if_neg A]
  rw[C]at D B;have E:=v6p _ fun w hw=>(B w hw).2.1
  rw[z5l]at E;rw[<-q0b];omega
theorem y4f{y:Td}{k:Fo}(B:(Fo.cons y k .nil).ok)(A:(Fo.cons y k .nil).exs)(hl:(Fo.cons y k .nil).N.length<=40):(q0x y k.R).tx.length<=640:=by
 have C:=j8p _ B A (q0x y k.R) (by simp[Fo.R])
 have D:(q0x y k.R).ns=(Fo.cons y k .nil).N:=by
  have:=q9p (Fo.cons y k .nil)
  simpa[Fo.R]using this
 rw[D]at C;omega
theorem v6k{F:Fo}(h:F.len=1):∃y k,F=.cons y k .nil:=by
 cases F with
 | nil=>cases h
 | cons y k n=>
  cases n with
  | nil=>exact⟨y,k,rfl⟩
  | cons _ _ _=>simp[Fo.len]at h
theorem k7a{ds:List Td}(h:q0c ds=0):(q2n ds).length<=2000:=by
 have B:=(q4d h).1;rcases q5y h with⟨x,rfl,A,_,G⟩|⟨x,F,rfl,C,D,I,J⟩
 ·have E:(Fo.nil).len=kdT x:=by unfold kdT;rw[A];rfl
  have K:q2n [x]=stX x []:=(z7z (x:=x) (F:=.nil) trivial E).1;have L:=z7o G;rw[K];unfold stX;rw[if_neg (by omega),if_neg (by omega)]
  split
  ·simp
  ·simp only[List.length_append,List.length_cons,List.length_nil,q0b];omega
 ·obtain⟨y,k,rfl⟩:=v6k I
  have E:(Fo.cons y k .nil).len=kdT x:=by
   rw[I];unfold kdT;rcases J with⟨A,_⟩|⟨A,_⟩<;>rw[A]<;>rfl
  have N:=y4f C D (by have:=B;simp only[List.length_cons]at this;omega);rw[(z7z C E).1];unfold stX;rcases J with⟨A,H,_⟩|⟨A,_,_⟩
  ·have M:=q4a H;rw[if_pos A];simp only[List.length_append,List.length_cons,List.length_nil,hdT,Fo.R];omega
  ·rw[if_neg (by omega),if_pos A];simp only[List.length_append,List.length_cons,List.length_nil,hdT,Fo.R];omega
theorem j6x:∀ps:List (List Td),(∀t∈ps,q0c t=0)->(q2a ps).length<=2001*ps.length
 | [],_=>by simp[q2a]
 | t::r,h=>by
  have h1:=k7a (h t (by simp));have h2:=j6x r fun x hx=>h x (by simp[hx])
  rw[z5v];simp only[List.length_append,List.length_cons,List.length_nil];omega
def y2g(s:ByteArray)(u:List Wd):Nat:=((z5t (btL s))[(q2x (btL s)).length-u.length]?).getD s.size
inductive q6l (s:ByteArray):List (List Td)->Int->Int->Prop where
 | lex (h:q6h (btL s)≠0):q6l s [] ((z7d (btL s):Nat):Int) (q6h (btL s))
 | bad {u} (h:q6h (btL s)=0) (hg:PG false [] (q2x (btL s)) (.bad u)):q6l s [] ((y2g s u:Nat):Int) 5
 | full {qs} (h:q6h (btL s)=0) (hg:PG false [] (q2x (btL s)) (.ok qs)) (hf:(q0o qs).2≠0):q6l s [] 0 (q0o qs).2
 | ok {qs} (h:q6h (btL s)=0) (hg:PG false [] (q2x (btL s)) (.ok qs)) (hf:(q0o qs).2=0):q6l s qs 0 0
theorem q0p{s:ByteArray}{p p':List (List Td)}{k k' f f':Int}(h:q6l s p k f)(h':q6l s p' k' f'):p=p'/\k=k'/\f=f':=by
 cases h with
 | lex h1=>cases h' with
  | lex _=>exact⟨rfl,rfl,rfl⟩
  | bad h2=>exact absurd h2 h1
  | full h2=>exact absurd h2 h1
  | ok h2=>exact absurd h2 h1
 | bad h1 hg=>cases h' with
  | lex h2=>exact absurd h1 h2
  | bad _ hg'=>cases q7r hg hg';exact⟨rfl,rfl,rfl⟩
  | full _ hg'=>cases q7r hg hg'
  | ok _ hg'=>cases q7r hg hg'
 | full h1 hg hf=>cases h' with
  | lex h2=>exact absurd h1 h2
  | bad _ hg'=>cases q7r hg hg'
  | full _ hg'=>cases q7r hg hg';exact⟨rfl,rfl,rfl⟩
  | ok _ hg' hf'=>cases q7r hg hg';exact absurd hf' hf
 | ok h1 hg hf=>cases h' with
  | lex h2=>exact absurd h1 h2
  | bad _ hg'=>cases q7r hg hg'
  | full _ hg' hf'=>cases q7r hg hg';exact absurd hf hf'
  | ok _ hg'=>cases q7r hg hg';exact⟨rfl,rfl,rfl⟩
theorem z3m:∀(ps:List (List Td))(prev:Int),okP prev ps->∀t∈ps,q0c t=0
 | t::r,prev,h,x,hx=>by
  rcases List.mem_cons.1 hx with rfl|hx
  ·exact h.1
  ·exact z3m r _ h.2.2 x hx
theorem y8o(l:List UInt8):btL (wbS l)=l:=rfl
def Prg(w:World)(a:Option Addr)(ps:List (List Td)):Prop:=
 ∀i(h:i<ps.length),∃b o a' c',a=some ⟨b,o,none⟩/\b<w.heap.size/\w.cell? ⟨b,o+i,none⟩=some (.slice a' ps[i].length c')/\ps[i].length<=c'/\Tds w a' ps[i]
theorem Prg.W{w w':World}{a:Option Addr}{ps:List (List Td)}(h:Prg w a ps)(hb:Below w w w'):Prg w' a ps:=by
 intro i H;obtain⟨b,o,B,C,e,A,D,E,G⟩:=h i H
 have:=hb.size
 exact⟨b,o,B,C,e,by omega,((q0t hb).1 _ _ A).trans D,E,G.W hb⟩
theorem Prg.nil(w:World)(a:Option Addr):Prg w a []:=fun i hi=>by simp at hi
def y3j(ps:List (List Td)):ByteArray:=if(q0o ps).2=0 then wbS (q2a ps)else⟨#[]⟩
theorem j6z{ps:List (List Td)}(h:(q0o ps).2=0):y3j ps=wbS (q2a ps):=by rw[y3j,if_pos h]
theorem y2h{ps:List (List Td)}(h:(q0o ps).2≠0):y3j ps=⟨#[]⟩:=by rw[y3j,if_neg h]
def z2h(s:ByteArray)(W:World)(e:Ending)(w':World):Prop:=∃ps k f A c,e=.returned (.tuple #[.slice A ps.length c,.int .i64 k,q0s f])/\q6l s ps k f/\Prg w' A ps/\ps.length<=c/\Below W W w'
abbrev neW(w:Wd):Bool:=!w.isEmpty
theorem k2o:∀(ws:List Wd)(t:Wd),ws.foldl z4k t=(ws.filter neW).foldl z4k t
 | [],_=>rfl
 | w::r,t=>by
  cases w with
  | nil=>
   have e:z4k t []=t:=by simp[z4k]
   rw[List.foldl_cons,e,k2o r t];rfl
  | cons c z=>exact k2o r _
theorem z2t:∀(l cur h:Wd)(tl:List Wd),(∀b∈l,Lib.isSp b=true->b=32)->q4y l=h::tl->Lib.fieldsGo cur l=((cur++h)::tl).filter neW
 | [],cur,h,tl,_,e=>by
  have e2:[[]]=h::tl:=e;simp only[List.cons.injEq]at e2;obtain⟨rfl,rfl⟩:=e2;cases cur<;>simp[Lib.fieldsGo]
 | b::l,cur,h,tl,hb,e=>by
  have hl:∀x∈l,Lib.isSp x=true->x=32:=fun x hx=>hb x (by simp[hx])
  cases hs:q4y l with
  | nil=>exact absurd hs (q6s l)
  | cons h2 tl2=>
   by_cases h32:b=32
   ·subst h32;rw[q5i,hs]at e;simp only[List.cons.injEq]at e;obtain⟨rfl,rfl⟩:=e;have ih:=z2t l [] h2 tl2 hl hs;have hsp:Lib.isSp 32=true:=by decide
    cases cur with
    | nil=>rw[Lib.fieldsGo_sp _ _ hsp,ih];simp
    | cons a z=>rw[Lib.fieldsGo_end _ _ _ hsp (by simp),ih];simp
   ·have hsp:Lib.isSp b=false:=by
     cases A:Lib.isSp b with
     | false=>rfl
     | true=>exact absurd (hb b (by simp) A) h32
    rw[q5j h32 hs]at e;simp only[List.cons.injEq]at e;obtain⟨rfl,rfl⟩:=e;rw[Lib.fieldsGo_more _ _ _ hsp,z2t l (cur++[b]) h2 tl2 hl hs];simp
theorem z0g{l:Wd}(h:∀b∈l,Lib.isSp b=true->b=32):Lib.fields l=(q4y l).filter neW:=by
 cases A:q4y l with
 | nil=>exact absurd A (q6s l)
 | cons a tl=>exact z2t l [] a tl h A
theorem z9f{l:Wd}(h:∀b∈l,Lib.isSp b=true->b=32):∀w∈Lib.fields l,w≠[]:=by
 intro w A;rw[z0g h]at A
 have:=(List.mem_filter.1 A).2
 rintro rfl;simp at this
theorem k8z{l:Wd}(h:∀b∈l,Lib.isSp b=true->b=32):ntx (q0i l)=jb (Lib.fields l):=by
 have e:(q0i l).filter neW=Lib.fields l:=by
  rw[z0g h];unfold q0i
  split
  ·rename_i h0;subst h0;rfl
  ·rfl
 rw[<-v7d (z9f h),<-e,ntx,ntx,k2o]
theorem j4h:∀(a b:List Wd),a≠[]->b≠[]->jb (a++b)=jb a++32::jb b
 | [w],b,_,hb=>by
  cases b with
  | nil=>exact absurd rfl hb
  | cons x y=>simp[jb]
 | w::u::r,b,_,hb=>by
  have ih:=j4h (u::r) b (by simp) hb;rw[List.cons_append]at ih;simp only[List.cons_append,jb]at ih⊢;rw[ih];simp
theorem v6q{a:List Wd}(h:∀w∈a,w≠[]):jb a=[]↔a=[]:=by
 cases a with
 | nil=>simp[jb]
 | cons w r=>
  have:=h w (by simp)
  constructor
  ·intro e;have A:w++(match r with|[]=>[]|_::_=>32::jb r)=[]:=e;exact absurd (List.append_eq_nil_iff.1 A).1 this
  ·intro e;cases e
theorem v8b{a b:List Wd}(ha:∀w∈a,w≠[])(hb:∀w∈b,w≠[]):z4k (jb a) (jb b)=jb (a++b):=by
 by_cases A:a=[]
 ·subst A
  have:jb ([]:List Wd)=[]:=rfl
  rw[this,z4k,if_neg (by simp)];rfl
 ·by_cases B:b=[]
  ·subst B
   have:jb ([]:List Wd)=[]:=rfl
   rw[this,z4k,if_neg (by simp)];simp
  ·have C:jb a≠[]:=fun e=>A ((v6q ha).1 e)
   have D:jb b≠[]:=fun e=>B ((v6q hb).1 e)
   rw[z4k,if_pos ⟨D,C⟩,j4h a b A B];simp
theorem j4i:∀ws:List Wd,Lib.join ws [32]=jb ws
 | []=>rfl
 | [w]=>by rw[Lib.join_one];simp[jb]
 | w::u::r=>by
  have ih:=j4i (u::r);rw[Lib.join_cons]at ih⊢;rw[jb,<-ih];simp[Lib.joinTail]
def q8f(w:Wd):List Wd:=Lib.fields (w.drop 1)
def v6o(w:Wd):Prop:=w.headD 0=35/\∀b∈w,prB b=true
theorem y6h{b:UInt8}(h:prB b=true)(hs:Lib.isSp b=true):b=32:=by
 simp only[prB,Bool.and_eq_true,decide_eq_true_eq]at h;simp only[Lib.isSp,Bool.or_eq_true,beq_iff_eq]at hs;have A:=h.1;rcases hs with(((((e|e)|e)|e)|e)|e)<;>subst e<;>first|rfl|(exfalso;revert A;decide)
theorem y5y{w:Wd}(h:v6o w):∀b∈w.drop 1,Lib.isSp b=true->b=32:=fun b hb hs=>y6h (h.2 b (List.mem_of_mem_drop hb)) hs
theorem y5z{w:Wd}(h:v6o w):z3j w=jb (q8f w):=k8z (y5y h)
theorem j3u{w:Wd}(h:v6o w):∀x∈q8f w,x≠[]:=z9f (y5y h)
theorem j1a(A:List (List Td))(X t:Wd):v8a true (A++[[ntT X]]) t=A++[[ntT (z4k X t)]]:=by
 have e:z5m (A++[[ntT X]])=X:=by
  simp only[z5m,List.getLast?_append,List.getLast?_singleton];rfl
 rw[v8a,if_pos rfl,e,List.dropLast_concat]
theorem j6s:∀(nts:List Wd)(acc:List (List Td))(W:List Wd)(ts:List Wd)(r:Rp),(∀w∈nts,v6o w)->(∀x∈W,x≠[])->PG true (acc++[[ntT (jb (W++nts.flatMap q8f))]]) ts r->PG true (acc++[[ntT (jb W)]]) (nts++ts) r
 | [],acc,W,ts,r,_,_,h=>by simpa using h
 | w::z,acc,W,ts,r,hn,hW,h=>by
  have hw:=hn w (by simp);refine .note hw.1 ?_;rw[j1a,y5z hw,v8b hW (j3u hw)];refine j6s z acc (W++q8f w) ts r (fun x hx=>hn x (by simp[hx])) ?_ ?_
  ·intro x hx;rcases List.mem_append.1 hx with hx|hx
   ·exact hW x hx
   ·exact j3u hw x hx
  ·rw[List.flatMap_cons,<-List.append_assoc]at h;exact h
theorem v3s{A:List Wd}{B:List (List Td)}{ts:List Wd}{r:Rp}(h0:A≠[])(hn:∀w∈A,v6o w)(h:PG true (B++[[ntT (jb (A.flatMap q8f))]]) ts r):PG false B (A++ts) r:=by
 cases A with
 | nil=>exact absurd rfl h0
 | cons w z=>
  have C:=hn w (by simp);refine .note C.1 ?_;rw[v8a,if_neg (by simp),y5z C];refine j6s z B (q8f w) ts r (fun x hx=>hn x (by simp[hx])) (j3u C) ?_;rw[List.flatMap_cons]at h;exact h
theorem j8e{p:UInt8->Bool}{c:UInt8}{r:List UInt8}(hc:p c=true)(hl:(r.takeWhile p).length+1=(c::r).length):∀b∈c::r,p b=true:=by
 have B:r.takeWhile p=r:=by
  have G:=z4u (p:=p) r;rw[show(r.takeWhile p).length=r.length by simp only[List.length_cons]at hl;omega,List.take_length]at G;exact G.symm
 have E:∀(l:List UInt8)x,x∈l.takeWhile p->p x=true:=by
  intro l
  induction l with
  | nil=>intro x A;cases A
  | cons a l ih=>
   intro x A;rw[List.takeWhile_cons]at A;by_cases D:p a=true
   ·rw[if_pos D]at A;rcases List.mem_cons.1 A with rfl|A
    ·exact D
    ·exact ih x A
   ·rw[if_neg D]at A;cases A
 intro b C;rcases List.mem_cons.1 C with rfl|C
 ·exact hc
 ·rw[<-B]at C;exact E r b C
theorem v7q{w:Wd}(h:q3q w):w≠[]:=by
 obtain⟨c,r,rfl,_⟩:=h;simp
theorem v4w{w:Wd}(h:q3q w):nmW w=(decide (w≠z1o)&&q3g (w.headD 0)):=by
 obtain⟨c,r,rfl,_,I,D,_⟩:=h;have C:btL (wbS (c::r))=c::r:=rfl;have B:(wbS (c::r)).size=(c::r).length:=by rw[<-q0b,C]
 unfold nmW q1f;rw[C,B];show _=(decide ((c::r)≠z1o)&&q3g c);cases A:q3g c with
 | false=>simp[A]
 | true=>
  simp only[q4o,A,if_true,decide_eq_true_eq]at I;simp only[q0m,A,if_true]at D;have E:=j8e A D;have G:(c::r).all q3g=true:=List.all_eq_true.2 E;rw[G];have H:(c::r).length<=8:=by omega
  simp only[List.length_cons]at H⊢;simp;omega
theorem y2v{w:Wd}(h:q3q w)(hn:k3j w=true):(∀b∈w,q2s b=true)/\w.length<=6:=by
 obtain⟨c,r,rfl,_,D,C,_⟩:=h;have B:q2s c=true:=hn;have A:q3g c=false:=k2l B;simp only[q4o,A,B,if_true,Bool.false_eq_true,if_false,Bool.and_eq_true,decide_eq_true_eq]at D;simp only[q0m,A,B,if_true,Bool.false_eq_true,if_false]at C;exact⟨j8e B C,by omega⟩
theorem y6t{w:Wd}(h:q3q w)(hn:w.headD 0=35):v6o w:=by
 obtain⟨c,r,rfl,_,C,I,_⟩:=h;have J:c=35:=hn;subst J;have D:q3g 35=false:=by decide
 have E:q2s 35=false:=by decide
 have G:((35:UInt8)==35)=true:=by decide
 simp only[q4o,D,E,G,if_true,Bool.false_eq_true,if_false]at C;simp only[q0m,D,E,G,if_true,Bool.false_eq_true,if_false]at I
 have A:r.takeWhile nlB=r:=by
  have H:=z4u (p:=nlB) r;rw[show(r.takeWhile nlB).length=r.length by simp only[List.length_cons]at I;omega,List.take_length]at H;exact H.symm
 rw[A,List.all_eq_true]at C;refine⟨rfl,fun b B=>?_⟩;rcases List.mem_cons.1 B with rfl|B
 ·decide
 ·exact C b B
theorem y4a{s:ByteArray}{k:Nat}(h:k<s.size):s[k]∈s.data.toList:=by
 have A:k<s.data.toList.length:=by rw[<-Lib.size_eq];exact h
 exact List.getElem_mem A
theorem v3l{s:ByteArray}(h1:1<=s.size)(h2:s.size<=20)(h:∀k(h:k<s.size),q9r s[k]=true):okW s=true:=by
 simp only[okW,h1,h2,decide_true,Bool.true_and,List.all_eq_true];intro b A;obtain⟨i,B,rfl⟩:=List.getElem_of_mem A;exact h i (by rw[Lib.size_eq];exact B)
theorem y2d{s:ByteArray}{k:Nat}(h:k<s.size)(hb:q9r s[k]=false):okW s=false:=by
 cases e:okW s with
 | false=>rfl
 | true=>
  simp only[okW,Bool.and_eq_true,List.all_eq_true]at e
  have:=e.2 s[k] (y4a h)
  rw[hb]at this;cases this
theorem k4a{b:UInt8}(h:q9r b=false):(b.toNat:Int)<33\/(¬(b.toNat:Int)<33/\126<(b.toNat:Int)):=by
 simp[q9r]at h;omega
theorem j0h{b:UInt8}(h:q9r b=true):¬(b.toNat:Int)<33/\¬126<(b.toNat:Int):=by
 simp[q9r]at h;omega
theorem q8c{ws:List ByteArray}(h:60<ws.length):q1h ws=3:=by rw[q1h,if_pos h]
theorem j0k{ws:List ByteArray}{k:Nat}(hl:ws.length<=60)(hk:k<ws.length)(h:okW ws[k]=false):q1h ws=5:=by
 rw[q1h,if_neg (by omega),if_neg];intro e
 have:=List.all_eq_true.1 e ws[k] (List.getElem_mem hk)
 rw[h]at this;cases this
theorem j0j{ws:List ByteArray}(hl:ws.length<=60)(h:∀j(h:j<ws.length),okW ws[j]=true):q1h ws=0:=by
 rw[q1h,if_neg (by omega),if_pos];rw[List.all_eq_true];intro x B;obtain⟨j,A,rfl⟩:=List.getElem_of_mem B;exact h j A
theorem z9x:∀(z r:List UInt8)(i:Nat),(∀x∈z,x=32)->lx (z++r) i=lx r (i+z.length)
 | [],r,i,_=>by simp
 | c::z,r,i,h=>by
  have hc:c=32:=h c (by simp);subst hc;rw[List.cons_append,z7h _ _ (by decide),z9x z r (i+1) (fun x hx=>h x (by simp[hx])),List.length_cons]
  congr 1;omega
theorem v7r{p:UInt8->Bool}:∀(l:List UInt8)x,x∈l.takeWhile p->p x=true
 | [],x,hx=>by cases hx
 | a::l,x,hx=>by
  rw[List.takeWhile_cons]at hx;by_cases ha:p a=true
  ·rw[if_pos ha]at hx;rcases List.mem_cons.1 hx with rfl|hx
   ·exact ha
   ·exact v7r l x hx
  ·rw[if_neg ha]at hx;cases hx
theorem z6c(w:List UInt8):∃z,w=q1d w++z/\∀x∈z,x=32:=by
 refine⟨(w.reverse.takeWhile (·==32)).reverse,?_,fun x hx=>?_⟩
 ·rw[q1d,<-List.reverse_append,List.takeWhile_append_dropWhile,List.reverse_reverse]
 ·have:=v7r _ _ (List.mem_reverse.1 hx)
  exact beq_iff_eq.1 this
theorem z0w(s:List UInt8):(tkW s).length<=s.length:=by
 have A:=q9o (s.take (q0m s));rw[List.length_take]at A;rw[tkW];omega
theorem v2u(s:List UInt8)(i:Nat):lx (s.drop (tkW s).length) (i+(tkW s).length)=lx (s.drop (q0m s)) (i+q0m s):=by
 obtain⟨z,D,B⟩:=z6c (s.take (q0m s));have C:=q7k s;have A:=congrArg List.length D;rw[List.length_append,List.length_take,Nat.min_eq_left C]at A
 have e:s.drop (tkW s).length=z++s.drop (q0m s):=by
  have E:s=q1d (s.take (q0m s))++(z++s.drop (q0m s)):=by
   rw[<-List.append_assoc,<-D,List.take_append_drop]
  have G:s.drop (tkW s).length=(q1d (s.take (q0m s))++(z++s.drop (q0m s))).drop (tkW s).length:=congrArg (List.drop _) E;rw[G,tkW,List.drop_left]
 rw[e,z9x z _ _ B]
 congr 1
 rw[tkW];omega
theorem y2u{c:UInt8}{r:List UInt8}(hs:spB c=false)(ho:q4o (c::r)=true):1<=(tkW (c::r)).length:=j8f (v7p hs ho)
theorem y8r{c:UInt8}{r:List UInt8}(hl:q3g c=true):tkW (c::r)=(c::r).takeWhile q3g/\q4o (c::r)=decide (((c::r).takeWhile q3g).length<=8):=by
 refine⟨?_,?_⟩
 ·simp only[tkW,q0m,hl,if_true,List.take_succ_cons,z4u,List.takeWhile_cons];exact q7l (fun _=>z9t) c hl r
 ·simp only[q4o,hl,if_true,List.takeWhile_cons,List.length_cons]
theorem y8q{c:UInt8}{r:List UInt8}(hl:q3g c=false)(hf:q2s c=true):tkW (c::r)=(c::r).takeWhile q2s/\q4o (c::r)=(decide (((c::r).takeWhile q2s).length<=6)&&(c != 48||(c::r).takeWhile q2s==[48])):=by
 refine⟨?_,?_⟩
 ·simp only[tkW,q0m,hl,hf,if_true,Bool.false_eq_true,if_false,List.take_succ_cons,z4u,List.takeWhile_cons];exact q7l (fun _=>z9g) c hf r
 ·simp only[q4o,hl,hf,if_true,Bool.false_eq_true,if_false,List.takeWhile_cons,List.length_cons]
  congr 1
  by_cases h:c=48
  ·subst h;cases A:r.takeWhile q2s with
   | nil=>rfl
   | cons a b=>
    simp
  ·have:(c != 48)=true:=by simp[h]
   rw[this];rfl
theorem v5t{p:UInt8->Bool}:∀l:List UInt8,(l.takeWhile p==l)=l.all p
 | []=>rfl
 | a::l=>by
  rw[List.takeWhile_cons,List.all_cons];cases h:p a with
  | true=>
   rw[if_pos rfl,<-v5t l];simp
  | false=>simp
theorem y4k{c:UInt8}{r:List UInt8}(hl:q3g c=false)(hf:q2s c=false)(hn:c=35):tkW (c::r)=q1d ((c::r).takeWhile nlB)/\q4o (c::r)=((q1d ((c::r).takeWhile nlB)).takeWhile prB==q1d ((c::r).takeWhile nlB)):=by
 subst hn;have B:(35::r:List UInt8).takeWhile nlB=35::r.takeWhile nlB:=by rw[List.takeWhile_cons];rfl
 refine⟨?_,?_⟩
 ·simp only[tkW,q0m,hl,hf,if_true,Bool.false_eq_true,if_false,List.take_succ_cons,z4u,beq_self_eq_true,B]
 ·rw[v5t,B];simp only[q4o,hl,hf,if_true,Bool.false_eq_true,if_false,beq_self_eq_true];obtain⟨z,G,A⟩:=z6c (35::r.takeWhile nlB)
  have C:(35::r.takeWhile nlB).all prB=((q1d (35::r.takeWhile nlB)).all prB&&z.all prB):=by
   rw[<-List.all_append,<-G]
  have D:z.all prB=true:=by
   rw[List.all_eq_true];intro x E;rw[A x E];decide
  rw[D,Bool.and_true,List.all_cons]at C;rw[<-C];rfl
theorem y4j{c:UInt8}{r:List UInt8}(hs:spB c=false)(hl:q3g c=false)(hf:q2s c=false)(hn:(c==35)=false):tkW (c::r)=[c]/\q4o (c::r)=y7x c:=by
 refine⟨?_,?_⟩
 ·simp only[tkW,q0m,hl,hf,hn,Bool.false_eq_true,if_false,List.take_succ_cons,List.take_zero];exact q1k [] (k9s hs)
 ·simp only[q4o,hl,hf,hn,Bool.false_eq_true,if_false]
theorem j5z:∀l:List UInt8,Lib.indexByte l 10=-1->l.takeWhile nlB=l
 | [],_=>rfl
 | b::l,h=>by
  unfold Lib.indexByte at h;have hge:=Lib.indexByte_ge l 10
  split at h
  ·cases h
  ·rename_i hb;have hb':nlB b=true:=by simpa[nlB]using hb
   split at h
   ·rename_i h1;rw[List.takeWhile_cons,if_pos hb',j5z l (by simpa using h1)]
   ·omega
theorem v7b:∀(l:List UInt8)(i:Nat),Lib.indexByte l 10=i->l.takeWhile nlB=l.take i/\i+1<=l.length
 | [],i,h=>by simp[Lib.indexByte]at h
 | b::l,i,h=>by
  unfold Lib.indexByte at h;have hge:=Lib.indexByte_ge l 10
  split at h
  ·rename_i hb
   have:i=0:=by omega
   subst this;have A:nlB b=false:=by simpa[nlB]using hb
   rw[List.takeWhile_cons,if_neg (by simp[A])];simp
  ·rename_i hb;have A:nlB b=true:=by simpa[nlB]using hb
   split at h
   ·omega
   ·rename_i h1;have C:Lib.indexByte l 10≠-1:=by simpa using h1
    obtain⟨j,rfl⟩:∃j,i=j+1:=⟨i-1,by omega⟩;obtain⟨B,D⟩:=v7b l j (by omega);rw[List.takeWhile_cons,if_pos A,B,List.take_succ_cons];exact⟨rfl,by simp;omega⟩
theorem v6n:∀(l:List UInt8)(c:UInt8),decide (0<=Lib.indexByte l c)=l.any (·==c)
 | [],c=>rfl
 | b::l,c=>by
  unfold Lib.indexByte;have hge:=Lib.indexByte_ge l c;have ih:=v6n l c;rw[List.any_cons,<-ih];cases hb:(b==c)with
  | true=>simp
  | false=>
   simp only[Bool.false_eq_true,if_false,Bool.false_or];by_cases h:Lib.indexByte l c=-1
   ·simp[h]
   ·have h2:(Lib.indexByte l c==-1)=false:=by simpa using h
    rw[h2];simp only[Bool.false_eq_true,if_false];rw[decide_eq_true (by omega),decide_eq_true (by omega)]
end Go.Proofs.YtelcnplcpboonaaGreatDoor
