import Derived.Test.YthcpdohdppkmkaaGreatDoorPu03
open Go.Proofs.Tryz
namespace Go.Proofs.YthcpdohdppkmkaaGreatDoor
open Go Go.RowKit
def z1t(t l:Wd):Wd:=(if l≠[]/\t≠[]then t++[32]else t)++l
def ntx(ws:List Wd):Wd:=ws.foldl z1t []
def q5i(w:Wd):Wd:=ntx (q0j (w.drop 1))
def jb:List Wd->Wd
 | []=>[]
 | w::r=>w++match r with
  | []=>[]
  | _::_=>32::jb r
theorem z5e:∀s:List UInt8,jb (q5r s)=s
 | []=>rfl
 | c::r=>by
  have ih:=z5e r;by_cases hc:c=32
  ·subst hc;rw[q6e];cases hs:q5r r with
   | nil=>exact absurd hs (q6z r)
   | cons w ws=>
    rw[hs]at ih;simp[jb,<-ih]
  ·cases hs:q5r r with
   | nil=>exact absurd hs (q6z r)
   | cons w ws=>
    rw[q6f hc hs];rw[hs]at ih;rw[<-ih];simp[jb]
theorem j8n:∀(ws:List Wd)(t:Wd),(∀w∈ws,w≠[])->t≠[]->ws.foldl z1t t=t++(match ws with|[]=>[]|_::_=>32::jb ws)
 | [],t,_,_=>by simp
 | w::r,t,h,ht=>by
  have hw:=h w (by simp);have e:z1t t w=t++32::w:=by simp[z1t,hw,ht]
  rw[List.foldl_cons,e,j8n r _ (fun x hx=>h x (by simp[hx])) (by simp)];cases r with
  | nil=>simp[jb]
  | cons u r=>simp[jb]
theorem y2j{ws:List Wd}(h:∀w∈ws,w≠[]):ntx ws=jb ws:=by
 cases ws with
 | nil=>rfl
 | cons w r=>
  have hw:=h w (by simp);have e:z1t [] w=w:=by simp[z1t]
  rw[ntx,List.foldl_cons,e,j8n r w (fun x hx=>h x (by simp[hx])) hw];cases r<;>simp[jb]
theorem v0z(ws:List Wd):ntx ([]::ws)=ntx ws:=by
 have e:z1t [] []=[]:=by simp[z1t]
 rw[ntx,List.foldl_cons,e];rfl
theorem z2q{tx:ByteArray}(h:q3m tx=0):(q0j (btL tx)).length<=60/\∀w∈q0j (btL tx),w≠[]/\w.length<=20/\∀b∈w,q8z b=true:=by
 obtain⟨h1,h2⟩:=q9s h;refine⟨by simpa using h1,fun w hw=>?_⟩;have h3:=h2 (wbS w) (List.mem_map.2 ⟨w,hw,rfl⟩);have hl:(wbS w).size=w.length:=by rw[<-q0b];rfl
 simp only[okW,Bool.and_eq_true,decide_eq_true_eq,List.all_eq_true,hl]at h3;refine⟨fun e=>?_,h3.1.2,h3.2⟩;rw[e]at h3;simp at h3
def z9z(tx:ByteArray):Wd:=if tx.size=0 then [35]else [35,32]++btL tx
theorem q6x{tx:ByteArray}:tx.size=0↔btL tx=[]:=by
 rw[<-q0b];exact List.length_eq_zero_iff
theorem z7v{tx:ByteArray}(h:q3m tx=0):q5i (z9z tx)=btL tx:=by
 obtain⟨_,h2⟩:=z2q h;unfold z9z q5i;by_cases h0:tx.size=0
 ·rw[if_pos h0,q6x.1 h0];rfl
 ·rw[if_neg h0];have hne:btL tx≠[]:=fun e=>h0 (q6x.2 e)
  have e1:([35,32]++btL tx).drop 1=32::btL tx:=rfl;have e2:q0j (btL tx)=q5r (btL tx):=by rw[q0j,if_neg hne]
  rw[e1,q0j,if_neg (by simp),q6e,v0z,y2j (fun w hw=>(h2 w (by rw[e2];exact hw)).1),z5e]
theorem z9j{p:UInt8->Bool}(h32:p 32=true):∀ws:List Wd,(∀w∈ws,∀b∈w,p b=true)->∀b∈jb ws,p b=true
 | [],_,b,hb=>by cases hb
 | [w],h,b,hb=>by
  have e:jb [w]=w:=by simp[jb]
  rw[e]at hb;exact h w (by simp) b hb
 | w::u::r,h,b,hb=>by
  have e:jb (w::u::r)=w++32::jb (u::r):=by simp[jb]
  rw[e]at hb;rcases List.mem_append.1 hb with hb|hb
  ·exact h w (by simp) b hb
  ·rcases List.mem_cons.1 hb with rfl|hb
   ·exact h32
   ·exact z9j h32 (u::r) (fun x hx=>h x (by simp[hx])) b hb
theorem j8x:∀(ws:List Wd),ws≠[]->(∀w∈ws,w≠[])->∃v c,jb ws=v++[c]/\∃w∈ws,c∈w
 | [],h,_=>absurd rfl h
 | [w],_,h=>by
  have hw:=h w (by simp);rcases List.eq_nil_or_concat w with e|⟨v,c,e⟩
  ·exact absurd e hw
  ·exact⟨v,c,by rw[jb,e];simp,w,by simp,by rw[e];simp⟩
 | w::u::r,_,h=>by
  obtain⟨v,c,e,x,hx,hc⟩:=j8x (u::r) (by simp) fun y hy=>h y (by simp[hy])
  exact⟨w++32::v,c,by rw[jb];simp[e],x,by simp[hx],hc⟩
theorem k0b{tx:ByteArray}(h:q3m tx=0):q3v (z9z tx):=by
 obtain⟨_,h2⟩:=z2q h;unfold z9z;by_cases h0:tx.size=0
 ·rw[if_pos h0];exact⟨35,[],rfl,rfl,rfl,rfl,rfl⟩
 ·rw[if_neg h0];have hne:btL tx≠[]:=fun e=>h0 (q6x.2 e)
  have e2:q0j (btL tx)=q5r (btL tx):=by rw[q0j,if_neg hne]
  rw[e2]at h2;have hj:=z5e (btL tx)
  have hpr:∀b∈btL tx,prB b=true/\nlB b=true:=by
   intro b hb;rw[<-hj]at hb
   have:=z9j (p:=fun b=>prB b&&nlB b) rfl (q5r (btL tx)) (fun w hw b hb=>by
    have h3:=(h2 w hw).2.2 b hb;simp only[q8z,Bool.and_eq_true,decide_eq_true_eq]at h3;simp only[prB,nlB,Bool.and_eq_true,decide_eq_true_eq,bne_iff_ne,ne_eq];refine⟨by omega,?_⟩;rintro rfl
    simp at h3) b hb
   simpa using this
  have htw:(32::btL tx).takeWhile nlB=32::btL tx:=by
   have:=j1u (p:=nlB) (32::btL tx) [] (fun x hx=>by
    rcases List.mem_cons.1 hx with rfl|hx
    ·rfl
    ·exact(hpr x hx).2) (fun b hb=>by cases hb)
   rw[List.append_nil]at this;exact this
  refine⟨35,32::btL tx,rfl,rfl,?_,?_,?_⟩
  ·simp only[q5f];rw[htw];simp only[q3w,q4d];show List.all _ _=true;rw[List.all_eq_true];intro x hx;rcases List.mem_cons.1 hx with rfl|hx
   ·rfl
   ·exact(hpr x hx).1
  ·simp only[q0t];rw[htw];rfl
  ·obtain⟨v,c,e,w,hw,hc⟩:=j8x (q5r (btL tx)) (q6z _) (fun w hw=>(h2 w hw).1);rw[hj]at e
   have hc32:c≠32:=by
    rintro rfl
    have:=(h2 w hw).2.2 32 hc
    revert this;decide
   have e3:(35::32::btL tx)=(35::32::v)++[c]:=by rw[e];rfl
   rw[e3];exact q1m _ hc32
inductive Rp where
 | ok (ps:List (List Td)):Rp
 | bad (rest:List Wd):Rp
abbrev q9l:Wd:=[108,101,116]
def ntT(t:Wd):Td:=⟨9,wbS t,0⟩
def z3x(w:Wd):Td:=⟨7,wbS w,0⟩
def doT:Td:=⟨8,⟨#[]⟩,0⟩
def q5g(acc:List (List Td)):Wd:=match acc.getLast? with
 | some (x::_)=>btL x.tx
 | _=>[]
def k5g(pv:Bool)(acc:List (List Td))(t:Wd):List (List Td):=if pv then acc.dropLast++[[ntT (z1t (q5g acc) t)]]else acc++[[ntT t]]
inductive PG:Bool->List (List Td)->List Wd->Rp->Prop where
 | done {pv acc}:PG pv acc [] (.ok acc)
 | note {pv acc w ts r}:w.headD 0=35->PG true (k5g pv acc (q5i w)) ts r->PG pv acc (w::ts) r
 | letN {pv acc ts}:(∀w,ts.head?=some w->nmW w=false)->PG pv acc (q9l::ts) (.bad ts)
 | letE {pv acc nm ts}:nmW nm=true->ts.head?≠some [61]->PG pv acc (q9l::nm::ts) (.bad ts)
 | letB {pv acc nm ts u}:nmW nm=true->PR (.level 0) ts (.bad u)->PG pv acc (q9l::nm::[61]::ts) (.bad u)
 | letX {pv acc nm ts m ns u}:nmW nm=true->PR (.level 0) ts (.ok m ns u)->u.head?≠some [59]->PG pv acc (q9l::nm::[61]::ts) (.bad u)
 | letO {pv acc nm ts m ns u r}:nmW nm=true->PR (.level 0) ts (.ok m ns ([59]::u))->PG false (acc++[z3x nm::ns]) u r->PG pv acc (q9l::nm::[61]::ts) r
 | doB {pv acc w ts u}:w.headD 0≠35->w≠q9l->PR (.level 0) (w::ts) (.bad u)->PG pv acc (w::ts) (.bad u)
 | doX {pv acc w ts m ns u}:w.headD 0≠35->w≠q9l->PR (.level 0) (w::ts) (.ok m ns u)->u.head?≠some [59]->PG pv acc (w::ts) (.bad u)
 | doO {pv acc w ts m ns u r}:w.headD 0≠35->w≠q9l->PR (.level 0) (w::ts) (.ok m ns ([59]::u))->PG false (acc++[doT::ns]) u r->PG pv acc (w::ts) r
theorem q9b:q9l.headD 0≠35:=by decide
theorem q9d{pv:Bool}{acc:List (List Td)}{ts:List Wd}{r:Rp}(h:PG pv acc ts r):∀{r':Rp},PG pv acc ts r'->r=r':=by
 induction h with
 | done=>intro r' h';cases h';rfl
 | note h0 _ ih=>intro r' h';cases h' with
  | note _ h2=>exact ih h2
  | letN=>exact absurd h0 q9b
  | letE=>exact absurd h0 q9b
  | letB=>exact absurd h0 q9b
  | letX=>exact absurd h0 q9b
  | letO=>exact absurd h0 q9b
  | doB h2=>exact absurd h0 h2
  | doX h2=>exact absurd h0 h2
  | doO h2=>exact absurd h0 h2
 | letN h0=>intro r' h';cases h' with
  | note h2=>exact absurd h2 q9b
  | letN=>rfl
  | letE h2=>rw[h0 _ rfl]at h2;cases h2
  | letB h2=>rw[h0 _ rfl]at h2;cases h2
  | letX h2=>rw[h0 _ rfl]at h2;cases h2
  | letO h2=>rw[h0 _ rfl]at h2;cases h2
  | doB _ h2=>exact absurd rfl h2
  | doX _ h2=>exact absurd rfl h2
  | doO _ h2=>exact absurd rfl h2
 | letE h0 h1=>intro r' h';cases h' with
  | note h2=>exact absurd h2 q9b
  | letN h2=>rw[h2 _ rfl]at h0;cases h0
  | letE=>rfl
  | letB=>simp at h1
  | letX=>simp at h1
  | letO=>simp at h1
  | doB _ h2=>exact absurd rfl h2
  | doX _ h2=>exact absurd rfl h2
  | doO _ h2=>exact absurd rfl h2
 | letB h0 h1=>intro r' h';cases h' with
  | note h2=>exact absurd h2 q9b
  | letN h2=>rw[h2 _ rfl]at h0;cases h0
  | letE _ h2=>simp at h2
  | letB _ h2=>cases q3d h1 h2;rfl
  | letX _ h2=>cases q3d h1 h2
  | letO _ h2=>cases q3d h1 h2
  | doB _ h2=>exact absurd rfl h2
  | doX _ h2=>exact absurd rfl h2
  | doO _ h2=>exact absurd rfl h2
 | letX h0 h1 h3=>intro r' h';cases h' with
  | note h2=>exact absurd h2 q9b
  | letN h2=>rw[h2 _ rfl]at h0;cases h0
  | letE _ h2=>simp at h2
  | letB _ h2=>cases q3d h1 h2
  | letX _ h2 _=>cases q3d h1 h2;rfl
  | letO _ h2 _=>cases q3d h1 h2;simp at h3
  | doB _ h2=>exact absurd rfl h2
  | doX _ h2=>exact absurd rfl h2
  | doO _ h2=>exact absurd rfl h2
 | letO h0 h1 _ ih=>intro r' h';cases h' with
  | note h2=>exact absurd h2 q9b
  | letN h2=>rw[h2 _ rfl]at h0;cases h0
  | letE _ h2=>simp at h2
  | letB _ h2=>cases q3d h1 h2
  | letX _ h2 h4=>cases q3d h1 h2;simp at h4
  | letO _ h2 h4=>cases q3d h1 h2;exact ih h4
  | doB _ h2=>exact absurd rfl h2
  | doX _ h2=>exact absurd rfl h2
  | doO _ h2=>exact absurd rfl h2
 | doB h0 h1 h3=>intro r' h';cases h' with
  | note h2=>exact absurd h2 h0
  | letN=>exact absurd rfl h1
  | letE=>exact absurd rfl h1
  | letB=>exact absurd rfl h1
  | letX=>exact absurd rfl h1
  | letO=>exact absurd rfl h1
  | doB _ _ h2=>cases q3d h3 h2;rfl
  | doX _ _ h2=>cases q3d h3 h2
  | doO _ _ h2=>cases q3d h3 h2
 | doX h0 h1 h3 h4=>intro r' h';cases h' with
  | note h2=>exact absurd h2 h0
  | letN=>exact absurd rfl h1
  | letE=>exact absurd rfl h1
  | letB=>exact absurd rfl h1
  | letX=>exact absurd rfl h1
  | letO=>exact absurd rfl h1
  | doB _ _ h2=>cases q3d h3 h2
  | doX _ _ h2 _=>cases q3d h3 h2;rfl
  | doO _ _ h2 _=>cases q3d h3 h2;simp at h4
 | doO h0 h1 h3 _ ih=>intro r' h';cases h' with
  | note h2=>exact absurd h2 h0
  | letN=>exact absurd rfl h1
  | letE=>exact absurd rfl h1
  | letB=>exact absurd rfl h1
  | letX=>exact absurd rfl h1
  | letO=>exact absurd rfl h1
  | doB _ _ h2=>cases q3d h3 h2
  | doX _ _ h2 h4=>cases q3d h3 h2;simp at h4
  | doO _ _ h2 h4=>cases q3d h3 h2;exact ih h4
def okP:Int->List (List Td)->Prop
 | _,[]=>True
 | prev,t::r=>q0d t=0/\¬(opT t=9/\prev=9)/\okP (opT t) r
theorem y2n:∀(ps:List (List Td))(prev:Int)(k:Nat),(q5e prev k ps).2=0->okP prev ps
 | [],_,_,_=>trivial
 | t::r,prev,k,h=>by
  rw[q5e]at h
  split at h
  ·rename_i h1;exact absurd h h1
  ·rename_i h1
   split at h
   ·cases h
   ·rename_i h2;exact⟨by omega,h2,y2n r _ _ h⟩
theorem j1i:∀(ps:List (List Td))(prev:Int)(k:Nat),okP prev ps->q5e prev k ps=(0,0)
 | [],_,_,_=>rfl
 | t::r,prev,k,h=>by
  rw[q5e,if_neg (by simp[h.1]),if_neg h.2.1];exact j1i r _ _ h.2.2
theorem q2y{ps:List (List Td)}(h:(q0q ps).2=0):ps.length<=20/\okP 0 ps:=by
 unfold q0q at h
 split at h
 ·cases h
 ·exact⟨by omega,y2n ps 0 0 h⟩
theorem y6h{t:List Td}(h:q0d t=0)(rest:List UInt8)(i:Nat):(lxW (q3g t++10::rest) i).map (·.2)=q5l t++(lxW rest (i+(q3g t).length+1)).map (·.2)/\lxF (q3g t++10::rest) i=lxF rest (i+(q3g t).length+1):=by
 have hnl:∀{s:List UInt8}{ws:List Wd},Lx s ws->(lxW (s++10::rest) i).map (·.2)=ws++(lxW rest (i+s.length+1)).map (·.2)/\lxF (s++10::rest) i=lxF rest (i+s.length+1):=fun{s ws}hl=>by
  obtain⟨a1,a2⟩:=hl (10::rest) i (q2m rfl rest);have e:lx (10::rest) (i+s.length)=lx rest (i+s.length+1):=k3l _ _ rfl;rw[a1,a2,lxW,lxF,e];exact⟨rfl,rfl⟩
 rcases q2v h with⟨x,rfl,ho,_,hnf⟩|⟨x,F,rfl,hok,hex,hl,hx⟩
 ·have e1:q3g [x]=z9z x.tx/\q5l [x]=[z9z x.tx]:=by
   have hk:(Fo.nil).len=kdT x:=by unfold kdT;rw[ho];rfl
   have:=q7a (x:=x) (F:=.nil) trivial hk
   rw[show([x]:List Td)=x::Fo.nil.N from rfl,this.1,this.2];simp[stX,stK,ho,z9z]
  have e2:=j0o (k0b hnf) rest i;rw[e1.1,e1.2,lxW,lxF,e2];exact⟨rfl,rfl⟩
 ·have hkd:F.len=kdT x:=by
   rw[hl];unfold kdT;rcases hx with⟨h,_⟩|⟨h,_⟩<;>rw[h]<;>rfl
  obtain⟨e1,e2⟩:=q7a hok hkd;have htl:F.R.length=1:=by rw[q2s];exact hl
  obtain⟨t,ht⟩:∃t,F.R=[t]:=by
   match F.R,htl with
   | [t],_=>exact⟨t,rfl⟩
  have hlt:=v0c F hok hex t (by rw[ht];simp);rw[e1,e2,ht];refine hnl ?_;have hsc:=Lx.post hlt (c:=59) rfl (Lx.mark (c:=59) rfl);rcases hx with⟨ho,hnm,_⟩|⟨ho,_,_⟩
  ·obtain⟨c,z,e,_,_,h8,hall⟩:=q8p (w:=btL x.tx) hnm;have hname:=Lx.name hall (by rw[e];simp) h8;have hlet:Lx q9l [q9l]:=Lx.name (by decide) (by decide) (by decide);have h3:Lx (32::61::32::(t.tx++[59])) ([]++([[61]]++([]++(t.tk++[[59]])))):=Lx.pre (Lx.blank (c:=32) rfl) rfl (Lx.pre (Lx.mark (c:=61) rfl) rfl (Lx.pre (Lx.blank (c:=32) rfl) rfl hsc));have h4:=Lx.app hname h3 (q2m rfl _);have h5:=Lx.app hlet (Lx.pre (Lx.blank (c:=32) rfl) rfl h4) (q2m rfl _);have q1:stX x [t]=q9l++32::(btL x.tx++32::61::32::(t.tx++[59])):=by simp[stX,ho,hdT]
   have q2:stK x [t]=[q9l]++([]++([btL x.tx]++([]++([[61]]++([]++(t.tk++[[59]])))))):=by simp[stK,ho,hdK]
   rw[q1,q2];exact h5
  ·have q1:stX x [t]=t.tx++[59]:=by simp[stX,ho,hdT]
   have q2:stK x [t]=t.tk++[[59]]:=by simp[stK,ho,hdK]
   rw[q1,q2];exact hsc
theorem z9s:∀(ps:List (List Td))(prev:Int)(i:Nat),okP prev ps->(lxW (q1o ps) i).map (·.2)=ps.flatMap q5l/\lxF (q1o ps) i=none
 | [],_,i,_=>by
  rw[show q1o []=[]from rfl,lxW,lxF,q9c];exact⟨rfl,rfl⟩
 | t::r,prev,i,h=>by
  have e:q1o (t::r)=q3g t++10::q1o r:=by rw[z8c];simp
  obtain⟨a1,a2⟩:=y6h h.1 (q1o r) i;obtain⟨b1,b2⟩:=z9s r _ (i+(q3g t).length+1) h.2.2;rw[e,a1,a2,b1,b2];exact⟨by simp,rfl⟩
theorem q8s:∀(ps:List (List Td))(prev:Int)(pv:Bool)(acc:List (List Td)),okP prev ps->(pv=true->prev=9)->PG pv acc (ps.flatMap q5l) (.ok (acc++ps))
 | [],_,_,acc,_,_=>by simpa using PG.done
 | t::r,prev,pv,acc,h,hpv=>by
  have ih:∀pv',(pv'=true->opT t=9)->PG pv' (acc++[t]) (r.flatMap q5l) (.ok (acc++[t]++r)):=fun pv' h'=>q8s r (opT t) pv' (acc++[t]) h.2.2 h'
  have e0:acc++t::r=acc++[t]++r:=by simp
  rw[e0,List.flatMap_cons];rcases q2v h.1 with⟨x,rfl,ho,hn,hnf⟩|⟨x,F,rfl,hok,hex,hl,hx⟩
  ·have e1:q5l [x]=[z9z x.tx]:=by
    have hk:(Fo.nil).len=kdT x:=by unfold kdT;rw[ho];rfl
    have:=q7a (x:=x) (F:=.nil) trivial hk
    rw[show([x]:List Td)=x::Fo.nil.N from rfl,this.2];simp[stK,ho,z9z]
   rw[e1]
   have hpf:pv=false:=by
    cases pv with
    | false=>rfl
    | true=>exact absurd ⟨ho,hpv rfl⟩ h.2.1
   have hx:x=ntT (btL x.tx):=z2w ho rfl hn;refine .note (by unfold z9z;split<;>rfl) ?_;rw[z7v hnf,hpf]
   have e2:k5g false acc (btL x.tx)=acc++[[x]]:=by
    rw[k5g];simp only[Bool.false_eq_true,if_false];rw[<-hx]
   rw[e2];exact ih true (fun _=>ho)
  ·have hkd:F.len=kdT x:=by
    rw[hl];unfold kdT;rcases hx with⟨h,_⟩|⟨h,_⟩<;>rw[h]<;>rfl
   obtain⟨_,e2⟩:=q7a hok hkd;have htl:F.R.length=1:=by rw[q2s];exact hl
   obtain⟨t,ht⟩:∃t,F.R=[t]:=by
    match F.R,htl with
    | [t],_=>exact⟨t,rfl⟩
   have hr:=z1a F hok hex t (by rw[ht];simp)
   have hns:t.ns=F.N:=by
    have:=q8c F
    rw[ht]at this;simpa using this
   have hlv:=z9q hr (rest:=[59]::r.flatMap q5l) (by simp) (by simp) (by simp);rw[hns]at hlv;rw[e2,ht];rcases hx with⟨ho,hnm,hn⟩|⟨ho,htx,hn⟩
   ·have q2:stK x [t]++r.flatMap q5l=q9l::btL x.tx::[61]::(t.tk++[59]::r.flatMap q5l):=by simp[stK,ho,hdK]
    have hx:x=z3x (btL x.tx):=z2w ho rfl hn;rw[q2];refine .letO hnm hlv ?_;rw[<-hx];exact ih false (fun h=>by cases h)
   ·have q2:stK x [t]++r.flatMap q5l=t.tk++[59]::r.flatMap q5l:=by simp[stK,ho,hdK]
    have hx:x=doT:=z2w ho htx hn;obtain⟨w,z,ew,hw⟩:=hr.b;have hne:=z4m hw;rw[q2];rw[ew,List.cons_append]at hlv⊢;refine .doO hne.2.2.2.2 hne.2.2.2.1 hlv ?_;rw[<-hx];exact ih false (fun h=>by cases h)
theorem v0g(a:List Wd):many a<=a.length:=List.length_filter_le _ _
theorem k7k{nm:Wd}{ns:List Td}{t:Tn}(h:q6l ns t):many (q5l (z3x nm::ns))<=t.tk.length+4:=by
 obtain⟨F,f1,f2,f3,_⟩:=h;have hkd:F.len=kdT (z3x nm):=by rw[<-q2s,f2];rfl
 have e:=(q7a f1 hkd).2;rw[f3]at e;have h1:=v0g (q5l (z3x nm::ns));have h2:(q5l (z3x nm::ns)).length=t.tk.length+4:=by rw[e,f2];simp[stK,z3x,hdK]
 omega
theorem j3w{ns:List Td}{t:Tn}(h:q6l ns t):many (q5l (doT::ns))<=t.tk.length+1:=by
 obtain⟨F,f1,f2,f3,_⟩:=h;have hkd:F.len=kdT doT:=by rw[<-q2s,f2];rfl
 have e:=(q7a f1 hkd).2;rw[f3]at e;have h1:=v0g (q5l (doT::ns));have h2:(q5l (doT::ns)).length=t.tk.length+1:=by rw[e,f2];simp[stK,doT,hdK]
 omega
theorem z3f(w:Wd):many (q5l [ntT w])=0:=by
 have hk:(Fo.nil).len=kdT (ntT w):=rfl
 have:=(q7a (x:=ntT w) (F:=.nil) trivial hk).2
 rw[show([ntT w]:List Td)=ntT w::Fo.nil.N from rfl,this];simp only[stK,ntT];by_cases h:(wbS w).size=0<;>simp[h,many,z2p]
def q3r(ps:List (List Td)):Nat:=many (ps.flatMap q5l)
theorem q7w(a b:List (List Td)):q3r (a++b)=q3r a+q3r b:=by simp[q3r,z0t]
theorem j3d(a:List (List Td)):q3r a.dropLast<=q3r a:=by
 rcases List.eq_nil_or_concat a with rfl|⟨v,c,rfl⟩
 ·exact Nat.le_refl _
 ·rw[List.concat_eq_append,List.dropLast_concat,q7w];omega
theorem v1m{pv:Bool}{acc:List (List Td)}{ts:List Wd}{r:Rp}(h:PG pv acc ts r):∀ps,r=.ok ps->q3r ps<=q3r acc+many ts:=by
 induction h with
 | done=>intro ps e;cases e;omega
 | note _ _ ih=>
  intro ps e;rename_i pv acc w ts r _ _;have h1:=ih ps e
  have h2:q3r (k5g pv acc (q5i w))<=q3r acc:=by
   unfold k5g
   split
   ·have:=j3d acc
    rw[q7w]
    have h3:q3r [[ntT (z1t (q5g acc) (q5i w))]]=0:=by
     have:=z3f (z1t (q5g acc) (q5i w))
     simpa[q3r]using this
    omega
   ·rw[q7w]
    have h3:q3r [[ntT (q5i w)]]=0:=by
     have:=z3f (q5i w)
     simpa[q3r]using this
    omega
  have h4:many ts<=many (w::ts):=by
   have:many (w::ts)=many [w]+many ts:=z0t [w] ts
   omega
  omega
 | letN _=>intro ps e;cases e
 | letE _ _=>intro ps e;cases e
 | letB _ _=>intro ps e;cases e
 | letX _ _ _=>intro ps e;cases e
 | letO hn hp _ ih=>
  intro ps e;rename_i pv acc nm ts m ns u r _;have h1:=ih ps e;obtain⟨t,t1,t2⟩:=v1t hp;have h2:=k7k (nm:=nm) t1;have h3:q3r [z3x nm::ns]=many (q5l (z3x nm::ns)):=by simp[q3r]
  rw[q7w,h3]at h1;rw[q3y,q4x (w:=[59]) rfl]at t2;rw[q4x (w:=q9l) rfl,q4x (z3z hn),q4x (w:=[61]) rfl];omega
 | doB _ _ _=>intro ps e;cases e
 | doX _ _ _ _=>intro ps e;cases e
 | doO _ _ hp _ ih=>
  intro ps e;rename_i pv acc w ts m ns u r _ _ _;have h1:=ih ps e;obtain⟨t,t1,t2⟩:=v1t hp;have h2:=j3w t1;have h3:q3r [doT::ns]=many (q5l (doT::ns)):=by simp[q3r]
  rw[q7w,h3]at h1;rw[q3y,q4x (w:=[59]) rfl]at t2;omega
theorem j8y:∀ws:List Wd,(∀w∈ws,w.length<=20)->(jb ws).length<=21*ws.length
 | [],_=>by simp[jb]
 | [w],h=>by
  have:=h w (by simp)
  simp[jb];omega
 | w::u::r,h=>by
  have h1:=h w (by simp);have h2:=j8y (u::r) fun x hx=>h x (by simp[hx])
  rw[jb,List.length_append];simp only[List.length_cons]at h2⊢;omega
theorem k0a{tx:ByteArray}(h:q3m tx=0):tx.size<=1300:=by
 by_cases h0:btL tx=[]
 ·have:=q0b tx
  rw[h0]at this;simp at this;omega
 ·obtain⟨h1,h2⟩:=z2q h;have e2:q0j (btL tx)=q5r (btL tx):=by rw[q0j,if_neg h0]
  rw[e2]at h1 h2;have h3:=j8y _ fun w hw=>(h2 w hw).2.1
  rw[z5e]at h3;rw[<-q0b];omega
theorem g0c{y:Td}{k:Fo}(hok:(Fo.cons y k .nil).ok)(hex:(Fo.cons y k .nil).exs)(hl:(Fo.cons y k .nil).N.length<=40):(q0m y k.R).tx.length<=640:=by
 have h1:=v3l _ hok hex (q0m y k.R) (by simp[Fo.R])
 have h2:(q0m y k.R).ns=(Fo.cons y k .nil).N:=by
  have:=q8c (Fo.cons y k .nil)
  simpa[Fo.R]using this
 rw[h2]at h1;omega
theorem y1o{F:Fo}(h:F.len=1):∃y k,F=.cons y k .nil:=by
 cases F with
 | nil=>cases h
 | cons y k n=>
  cases n with
  | nil=>exact⟨y,k,rfl⟩
  | cons _ _ _=>simp[Fo.len]at h
theorem j1q{ds:List Td}(h:q0d ds=0):(q3g ds).length<=2000:=by
 have hin40:=(q2o h).1;rcases q2v h with⟨x,rfl,ho,_,hnf⟩|⟨x,F,rfl,hok,hex,hl,hx⟩
 ·have hk:(Fo.nil).len=kdT x:=by unfold kdT;rw[ho];rfl
  have e1:q3g [x]=stX x []:=(q7a (x:=x) (F:=.nil) trivial hk).1;have h2:=k0a hnf;rw[e1];unfold stX;rw[if_neg (by omega),if_neg (by omega)]
  split
  ·simp
  ·simp only[List.length_append,List.length_cons,List.length_nil,q0b];omega
 ·obtain⟨y,k,rfl⟩:=y1o hl
  have hk:(Fo.cons y k .nil).len=kdT x:=by
   rw[hl];unfold kdT;rcases hx with⟨ho,_⟩|⟨ho,_⟩<;>rw[ho]<;>rfl
  have hz:=g0c hok hex (by have:=hin40;simp only[List.length_cons]at this;omega);rw[(q7a hok hk).1];unfold stX;rcases hx with⟨ho,hnm,_⟩|⟨ho,_,_⟩
  ·have h8:=q2e hnm;rw[if_pos ho];simp only[List.length_append,List.length_cons,List.length_nil,hdT,Fo.R];omega
  ·rw[if_neg (by omega),if_pos ho];simp only[List.length_append,List.length_cons,List.length_nil,hdT,Fo.R];omega
theorem k7e:∀ps:List (List Td),(∀t∈ps,q0d t=0)->(q1o ps).length<=2001*ps.length
 | [],_=>by simp[q1o]
 | t::r,h=>by
  have h1:=j1q (h t (by simp));have h2:=k7e r fun x hx=>h x (by simp[hx])
  rw[z8c];simp only[List.length_append,List.length_cons,List.length_nil];omega
def g5t(s:ByteArray)(u:List Wd):Nat:=((z8a (btL s))[(q1d (btL s)).length-u.length]?).getD s.size
inductive q2h (s:ByteArray):List (List Td)->Int->Int->Prop where
 | lex (h:q4s (btL s)≠0):q2h s [] ((k1l (btL s):Nat):Int) (q4s (btL s))
 | bad {u} (h:q4s (btL s)=0) (hg:PG false [] (q1d (btL s)) (.bad u)):q2h s [] ((g5t s u:Nat):Int) 5
 | full {qs} (h:q4s (btL s)=0) (hg:PG false [] (q1d (btL s)) (.ok qs)) (hf:(q0q qs).2≠0):q2h s [] 0 (q0q qs).2
 | ok {qs} (h:q4s (btL s)=0) (hg:PG false [] (q1d (btL s)) (.ok qs)) (hf:(q0q qs).2=0):q2h s qs 0 0
theorem q0k{s:ByteArray}{p p':List (List Td)}{k k' f f':Int}(h:q2h s p k f)(h':q2h s p' k' f'):p=p'/\k=k'/\f=f':=by
 cases h with
 | lex h1=>cases h' with
  | lex _=>exact⟨rfl,rfl,rfl⟩
  | bad h2=>exact absurd h2 h1
  | full h2=>exact absurd h2 h1
  | ok h2=>exact absurd h2 h1
 | bad h1 hg=>cases h' with
  | lex h2=>exact absurd h1 h2
  | bad _ hg'=>cases q9d hg hg';exact⟨rfl,rfl,rfl⟩
  | full _ hg'=>cases q9d hg hg'
  | ok _ hg'=>cases q9d hg hg'
 | full h1 hg hf=>cases h' with
  | lex h2=>exact absurd h1 h2
  | bad _ hg'=>cases q9d hg hg'
  | full _ hg'=>cases q9d hg hg';exact⟨rfl,rfl,rfl⟩
  | ok _ hg' hf'=>cases q9d hg hg';exact absurd hf' hf
 | ok h1 hg hf=>cases h' with
  | lex h2=>exact absurd h1 h2
  | bad _ hg'=>cases q9d hg hg'
  | full _ hg' hf'=>cases q9d hg hg';exact absurd hf hf'
  | ok _ hg'=>cases q9d hg hg';exact⟨rfl,rfl,rfl⟩
theorem q9p:∀(ps:List (List Td))(prev:Int),okP prev ps->∀t∈ps,q0d t=0
 | t::r,prev,h,x,hx=>by
  rcases List.mem_cons.1 hx with rfl|hx
  ·exact h.1
  ·exact q9p r _ h.2.2 x hx
theorem g4x(l:List UInt8):btL (wbS l)=l:=rfl
theorem y7t{ps:List (List Td)}(h:(q0q ps).2=0):q1d (q1o ps)=ps.flatMap q5l/\q4s (q1o ps)=if 300<q3r ps then 3 else 0:=by
 obtain⟨hl,hok⟩:=q2y h;obtain⟨h1,h2⟩:=z9s ps 0 0 hok;have h3:q1d (q1o ps)=ps.flatMap q5l:=h1;have h4:=k7e ps (q9p ps 0 hok);refine⟨h3,?_⟩;unfold q4s;rw[if_neg (by omega),h2,h3];rfl
def z3p(B:Nat)(w:World)(a:Option Addr)(ws:List ByteArray):Prop:=
 ∀i(h:i<ws.length),∃b o,a=some ⟨b,o,none⟩/\b<B/\w.cell? ⟨b,o+i,none⟩=some (.string ws[i])
theorem z3p.W{B:Nat}{w w':World}{a:Option Addr}{ws:List ByteArray}(h:z3p B w a ws)(hb:Below B w w'):z3p B w' a ws:=by
 intro i hi;obtain⟨b,o,e,hlt,c1⟩:=h i hi;exact⟨b,o,e,hlt,(hb.cell (p:=⟨b,_,none⟩) hlt).trans c1⟩
theorem z3p.up{B B':Nat}{w:World}{a:Option Addr}{ws:List ByteArray}(h:z3p B w a ws)(hB:B<=B'):z3p B' w a ws:=by
 intro i hi;obtain⟨b,o,e,hlt,c1⟩:=h i hi;exact⟨b,o,e,by omega,c1⟩
theorem z3p.nil(B:Nat)(w:World)(a:Option Addr):z3p B w a []:=fun i hi=>by simp at hi
theorem z3p.take{B:Nat}{w:World}{a:Option Addr}{ws:List ByteArray}(h:z3p B w a ws)(k:Nat):z3p B w a (ws.take k):=by
 intro i hi;have hi':i<ws.length:=by simp at hi;omega
 obtain⟨b,o,e,hlt,c1⟩:=h i hi';exact⟨b,o,e,hlt,by rw[List.getElem_take];exact c1⟩
theorem z3p.drop{B:Nat}{w:World}{b o:Nat}{ws:List ByteArray}(h:z3p B w (some ⟨b,o,none⟩) ws)(k:Nat):z3p B w (some ⟨b,o+k,none⟩) (ws.drop k):=by
 intro i hi;have hi':k+i<ws.length:=by simp at hi;omega
 obtain⟨b',o',e,hlt,c1⟩:=h (k+i) hi';simp only[Option.some.injEq,Addr.mk.injEq,and_true]at e;obtain⟨rfl,rfl⟩:=e;refine⟨b,o+k,rfl,hlt,?_⟩;rw[List.getElem_drop,Nat.add_assoc];exact c1
theorem z3p.some{B:Nat}{w:World}{a:Option Addr}{ws:List ByteArray}(h:z3p B w a ws)(h0:0<ws.length):∃b o,a=some ⟨b,o,none⟩/\b<B:=by
 obtain⟨b,o,e,hlt,_⟩:=h 0 h0;exact⟨b,o,e,hlt⟩
abbrev Wds(w:World)(a:Option Addr)(ws:List ByteArray):Prop:=z3p w.heap.size w a ws
theorem Wds.W{w w':World}{a:Option Addr}{ws:List ByteArray}(h:Wds w a ws)(hb:Below w w w'):Wds w' a ws:=(z3p.W h hb).up hb.size
def q3p(w:World)(a:Option Addr)(ds:List Nd):Prop:=
 ∀i(h:i<ds.length),∃b o,a=some ⟨b,o,none⟩/\b<w.heap.size/\w.cell? ⟨b,o+i*3,none⟩=some (.int .i64 ds[i].op)/\w.cell? ⟨b,o+i*3+1,none⟩=some (.string ds[i].tx)/\w.cell? ⟨b,o+i*3+2,none⟩=some (.int .i64 ds[i].n)
theorem q3p.W{w w':World}{a:Option Addr}{ds:List Nd}(h:q3p w a ds)(hb:Below w w w'):q3p w' a ds:=by
 intro i hi;obtain⟨b,o,e,hlt,c1,c2,c3⟩:=h i hi;obtain⟨hc,_⟩:=q1c hb
 have:=hb.size
 exact⟨b,o,e,by omega,(hc _ _ hlt).trans c1,(hc _ _ hlt).trans c2,(hc _ _ hlt).trans c3⟩
abbrev g6o(x:Nd):Value:=.agg #[.int .i64 x.op,.string x.tx,.int .i64 x.n]
def q7s(t:List Td):Int:=if q0d t≠0 then q0d t else if opT t=9 then 2 else if 400<(q0n t).N.length then 3 else 0
def q2p(t:List Td):List Nd:=if q7s t=0 then(q0n t).N else []
def k5h(t:List Td):Int:=if q0d t≠0 then q0d t else if opT t=9 then 0 else 2
def txT(t:List Td):ByteArray:=match t with
 | []=>⟨#[]⟩
 | x::_=>x.tx
def j3b(t:List Td):List ByteArray:=if k5h t=0 then(q0j (btL (txT t))).map wbS else []
def z4d(t:List Td)(e:Ending)(w':World):Prop:=∃A c,e=.returned (.tuple #[.slice A (q2p t).length c,q0s (q7s t)])/\q3p w' A (q2p t)/\(q2p t).length<=c
def z8l(t:List Td)(e:Ending)(w':World):Prop:=∃A c,e=.returned (.tuple #[.slice A (j3b t).length c,q0s (k5h t)])/\Wds w' A (j3b t)/\(j3b t).length<=c
theorem j9f{t:List Td}(h:q0d t≠0):q7s t=q0d t/\q2p t=[]/\k5h t=q0d t/\j3b t=[]:=by
 have e1:q7s t=q0d t:=by rw[q7s,if_pos h]
 have e2:k5h t=q0d t:=by rw[k5h,if_pos h]
 exact⟨e1,by rw[q2p,if_neg (by rw[e1];exact h)],e2,by rw[j3b,if_neg (by rw[e2];exact h)]⟩
theorem z9l{t:List Td}(h:q0d t=0)(h9:opT t=9):q7s t=2/\q2p t=[]/\k5h t=0/\j3b t=(q0j (btL (txT t))).map wbS:=by
 have e1:q7s t=2:=by rw[q7s,if_neg (by simp[h]),if_pos h9]
 have e2:k5h t=0:=by rw[k5h,if_neg (by simp[h]),if_pos h9]
 exact⟨e1,by rw[q2p,if_neg (by rw[e1];decide)],e2,by rw[j3b,if_pos e2]⟩
theorem v7b{t:List Td}(h:q0d t=0)(h9:opT t≠9)(hn:400<(q0n t).N.length):q7s t=3/\q2p t=[]/\k5h t=2/\j3b t=[]:=by
 have e1:q7s t=3:=by rw[q7s,if_neg (by simp[h]),if_neg h9,if_pos hn]
 have e2:k5h t=2:=by rw[k5h,if_neg (by simp[h]),if_neg h9]
 exact⟨e1,by rw[q2p,if_neg (by rw[e1];decide)],e2,by rw[j3b,if_neg (by rw[e2];decide)]⟩
theorem y5p{t:List Td}(h:q0d t=0)(h9:opT t≠9)(hn:¬400<(q0n t).N.length):q7s t=0/\q2p t=(q0n t).N/\k5h t=2/\j3b t=[]:=by
 have e1:q7s t=0:=by rw[q7s,if_neg (by simp[h]),if_neg h9,if_neg hn]
 have e2:k5h t=2:=by rw[k5h,if_neg (by simp[h]),if_neg h9]
 exact⟨e1,by rw[q2p,if_pos e1],e2,by rw[j3b,if_neg (by rw[e2];decide)]⟩
theorem y9s{s:ByteArray}{k:Nat}(h:k<s.size):s[k]∈s.data.toList:=by
 have hl:k<s.data.toList.length:=by rw[<-Lib.size_eq];exact h
 exact List.getElem_mem hl
theorem v8m{s:ByteArray}(h1:1<=s.size)(h2:s.size<=20)(h:∀k(h:k<s.size),q8z s[k]=true):okW s=true:=by
 simp only[okW,h1,h2,decide_true,Bool.true_and,List.all_eq_true];intro b hb;obtain⟨i,hi,rfl⟩:=List.getElem_of_mem hb;exact h i (by rw[Lib.size_eq];exact hi)
theorem y7o{s:ByteArray}{k:Nat}(h:k<s.size)(hb:q8z s[k]=false):okW s=false:=by
 cases e:okW s with
 | false=>rfl
 | true=>
  simp only[okW,Bool.and_eq_true,List.all_eq_true]at e
  have:=e.2 s[k] (y9s h)
  rw[hb]at this;cases this
theorem k8s{b:UInt8}(h:q8z b=false):(b.toNat:Int)<33\/(¬(b.toNat:Int)<33/\126<(b.toNat:Int)):=by
 simp[q8z]at h;omega
theorem j4q{b:UInt8}(h:q8z b=true):¬(b.toNat:Int)<33/\¬126<(b.toNat:Int):=by
 simp[q8z]at h;omega
theorem q9r{ws:List ByteArray}(h:60<ws.length):q1i ws=3:=by rw[q1i,if_pos h]
theorem j4t{ws:List ByteArray}{k:Nat}(hl:ws.length<=60)(hk:k<ws.length)(h:okW ws[k]=false):q1i ws=5:=by
 rw[q1i,if_neg (by omega),if_neg];intro e
 have:=List.all_eq_true.1 e ws[k] (List.getElem_mem hk)
 rw[h]at this;cases this
theorem j4s{ws:List ByteArray}(hl:ws.length<=60)(h:∀j(h:j<ws.length),okW ws[j]=true):q1i ws=0:=by
 rw[q1i,if_neg (by omega),if_pos];rw[List.all_eq_true];intro x hx;obtain⟨j,hj,rfl⟩:=List.getElem_of_mem hx;exact h j hj
def q2x(B:Nat)(w:World)(a:Option Addr)(ws:List Int):Prop:=
 ∀i(h:i<ws.length),∃b o,a=some ⟨b,o,none⟩/\b<B/\w.cell? ⟨b,o+i,none⟩=some (.int .i64 ws[i])
theorem q2x.W{B:Nat}{w w':World}{a:Option Addr}{ws:List Int}(h:q2x B w a ws)(hb:Below B w w'):q2x B w' a ws:=by
 intro i hi;obtain⟨b,o,e,hlt,c1⟩:=h i hi;exact⟨b,o,e,hlt,(hb.cell (p:=⟨b,_,none⟩) hlt).trans c1⟩
theorem q2x.rest{B:Nat}{w:World}{b o:Nat}{x:Int}{ws:List Int}(h:q2x B w (some ⟨b,o,none⟩) (x::ws)):q2x B w (some ⟨b,o+1,none⟩) ws:=by
 intro i hi;obtain⟨b',o',e,hlt,c1⟩:=h (i+1) (by simp;omega);simp only[Option.some.injEq,Addr.mk.injEq,and_true]at e;obtain⟨rfl,rfl⟩:=e;refine⟨b,o+1,rfl,hlt,?_⟩;rw[show o+1+i=o+(i+1) by omega];exact c1
theorem q2x.slid{B:Nat}{w:World}{b o cap:Nat}{x:Int}{ws:List Int}(h:q2x B w (some ⟨b,o,none⟩) (x::ws))(hc:ws.length+1<=cap):
  q2x B w (if cap=1 then some ⟨b,o,none⟩else some ⟨b,o+1,none⟩) ws:=by
 by_cases h1:cap=1
 ·have:ws=[]:=List.eq_nil_of_length_eq_zero (by omega)
  subst this;exact fun i hi=>by simp at hi
 ·rw[if_neg h1];exact h.rest
abbrev z1r(w:World)(a:Option Addr)(ws:List Int):Prop:=q2x w.heap.size w a ws
theorem q2x.up{B B':Nat}{w:World}{a:Option Addr}{ws:List Int}(h:q2x B w a ws)(hB:B<=B'):q2x B' w a ws:=by
 intro i hi;obtain⟨b,o,e,hlt,c1⟩:=h i hi;exact⟨b,o,e,by omega,c1⟩
theorem z1r.W{w w':World}{a:Option Addr}{ws:List Int}(h:z1r w a ws)(hb:Below w w w'):z1r w' a ws:=(q2x.W h hb).up hb.size
end Go.Proofs.YthcpdohdppkmkaaGreatDoor
