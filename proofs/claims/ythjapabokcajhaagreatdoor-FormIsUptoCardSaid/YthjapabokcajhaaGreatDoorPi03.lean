/- Texts as one: SynN, SynO, SynJ, SynW, LnS, LnT, LnU, BstP, BstQ, BstR. -/
import Derived.Test.YthjapabokcajhaaGreatDoorPi02
open Go.Proofs.Tryz
namespace Go.Proofs.YthjapabokcajhaaGreatDoor
open Go
def q6l(t l:Wd):Wd:=(if l≠[]/\t≠[]then t++[32]else t)++l
def ntx(ws:List Wd):Wd:=ws.foldl q6l []
def q0z(w:Wd):Wd:=ntx (q0e (w.drop 1))
def jb:List Wd->Wd
 | []=>[]
 | w::r=>w++match r with
  | []=>[]
  | _::_=>32::jb r
theorem j4j:∀s:List UInt8,jb (q5j s)=s
 | []=>rfl
 | c::r=>by
  have ih:=j4j r;by_cases hc:c=32
  ·subst hc;rw[q6h];cases hs:q5j r with
   | nil=>exact absurd hs (q9q r)
   | cons w ws=>
    rw[hs]at ih;simp[jb,<-ih]
  ·cases hs:q5j r with
   | nil=>exact absurd hs (q9q r)
   | cons w ws=>
    rw[q4u hc hs];rw[hs]at ih;rw[<-ih];simp[jb]
theorem j4e:∀(ws:List Wd)(t:Wd),(∀w∈ws,w≠[])->t≠[]->ws.foldl q6l t=t++(match ws with|[]=>[]|_::_=>32::jb ws)
 | [],t,_,_=>by simp
 | w::r,t,h,ht=>by
  have hw:=h w (by simp);have e:q6l t w=t++32::w:=by simp[q6l,hw,ht]
  rw[List.foldl_cons,e,j4e r _ (fun x hx=>h x (by simp[hx])) (by simp)];cases r with
  | nil=>simp[jb]
  | cons u r=>simp[jb]
theorem y4t{ws:List Wd}(h:∀w∈ws,w≠[]):ntx ws=jb ws:=by
 cases ws with
 | nil=>rfl
 | cons w r=>
  have hw:=h w (by simp);have e:q6l [] w=w:=by simp[q6l]
  rw[ntx,List.foldl_cons,e,j4e r w (fun x hx=>h x (by simp[hx])) hw];cases r<;>simp[jb]
theorem j7e{tx:ByteArray}(h:q2u tx=0):(q0e (btL tx)).length<=60/\∀w∈q0e (btL tx),w≠[]/\w.length<=20/\∀b∈w,q8f b=true:=by
 obtain⟨h1,h2⟩:=q9t h;refine⟨by simpa using h1,fun w hw=>?_⟩;have h3:=h2 (wbS w) (List.mem_map.2 ⟨w,hw,rfl⟩);have hl:(wbS w).size=w.length:=by rw[<-q0c];rfl
 simp only[okW,Bool.and_eq_true,decide_eq_true_eq,List.all_eq_true,hl]at h3;refine⟨fun e=>?_,h3.1.2,h3.2⟩;rw[e]at h3;simp at h3
def y8x(tx:ByteArray):Wd:=if tx.size=0 then [35]else [35,32]++btL tx
theorem k6j{p:UInt8->Bool}(h32:p 32=true):∀ws:List Wd,(∀w∈ws,∀b∈w,p b=true)->∀b∈jb ws,p b=true
 | [],_,b,hb=>by cases hb
 | [w],h,b,hb=>by
  have e:jb [w]=w:=by simp[jb]
  rw[e]at hb;exact h w (by simp) b hb
 | w::u::r,h,b,hb=>by
  have e:jb (w::u::r)=w++32::jb (u::r):=by simp[jb]
  rw[e]at hb;rcases List.mem_append.1 hb with hb|hb
  ·exact h w (by simp) b hb
  ·rcases List.mem_cons.1 hb with rfl|hb
   ·exact h32
   ·exact k6j h32 (u::r) (fun x hx=>h x (by simp[hx])) b hb
inductive Rp where
 | ok (ps:List (List Td)):Rp
 | bad (rest:List Wd):Rp
abbrev z1w:Wd:=[108,101,116]
def ntT(t:Wd):Td:=⟨9,wbS t,0⟩
def j0z(w:Wd):Td:=⟨7,wbS w,0⟩
def doT:Td:=⟨8,⟨#[]⟩,0⟩
def q5k(acc:List (List Td)):Wd:=match acc.getLast? with
 | some (x::_)=>btL x.tx
 | _=>[]
def k0c(pv:Bool)(acc:List (List Td))(t:Wd):List (List Td):=if pv then acc.dropLast++[[ntT (q6l (q5k acc) t)]]else acc++[[ntT t]]
inductive PG:Bool->List (List Td)->List Wd->Rp->Prop where
 | done {pv acc}:PG pv acc [] (.ok acc)
 | note {pv acc w ts r}:w.headD 0=35->PG true (k0c pv acc (q0z w)) ts r->PG pv acc (w::ts) r
 | letN {pv acc ts}:(∀w,ts.head?=some w->nmW w=false)->PG pv acc (z1w::ts) (.bad ts)
 | letE {pv acc nm ts}:nmW nm=true->ts.head?≠some [61]->PG pv acc (z1w::nm::ts) (.bad ts)
 | letB {pv acc nm ts u}:nmW nm=true->PR (.level 0) ts (.bad u)->PG pv acc (z1w::nm::[61]::ts) (.bad u)
 | letX {pv acc nm ts m ns u}:nmW nm=true->PR (.level 0) ts (.ok m ns u)->u.head?≠some [59]->PG pv acc (z1w::nm::[61]::ts) (.bad u)
 | letO {pv acc nm ts m ns u r}:nmW nm=true->PR (.level 0) ts (.ok m ns ([59]::u))->PG false (acc++[j0z nm::ns]) u r->PG pv acc (z1w::nm::[61]::ts) r
 | doB {pv acc w ts u}:w.headD 0≠35->w≠z1w->PR (.level 0) (w::ts) (.bad u)->PG pv acc (w::ts) (.bad u)
 | doX {pv acc w ts m ns u}:w.headD 0≠35->w≠z1w->PR (.level 0) (w::ts) (.ok m ns u)->u.head?≠some [59]->PG pv acc (w::ts) (.bad u)
 | doO {pv acc w ts m ns u r}:w.headD 0≠35->w≠z1w->PR (.level 0) (w::ts) (.ok m ns ([59]::u))->PG false (acc++[doT::ns]) u r->PG pv acc (w::ts) r
theorem q9b:z1w.headD 0≠35:=by decide
theorem z0m{pv:Bool}{acc:List (List Td)}{ts:List Wd}{r:Rp}(h:PG pv acc ts r):∀{r':Rp},PG pv acc ts r'->r=r':=by
 induction h with
 | done=>intro r' h';cases h';rfl
 | note h0 _ ih=>intro r' h';cases h' with
  | note _ h2=>exact ih h2
  | letN=>exact absurd h0 q9b
  | letE=>exact absurd h0 q9b
  | letB=>exact absurd h0 q9b
  | letX=>exact absurd h0 q9b
  | letO=>exact absurd h0 q9b
  | doB h2=>exact absurd h0 h2
  | doX h2=>exact absurd h0 h2
  | doO h2=>exact absurd h0 h2
 | letN h0=>intro r' h';cases h' with
  | note h2=>exact absurd h2 q9b
  | letN=>rfl
  | letE h2=>rw[h0 _ rfl]at h2;cases h2
  | letB h2=>rw[h0 _ rfl]at h2;cases h2
  | letX h2=>rw[h0 _ rfl]at h2;cases h2
  | letO h2=>rw[h0 _ rfl]at h2;cases h2
  | doB _ h2=>exact absurd rfl h2
  | doX _ h2=>exact absurd rfl h2
  | doO _ h2=>exact absurd rfl h2
 | letE h0 h1=>intro r' h';cases h' with
  | note h2=>exact absurd h2 q9b
  | letN h2=>rw[h2 _ rfl]at h0;cases h0
  | letE=>rfl
  | letB=>simp at h1
  | letX=>simp at h1
  | letO=>simp at h1
  | doB _ h2=>exact absurd rfl h2
  | doX _ h2=>exact absurd rfl h2
  | doO _ h2=>exact absurd rfl h2
 | letB h0 h1=>intro r' h';cases h' with
  | note h2=>exact absurd h2 q9b
  | letN h2=>rw[h2 _ rfl]at h0;cases h0
  | letE _ h2=>simp at h2
  | letB _ h2=>cases q3e h1 h2;rfl
  | letX _ h2=>cases q3e h1 h2
  | letO _ h2=>cases q3e h1 h2
  | doB _ h2=>exact absurd rfl h2
  | doX _ h2=>exact absurd rfl h2
  | doO _ h2=>exact absurd rfl h2
 | letX h0 h1 h3=>intro r' h';cases h' with
  | note h2=>exact absurd h2 q9b
  | letN h2=>rw[h2 _ rfl]at h0;cases h0
  | letE _ h2=>simp at h2
  | letB _ h2=>cases q3e h1 h2
  | letX _ h2 _=>cases q3e h1 h2;rfl
  | letO _ h2 _=>cases q3e h1 h2;simp at h3
  | doB _ h2=>exact absurd rfl h2
  | doX _ h2=>exact absurd rfl h2
  | doO _ h2=>exact absurd rfl h2
 | letO h0 h1 _ ih=>intro r' h';cases h' with
  | note h2=>exact absurd h2 q9b
  | letN h2=>rw[h2 _ rfl]at h0;cases h0
  | letE _ h2=>simp at h2
  | letB _ h2=>cases q3e h1 h2
  | letX _ h2 h4=>cases q3e h1 h2;simp at h4
  | letO _ h2 h4=>cases q3e h1 h2;exact ih h4
  | doB _ h2=>exact absurd rfl h2
  | doX _ h2=>exact absurd rfl h2
  | doO _ h2=>exact absurd rfl h2
 | doB h0 h1 h3=>intro r' h';cases h' with
  | note h2=>exact absurd h2 h0
  | letN=>exact absurd rfl h1
  | letE=>exact absurd rfl h1
  | letB=>exact absurd rfl h1
  | letX=>exact absurd rfl h1
  | letO=>exact absurd rfl h1
  | doB _ _ h2=>cases q3e h3 h2;rfl
  | doX _ _ h2=>cases q3e h3 h2
  | doO _ _ h2=>cases q3e h3 h2
 | doX h0 h1 h3 h4=>intro r' h';cases h' with
  | note h2=>exact absurd h2 h0
  | letN=>exact absurd rfl h1
  | letE=>exact absurd rfl h1
  | letB=>exact absurd rfl h1
  | letX=>exact absurd rfl h1
  | letO=>exact absurd rfl h1
  | doB _ _ h2=>cases q3e h3 h2
  | doX _ _ h2 _=>cases q3e h3 h2;rfl
  | doO _ _ h2 _=>cases q3e h3 h2;simp at h4
 | doO h0 h1 h3 _ ih=>intro r' h';cases h' with
  | note h2=>exact absurd h2 h0
  | letN=>exact absurd rfl h1
  | letE=>exact absurd rfl h1
  | letB=>exact absurd rfl h1
  | letX=>exact absurd rfl h1
  | letO=>exact absurd rfl h1
  | doB _ _ h2=>cases q3e h3 h2
  | doX _ _ h2 h4=>cases q3e h3 h2;simp at h4
  | doO _ _ h2 h4=>cases q3e h3 h2;exact ih h4
def okP:Int->List (List Td)->Prop
 | _,[]=>True
 | prev,t::r=>q0b t=0/\¬(opT t=9/\prev=9)/\okP (opT t) r
theorem v7q:∀(ps:List (List Td))(prev:Int)(k:Nat),(q8a prev k ps).2=0->okP prev ps
 | [],_,_,_=>trivial
 | t::r,prev,k,h=>by
  rw[q8a]at h
  split at h
  ·rename_i h1;exact absurd h h1
  ·rename_i h1
   split at h
   ·cases h
   ·rename_i h2;exact⟨by omega,h2,v7q r _ _ h⟩
theorem k4s{ps:List (List Td)}(h:(q1i ps).2=0):ps.length<=20/\okP 0 ps:=by
 unfold q1i at h
 split at h
 ·cases h
 ·exact⟨by omega,v7q ps 0 0 h⟩
theorem v6u:∀ws:List Wd,(∀w∈ws,w.length<=20)->(jb ws).length<=21*ws.length
 | [],_=>by simp[jb]
 | [w],h=>by
  have:=h w (by simp)
  simp[jb];omega
 | w::u::r,h=>by
  have h1:=h w (by simp);have h2:=v6u (u::r) fun x hx=>h x (by simp[hx])
  rw[jb,List.length_append];simp only[List.length_cons]at h2⊢;omega
theorem v3l{tx:ByteArray}(h:q2u tx=0):tx.size<=1300:=by
 by_cases h0:btL tx=[]
 ·have:=q0c tx
  rw[h0]at this;simp at this;omega
 ·obtain⟨h1,h2⟩:=j7e h;have e2:q0e (btL tx)=q5j (btL tx):=by rw[q0e,if_neg h0]
  rw[e2]at h1 h2;have h3:=v6u _ fun w hw=>(h2 w hw).2.1
  rw[j4j]at h3;rw[<-q0c];omega
def y5a(s:ByteArray)(u:List Wd):Nat:=((z2c (btL s))[(q2h (btL s)).length-u.length]?).getD s.size
inductive q8j (s:ByteArray):List (List Td)->Int->Int->Prop where
 | lex (h:q7n (btL s)≠0):q8j s [] ((z9v (btL s):Nat):Int) (q7n (btL s))
 | bad {u} (h:q7n (btL s)=0) (hg:PG false [] (q2h (btL s)) (.bad u)):q8j s [] ((y5a s u:Nat):Int) 5
 | full {qs} (h:q7n (btL s)=0) (hg:PG false [] (q2h (btL s)) (.ok qs)) (hf:(q1i qs).2≠0):q8j s [] 0 (q1i qs).2
 | ok {qs} (h:q7n (btL s)=0) (hg:PG false [] (q2h (btL s)) (.ok qs)) (hf:(q1i qs).2=0):q8j s qs 0 0
theorem q2x{s:ByteArray}{p p':List (List Td)}{k k' f f':Int}(h:q8j s p k f)(h':q8j s p' k' f'):p=p'/\k=k'/\f=f':=by
 cases h with
 | lex h1=>cases h' with
  | lex _=>exact⟨rfl,rfl,rfl⟩
  | bad h2=>exact absurd h2 h1
  | full h2=>exact absurd h2 h1
  | ok h2=>exact absurd h2 h1
 | bad h1 hg=>cases h' with
  | lex h2=>exact absurd h1 h2
  | bad _ hg'=>cases z0m hg hg';exact⟨rfl,rfl,rfl⟩
  | full _ hg'=>cases z0m hg hg'
  | ok _ hg'=>cases z0m hg hg'
 | full h1 hg hf=>cases h' with
  | lex h2=>exact absurd h1 h2
  | bad _ hg'=>cases z0m hg hg'
  | full _ hg'=>cases z0m hg hg';exact⟨rfl,rfl,rfl⟩
  | ok _ hg' hf'=>cases z0m hg hg';exact absurd hf' hf
 | ok h1 hg hf=>cases h' with
  | lex h2=>exact absurd h1 h2
  | bad _ hg'=>cases z0m hg hg'
  | full _ hg' hf'=>cases z0m hg hg';exact absurd hf hf'
  | ok _ hg'=>cases z0m hg hg';exact⟨rfl,rfl,rfl⟩
theorem k4k:∀(ps:List (List Td))(prev:Int),okP prev ps->∀t∈ps,q0b t=0
 | t::r,prev,h,x,hx=>by
  rcases List.mem_cons.1 hx with rfl|hx
  ·exact h.1
  ·exact k4k r _ h.2.2 x hx
def LnD(D:Tr)(b h:Nat):Prop:=(∀r,D.flat=some r->r.length<=b)/\∀deep cs cs' r,D.lay deep cs=.ok (r,cs')->deep+h<=80->r.length<=b
theorem LnD.mono{D:Tr}{b b' h h':Nat}(hd:LnD D b h)(hb:b<=b')(hh:h<=h'):LnD D b' h':=
 ⟨fun r hr=>Nat.le_trans (hd.1 r hr) hb,fun deep cs cs' r hr h1=>Nat.le_trans (hd.2 deep cs cs' r hr (by omega)) hb⟩
theorem z8s(s:List UInt8):LnD (wdD s) s.length 0:=
 ⟨fun r hr=>by cases hr;exact Nat.le_refl _,fun deep cs cs' r hr _=>by cases hr;exact Nat.le_refl _⟩
theorem y0n:LnD blD 81 0:=
 ⟨fun r hr=>by cases hr;decide,fun deep cs cs' r hr h=>by cases hr;simp;omega⟩
theorem y4m:LnD sfD 81 0:=
 ⟨fun r hr=>by cases hr;decide,fun deep cs cs' r hr h=>by cases hr;simp;omega⟩
theorem q9n{a b:Tr}{x y h:Nat}(ha:LnD a x h)(hb:LnD b y h):LnD (twD a b) (x+y) h:=by
 refine⟨fun r hr=>?_,fun deep cs cs' r hr hh=>?_⟩
 ·simp only[Tr.flat,if_true]at hr;cases ea:a.flat with
  | none=>rw[ea]at hr;cases hr
  | some s=>
   cases eb:b.flat with
   | none=>rw[ea,eb]at hr;cases hr
   | some t=>
    rw[ea,eb]at hr;cases hr;have h1:=ha.1 s ea;have h2:=hb.1 t eb;rw[List.length_append];omega
 ·simp only[Tr.lay,if_true]at hr;cases la:a.lay deep cs with
  | error e=>rw[la]at hr;cases hr
  | ok p=>
   obtain⟨r1,c1⟩:=p;rw[la]at hr;simp only at hr;cases lb:b.lay deep c1 with
   | error e=>rw[lb]at hr;cases hr
   | ok p2=>
    obtain⟨r2,c2⟩:=p2;rw[lb]at hr;cases hr;have h1:=ha.2 _ _ _ _ la hh;have h2:=hb.2 _ _ _ _ lb hh;rw[List.length_append];omega
theorem y0o{a:Tr}{x h:Nat}(ha:LnD a x h):LnD (dpD a) x (h+2):=
 ⟨fun r hr=>ha.1 r hr,fun deep cs cs' r hr hh=>ha.2 (deep+(2:Int).toNat) cs cs' r hr (by have:(2:Int).toNat=2:=rfl;omega)⟩
theorem y0p{a:Tr}{x h:Nat}(ha:LnD a x h):LnD (grD a) x h:=by
 refine⟨fun r hr=>ha.1 r hr,fun deep cs cs' r hr hh=>?_⟩;simp only[Tr.lay]at hr;rw[if_neg (by decide)]at hr;cases cs with
 | nil=>cases hr
 | cons c cs=>
  simp only at hr
  split at hr
  ·exact ha.2 _ _ _ _ hr hh
  ·cases hf:a.flat with
   | none=>rw[hf]at hr;cases hr
   | some s=>rw[hf]at hr;cases hr;exact ha.1 _ hf
theorem y4k{x:Td}{d:Tr}{t:Tn}{h:Nat}(hx:x=t.x)(hd:LnD d (90*t.tk.length) h)(l:Nat):LnD (inD l x d) (90*(brk l t).length) h:=by
 unfold inD brk;rw[hx]
 split
 ·refine(q9n ((z8s [40]).mono Zl (Nat.zero_le h)) (q9n hd ((z8s [41]).mono Zl (Nat.zero_le h)))).mono ?_ Zl;simp only[List.length_cons,List.length_append,List.length_nil];omega
 ·exact hd
inductive Mls (h:Nat):List (Td × Tr)->List Tn->Prop where
 | nil:Mls h [] []
 | cons {p t ps ts}:p.1=t.x->LnD p.2 (90*t.tk.length) h->Mls h ps ts->Mls h (p::ps) (t::ts)
theorem Mls.up{h h':Nat}(hh:h<=h'){ps:List (Td × Tr)}{ts:List Tn}(m:Mls h ps ts):Mls h' ps ts:=by
 induction m with
 | nil=>exact .nil
 | cons e hd _ ih=>exact .cons e (hd.mono Zl hh) ih
theorem y4l{h:Nat}:∀{ps:List (Td × Tr)}{ts:List Tn},Mls h ps ts->ps≠[]->LnD (kdD ps) (90*(cmk ts).length) h
 | _,_,.cons _ hd .nil,_=>by simp only[kdD,cmk,List.append_nil];exact hd
 | _,_,.cons (p:=p0) (t:=t0) (ps:=p::ps) (ts:=t::ts) _ hd (.cons e2 h2 h3),_=>by
  have ih:=y4l (Mls.cons e2 h2 h3) (by simp);show LnD (twD (twD p0.2 (wdD [44])) (twD blD (kdD (p::ps)))) _ h;refine(q9n (q9n hd ((z8s [44]).mono Zl (Nat.zero_le h))) (q9n (y0n.mono Zl (Nat.zero_le h)) ih)).mono ?_ Zl;have e:(cmk (t0::t::ts)).length=t0.tk.length+1+(cmk (t::ts)).length:=by simp[cmk];omega
  rw[e];simp only[List.length_cons,List.length_nil];omega
theorem j5j{h:Nat}{ps:List (Td × Tr)}{ts:List Tn}(m:Mls h ps ts){op cl:List UInt8}(ho:op.length+cl.length<=18):LnD (q2p op cl ps) (90*((cmk ts).length+2)) (h+2):=by
 unfold q2p
 split
 ·refine(z8s _).mono ?_ (Nat.zero_le _);rw[List.length_append];omega
 ·rename_i h0;have hk:=y4l m fun e=>h0 (by rw[e];rfl)
  have z:∀s:List UInt8,LnD (wdD s) s.length (h+2):=fun s=>(z8s s).mono Zl (Nat.zero_le _)
  have zs:LnD sfD 81 (h+2):=y4m.mono Zl (Nat.zero_le _);refine y0p ((q9n (z op) (q9n (y0o (q9n (y4m.mono Zl (Nat.zero_le h)) hk)) (q9n zs (z cl)))).mono ?_ Zl);omega
theorem y8d{h:Nat}{x:Td}{ps:List (Td × Tr)}{ts:List Tn}(m:Mls h ps ts)(hx:exN x)(hk:ps.length=kdT x):LnD (q0l x ps) (90*(k2v x ts).length) (h+2):=by
 have two:kdT x=2->∃a b c d,ps=[a,b]/\ts=[c,d]/\(a.1=c.x/\LnD a.2 (90*c.tk.length) h)/\(b.1=d.x/\LnD b.2 (90*d.tk.length) h):=fun e=>by
  rw[e]at hk;cases m with
  | nil=>simp at hk
  | cons h1 h1' h2=>cases h2 with
   | nil=>simp at hk
   | cons h3 h3' h4=>cases h4 with
    | nil=>exact⟨_,_,_,_,rfl,rfl,⟨h1,h1'⟩,⟨h3,h3'⟩⟩
    | cons=>simp at hk
 have sum:∀(l q:Nat)(c:UInt8)(a b:Td × Tr)(s t:Tn),(a.1=s.x/\LnD a.2 (90*s.tk.length) h)->(b.1=t.x/\LnD b.2 (90*t.tk.length) h)->LnD (grD (twD (inD l a.1 a.2) (dpD (twD blD (twD (wdD [c,32]) (inD q b.1 b.2)))))) (90*((brk l s).length+1+(brk q t).length)) (h+2):=fun l q c a b s t ha hb=>by
  refine y0p ((q9n ((y4k ha.1 ha.2 l).mono Zl (Nat.le_add_right h 2)) (y0o (q9n (y0n.mono Zl (Nat.zero_le h)) (q9n ((z8s [c,32]).mono Zl (Nat.zero_le h)) (y4k hb.1 hb.2 q))))).mono ?_ Zl);simp only[List.length_cons,List.length_nil];omega
 rcases q5a hx with⟨ho,_,h0,h9,_⟩|⟨ho,hn,_⟩|⟨ho,hn,_⟩|⟨ho,_⟩|⟨ho,_,_,h2⟩|⟨ho,_,_,h2⟩
 ·rw[show q0l x ps=wdD (q7l x.n.toNat) by simp[q0l,ho],show k2v x ts=[q7l x.n.toNat] by simp[k2v,ho]];have h1:=z3a 5 x.n.toNat (by omega);exact(z8s _).mono (by simp only[List.length_cons,List.length_nil];omega) (Nat.zero_le _)
 ·rw[show q0l x ps=wdD (btL x.tx) by simp[q0l,ho],show k2v x ts=[btL x.tx] by simp[k2v,ho]];have h1:=q3l hn;exact(z8s _).mono (by simp only[List.length_cons,List.length_nil];omega) (Nat.zero_le _)
 ·rw[show q0l x ps=q2p (btL x.tx++[40]) [41] ps by simp[q0l,ho],show k2v x ts=btL x.tx::[40]::(cmk ts++[[41]]) by simp[k2v,ho]];have h1:=q3l hn;refine(j5j m (by simp only[List.length_append,List.length_cons,List.length_nil];omega)).mono ?_ Zl;simp only[List.length_append,List.length_cons,List.length_nil];omega
 ·rw[show q0l x ps=q2p [91] [93] ps by simp[q0l,ho],show k2v x ts=[91]::(cmk ts++[[93]]) by simp[k2v,ho]];refine(j5j m (by decide)).mono ?_ Zl;simp only[List.length_append,List.length_cons,List.length_nil];omega
 ·obtain⟨a,b,c,d,rfl,rfl,h3,h4⟩:=two h2;rw[show q0l x [a,b]=grD (twD (inD 0 a.1 a.2) (dpD (twD blD (twD (wdD [43,32]) (inD 1 b.1 b.2))))) by simp[q0l,tw2,ho],show k2v x [c,d]=brk 0 c++[43]::brk 1 d by simp[k2v,two2,ho]];refine(sum 0 1 43 a b c d h3 h4).mono ?_ Zl;simp only[List.length_append,List.length_cons];omega
 ·obtain⟨a,b,c,d,rfl,rfl,h3,h4⟩:=two h2;rw[show q0l x [a,b]=grD (twD (inD 1 a.1 a.2) (dpD (twD blD (twD (wdD [42,32]) (inD 2 b.1 b.2))))) by simp[q0l,tw2,ho],show k2v x [c,d]=brk 1 c++[42]::brk 2 d by simp[k2v,two2,ho]];refine(sum 1 2 42 a b c d h3 h4).mono ?_ Zl;simp only[List.length_append,List.length_cons];omega
theorem j3a:∀F:Fo,F.ok->F.exs->Mls (2*F.nodes.length) F.dcs F.trs
 | .nil,_,_=>.nil
 | .cons x k n,hok,hex=>by
  have h1:=j3a k hok.2.1 fun y hy=>hex y (by simp[Fo.nodes,hy])
  have h2:=j3a n hok.2.2 fun y hy=>hex y (by simp[Fo.nodes,hy])
  have h3:=y8d h1 (hex x (by simp[Fo.nodes])) (by rw[q5q];exact hok.1);have e:(Fo.cons x k n).nodes.length=1+k.nodes.length+n.nodes.length:=by simp only[Fo.nodes,List.length_cons,List.length_append];omega
  exact .cons rfl (h3.mono Zl (by omega)) (h2.up (by omega))
theorem y3t{t:List Td}(h:q0b t=0)(h9:opT t≠9){cs cs':List Int}{r:List UInt8}(hr:(q0r t).lay 0 cs=.ok (r,cs')):r.length<=90*(y2w t).length:=by
 have hl40:=(q3f h).1;obtain⟨x,y,k,rfl,hok,hex,hk,hx⟩:=z0u h h9;have hm:=j3a _ hok hex
 have hd:LnD (q0l y k.dcs) (90*(y1d y k.trs).tk.length) (2*(Fo.cons y k .nil).nodes.length):=by
  cases hm with
  | cons _ h1 _=>exact h1
 have e0:q0r (x::(Fo.cons y k .nil).nodes)=stD x (q0l y k.dcs):=z3d hok hk;have e1:y2w (x::(Fo.cons y k .nil).nodes)=stK x (Fo.cons y k .nil).trs:=(v4u hok hk).2;rw[e0]at hr;rw[e1];simp only[List.length_cons]at hl40;generalize q0l y k.dcs=D at hd hr;have hH:2*(Fo.cons y k .nil).nodes.length<=78:=by omega
 generalize 2*(Fo.cons y k .nil).nodes.length=H at hd hH;have z:∀s:List UInt8,∀q,LnD (wdD s) s.length q:=fun s q=>(z8s s).mono Zl (Nat.zero_le _)
 have hD:=q9n hd (z [59] _);rcases hx with⟨ho,hnm,_⟩|⟨ho,_,_⟩
 ·have h8:=q3l hnm;rw[stD,if_pos ho]at hr;have h5:=y0p (q9n (z ([108,101,116,32]++btL x.tx++[32,61]) _) (y0o (q9n (y0n.mono Zl (Nat.zero_le _)) hD)));have h6:=h5.2 0 cs cs' r hr (by omega);have e3:(stK x (Fo.cons y k .nil).trs).length=(y1d y k.trs).tk.length+4:=by simp[stK,ho,hdK,Fo.trs]
  rw[e3];simp only[List.length_append,List.length_cons,List.length_nil]at h6;omega
 ·rw[stD,if_neg (by omega)]at hr;have h6:=hD.2 0 cs cs' r hr (by omega);have e3:(stK x (Fo.cons y k .nil).trs).length=(y1d y k.trs).tk.length+1:=by simp[stK,ho,hdK,Fo.trs]
  rw[e3];simp only[List.length_cons,List.length_nil]at h6;omega
end Go.Proofs.YthjapabokcajhaaGreatDoor
namespace Go.Proofs.YthjapabokcajhaaGreatDoor
def q2z(wd:Nat):Nat->List UInt8->Nat × Nat × Nat
 | c,[]=>(0,0,c)
 | c,b::s=>if b=10 then((q2z wd 0 s).1,(q2z wd 0 s).2.1+1,(q2z wd 0 s).2.2)else((if wd<=c then 1 else 0)+(q2z wd (c+1) s).1,(q2z wd (c+1) s).2.1,(q2z wd (c+1) s).2.2)
theorem z8d(wd:Nat):∀(c:Nat)(s t:List UInt8),q2z wd c (s++t)=((q2z wd c s).1+(q2z wd (q2z wd c s).2.2 t).1,(q2z wd c s).2.1+(q2z wd (q2z wd c s).2.2 t).2.1,(q2z wd (q2z wd c s).2.2 t).2.2)
 | c,[],t=>by simp[q2z]
 | c,b::s,t=>by
  simp only[List.cons_append,q2z]
  split
  ·rw[z8d wd 0 s t];simp only[Prod.mk.injEq,and_true,true_and];omega
  ·rw[z8d wd (c+1) s t];simp only[Prod.mk.injEq,and_true];omega
abbrev Crs:=(Nat × Nat) × List Int
def q2t(a b:Nat × Nat):Prop:=a.1<b.1\/(a.1=b.1/\a.2<b.2)
instance(a b:Nat × Nat):Decidable (q2t a b):=by unfold q2t;infer_instance
def z9w(a b:Crs):Crs:=if q2t b.1 a.1 then b else a
def q6b:Option Crs->Option Crs->Option Crs
 | none,y=>y
 | x,none=>x
 | some a,some b=>some (z9w a b)
theorem k9s(a b c:Crs):z9w (z9w a b) c=z9w a (z9w b c):=by
 by_cases h1:q2t b.1 a.1<;>by_cases h2:q2t c.1 b.1<;>by_cases h3:q2t c.1 a.1
 all_goals first
  | (simp[z9w,h1,h2,h3];done)
  | (exfalso;unfold q2t at h1 h2 h3;omega)
theorem k4r(x y z:Option Crs):q6b (q6b x y) z=q6b x (q6b y z):=by
 cases x<;>cases y<;>cases z<;>simp[q6b,k9s]
def fm:List Crs->Option Crs
 | []=>none
 | a::l=>q6b (some a) (fm l)
theorem k6f:∀l m:List Crs,fm (l++m)=q6b (fm l) (fm m)
 | [],m=>by cases h:fm m<;>simp[fm,q6b,h]
 | a::l,m=>by rw[List.cons_append,fm,fm,k6f l m,k4r]
def q5t(o l:Nat)(u:List Int)(a:Crs):Crs:=((o+a.1.1,l+a.1.2),u++a.2)
theorem k1a(o l:Nat)(u:List Int)(a b:Crs):q2t (q5t o l u b).1 (q5t o l u a).1↔q2t b.1 a.1:=by
 unfold q2t q5t;dsimp only;omega
theorem j7z(o l:Nat)(u:List Int)(a b:Crs):z9w (q5t o l u a) (q5t o l u b)=q5t o l u (z9w a b):=by
 unfold z9w;by_cases h:q2t b.1 a.1
 ·rw[if_pos h,if_pos ((k1a o l u a b).2 h)]
 ·rw[if_neg h,if_neg fun k=>h ((k1a o l u a b).1 k)]
theorem z1r(o l:Nat)(u:List Int):∀az:List Crs,fm (az.map (q5t o l u))=(fm az).map (q5t o l u)
 | []=>rfl
 | a::az=>by
  rw[List.map_cons,fm,z1r o l u az,fm];cases fm az with
  | none=>rfl
  | some b=>simp[q6b,j7z]
theorem j4c:∀{l:List Crs},fm l=none->l=[]
 | [],_=>rfl
 | a::l,h=>by
  rw[fm]at h;cases hl:fm l<;>rw[hl]at h<;>simp[q6b]at h
theorem z8m:∀{l:List Crs}{a:Crs},fm l=some a->∃(p q:List Crs),l=p++a::q/\(∀b∈p,q2t a.1 b.1)/\∀b∈q,¬q2t b.1 a.1
 | b::l,a,h=>by
  rw[fm]at h;cases hl:fm l with
  | none=>
   rw[hl]at h;obtain rfl:=j4c hl;simp only[q6b,Option.some.injEq]at h;subst h;exact⟨[],[],rfl,by simp,by simp⟩
  | some c=>
   rw[hl]at h;obtain⟨p,q,rfl,h1,h2⟩:=z8m hl;simp only[q6b,Option.some.injEq,z9w]at h
   split at h
   ·rename_i hlt;subst h;refine⟨b::p,q,rfl,fun d hd=>?_,h2⟩;rcases List.mem_cons.1 hd with rfl|hd
    ·exact hlt
    ·exact h1 d hd
   ·rename_i hlt;subst h;refine⟨[],p++c::q,rfl,by simp,fun d hd=>?_⟩;rcases List.mem_append.1 hd with hd|hd
    ·have:=h1 d hd
     unfold q2t at *;omega
    ·rcases List.mem_cons.1 hd with rfl|hd
     ·exact hlt
     ·have:=h2 d hd
      unfold q2t at *;omega
def Tr.outs:Tr->Nat->List (List UInt8 × List Int)
 | .leaf x,deep=>[(if x.op=1 then x.tx.data.toList else if x.op=5 then []else 10::List.replicate deep 32,[])]
 | .one x a,deep=>if x.op=7 then a.outs (deep+x.n.toNat)else(match a.flat with|none=>[]|some s=>[(s,[0])])++(a.outs deep).map fun p=>(p.1,1::p.2)
 | .two x a b,deep=>if x.op=6 then(a.outs deep).flatMap fun p=>(b.outs deep).map fun q=>(p.1++q.1,p.2++q.2)else((a.outs deep).map fun p=>(p.1,0::p.2))++(b.outs deep).map fun p=>(p.1,1::p.2)
theorem q3m:∀(t:Tr)(deep:Nat),(t.outs deep).map (·.2)=t.ways
 | .leaf x,deep=>by simp[Tr.outs,Tr.ways]
 | .one x a,deep=>by
  simp only[Tr.outs,Tr.ways]
  split
  ·exact q3m a _
  ·rw[List.map_append,<-q3m a deep]
   congr 1
   ·cases h:a.flat<;>simp[Tr.isFlat,h]
   ·rw[List.map_map,List.map_map];rfl
 | .two x a b,deep=>by
  simp only[Tr.outs,Tr.ways]
  split
  ·rw[<-q3m a deep,<-q3m b deep,List.map_flatMap,List.flatMap_map]
   congr 1
   funext p
   rw[List.map_map,List.map_map];rfl
  ·rw[<-q3m a deep,<-q3m b deep,List.map_append,List.map_map,List.map_map,List.map_map,List.map_map];rfl
theorem q6v:∀(t:Tr)(deep:Nat)(p:List UInt8 × List Int),p∈t.outs deep->∀r,t.lay deep (p.2++r)=.ok (p.1,r)
 | .leaf x,deep,p,h,r=>by
  simp only[Tr.outs,List.mem_singleton]at h;subst h;simp only[Tr.lay,List.nil_append]
  split
  ·rfl
  ·split<;>rfl
 | .one x a,deep,p,h,r=>by
  simp only[Tr.outs]at h;simp only[Tr.lay]
  split at h
  ·rename_i h7;rw[if_pos h7];exact q6v a _ p h r
  ·rename_i h7;rw[if_neg h7];rcases List.mem_append.1 h with h|h
   ·cases hf:a.flat with
    | none=>rw[hf]at h;simp at h
    | some s=>
     rw[hf]at h;simp only[List.mem_singleton]at h;subst h;simp
   ·obtain⟨q,hq,rfl⟩:=List.mem_map.1 h;simp only[List.cons_append,if_pos];exact q6v a deep q hq r
 | .two x a b,deep,p,h,r=>by
  simp only[Tr.outs]at h;simp only[Tr.lay]
  split at h
  ·rename_i h6;rw[if_pos h6];obtain⟨u,hu,hp⟩:=List.mem_flatMap.1 h;obtain⟨v,hv,rfl⟩:=List.mem_map.1 hp;dsimp only;rw[List.append_assoc,q6v a deep u hu (v.2++r)];dsimp only;rw[q6v b deep v hv r]
  ·rename_i h6;rw[if_neg h6];rcases List.mem_append.1 h with h|h
   ·obtain⟨q,hq,rfl⟩:=List.mem_map.1 h;simp only[List.cons_append,if_pos];exact q6v a deep q hq r
   ·obtain⟨q,hq,rfl⟩:=List.mem_map.1 h;simp only[List.cons_append];rw[if_neg (by decide)];exact q6v b deep q hq r
def q5i:List (Nat × Tr)->List (List UInt8 × List Int)
 | []=>[([],[])]
 | (d,t)::ks=>(t.outs d).flatMap fun p=>(q5i ks).map fun q=>(p.1++q.1,p.2++q.2)
def q4k(wd c:Nat)(ks:List (Nat × Tr)):List Crs:=(q5i ks).map fun p=>(((q2z wd c p.1).1,(q2z wd c p.1).2.1),p.2)
def bst(wd c:Nat)(ks:List (Nat × Tr)):Option Crs:=fm (q4k wd c ks)
theorem v8z(wd c:Nat):bst wd c []=some ((0,0),[]):=by simp[bst,q4k,q5i,q2z,fm,q6b]
theorem z6o(wd c:Nat)(s:List UInt8)(u:List Int)(ks:List (Nat × Tr)):((q5i ks).map fun q=>(s++q.1,u++q.2)).map (fun p=>(((q2z wd c p.1).1,(q2z wd c p.1).2.1),p.2))=(q4k wd (q2z wd c s).2.2 ks).map (q5t (q2z wd c s).1 (q2z wd c s).2.1 u):=by
 unfold q4k;rw[List.map_map,List.map_map]
 congr 1
 funext q
 simp only[Function.comp,z8d,q5t]
theorem z8a(wd c d:Nat)(x:Nd)(ks:List (Nat × Tr))(s:List UInt8)(hs:s=if x.op=1 then x.tx.data.toList else if x.op=5 then []else 10::List.replicate d 32):
  bst wd c ((d,.leaf x)::ks)=(bst wd (q2z wd c s).2.2 ks).map (q5t (q2z wd c s).1 (q2z wd c s).2.1 []):=by
 unfold bst;rw[<-z1r,<-z6o,q4k,q5i,Tr.outs,<-hs];simp
theorem v1i(wd c d:Nat)(x:Nd)(a:Tr)(ks:List (Nat × Tr))(h:x.op=7):bst wd c ((d,.one x a)::ks)=bst wd c ((d+x.n.toNat,a)::ks):=by
 unfold bst q4k;rw[q5i,q5i,Tr.outs,if_pos h]
theorem z4c(wd c d:Nat)(k:Int)(a:Tr)(ks:List (Nat × Tr)):((((a.outs d).map fun p=>(p.1,k::p.2)).flatMap fun p=>(q5i ks).map fun q=>(p.1++q.1,p.2++q.2)).map (fun p=>(((q2z wd c p.1).1,(q2z wd c p.1).2.1),p.2)))=(q4k wd c ((d,a)::ks)).map (q5t 0 0 [k]):=by
 unfold q4k;rw[q5i,List.flatMap_map,List.map_map,List.map_flatMap,List.map_flatMap]
 congr 1
 funext p
 rw[List.map_map,List.map_map]
 congr 1
 funext q
 simp[Function.comp,q5t]
theorem k0j(wd c d:Nat)(x:Nd)(a:Tr)(ks:List (Nat × Tr))(h:x.op≠7):
  bst wd c ((d,.one x a)::ks)=q6b (match a.flat with|none=>none|some s=>(bst wd (q2z wd c s).2.2 ks).map (q5t (q2z wd c s).1 (q2z wd c s).2.1 [0])) ((bst wd c ((d,a)::ks)).map (q5t 0 0 [1])):=by
 unfold bst;rw[<-z1r,<-z4c];rw[q4k,q5i,Tr.outs,if_neg h,List.flatMap_append,List.map_append,k6f]
 congr 1
 cases hf:a.flat with
 | none=>rfl
 | some s=>
  dsimp only;rw[<-z1r,<-z6o];simp
theorem v1h(wd c d:Nat)(x:Nd)(a b:Tr)(ks:List (Nat × Tr))(h:x.op=6):bst wd c ((d,.two x a b)::ks)=bst wd c ((d,a)::(d,b)::ks):=by
 unfold bst q4k;rw[q5i,q5i,q5i,Tr.outs,if_pos h,List.flatMap_assoc]
 congr 2
 congr 1
 funext p
 rw[List.flatMap_map,List.map_flatMap]
 congr 1
 funext q
 rw[List.map_map]
 congr 1
 funext z
 simp[Function.comp,List.append_assoc]
theorem k8j(wd c d:Nat)(x:Nd)(a b:Tr)(ks:List (Nat × Tr))(h:x.op≠6):
  bst wd c ((d,.two x a b)::ks)=q6b ((bst wd c ((d,a)::ks)).map (q5t 0 0 [0])) ((bst wd c ((d,b)::ks)).map (q5t 0 0 [1])):=by
 unfold bst;rw[<-z1r,<-z1r,<-z4c,<-z4c,q4k,q5i,Tr.outs,if_neg h,List.flatMap_append,List.map_append,k6f]
theorem y1i(t:Tr)(deep:Nat):t.outs deep≠[]:=fun h=>by
 have:=q3m t deep
 rw[h]at this;exact z5i t this.symm
theorem k7c:∀ks:List (Nat × Tr),q5i ks≠[]
 | []=>by simp[q5i]
 | (d,t)::ks=>by
  have h1:=y1i t d;have h2:=k7c ks;obtain⟨p,ps,e⟩:=List.exists_cons_of_ne_nil h1;rw[q5i,e];simp[h2]
theorem k5q(wd c:Nat)(ks:List (Nat × Tr)):∃a,bst wd c ks=some a:=by
 cases h:bst wd c ks with
 | some a=>exact⟨a,rfl⟩
 | none=>
  have:=j4c h
  unfold q4k at this;exact absurd (List.map_eq_nil_iff.1 this) (k7c ks)
def Tr.txt(t:Tr)(u:List Int):List UInt8:=match t.show u with| .ok s=>s| .error _=>[]
theorem j7t{t:Tr}{p:List UInt8 × List Int}(h:p∈t.outs 0):t.show p.2=.ok p.1:=by
 have hw:p.2∈t.ways:=by rw[<-q3m t 0];exact List.mem_map.2 ⟨p,h,rfl⟩
 have hl:=q6v t 0 p h [];rw[List.append_nil]at hl;unfold Tr.show;rw[if_pos (k3a.2 (q8h t _ hw)),hl]
theorem v3v{t:Tr}{p:List UInt8 × List Int}(h:p∈t.outs 0):t.txt p.2=p.1:=by rw[Tr.txt,j7t h]
def Tr.cst(t:Tr)(wd:Nat)(u:List Int):Nat × Nat:=((q2z wd 0 (t.txt u)).1,(q2z wd 0 (t.txt u)).2.1)
theorem k9c(t:Tr)(wd:Nat):q4k wd 0 [(0,t)]=t.ways.map fun u=>(t.cst wd u,u):=by
 have h1:q5i [(0,t)]=t.outs 0:=by simp[q5i]
 unfold q4k;rw[h1,<-q3m t 0,List.map_map];refine List.map_congr_left fun p hp=>?_
 simp only[Function.comp,Tr.cst,v3v hp]
def Tr.best(t:Tr)(wd:Nat):Option Crs:=fm (t.ways.map fun u=>(t.cst wd u,u))
theorem q9y(t:Tr)(wd:Nat):t.best wd=bst wd 0 [(0,t)]:=by rw[Tr.best,<-k9c];rfl
theorem k0g(t:Tr)(wd:Nat):∃a,t.best wd=some a:=by rw[q9y];exact k5q wd 0 _
theorem v9r{f:List Int->Crs}{l:List (List Int)}{k:Nat}(hk:k<l.length):fm ((l.take (k+1)).map f)=q6b (fm ((l.take k).map f)) (some (f l[k])):=by
 rw[List.take_add_one,List.getElem?_eq_getElem hk,List.map_append,k6f];rfl
theorem z5z:∀u:List Int,¬q3a u u
 | []=>by simp[q3a]
 | a::u=>by simp only[q3a,if_pos];exact z5z u
theorem z3k:∀{u v:List Int},q3a u v->¬q3a v u
 | a::u,b::v,h=>by
  simp only[q3a]at h⊢;by_cases e:a=b
  ·subst e;rw[if_pos rfl]at h⊢;exact z3k h
  ·rw[if_neg e]at h;rw[if_neg fun k=>e k.symm];omega
theorem q5z{t:Tr}{wd:Nat}{a:Crs}(h:t.best wd=some a):a.2∈t.ways/\t.show a.2=.ok (t.txt a.2)/\a.1=t.cst wd a.2/\∀w∈t.ways,¬q2t (t.cst wd w) a.1/\(t.cst wd w=a.1->¬q3a w a.2):=by
 obtain⟨p,q,e,h1,h2⟩:=z8m h;obtain⟨p',r,e1,e2,e3⟩:=List.map_eq_append_iff.1 e;obtain⟨x,q',e4,e5,e6⟩:=List.map_eq_cons_iff.1 e3;subst e4 e2 e6 e5;have hin:x∈t.ways:=by rw[e1];simp
 have hr:=z1d t;rw[e1]at hr;refine⟨hin,?_,rfl,fun w hw=>?_⟩
 ·obtain⟨s,hs⟩:=(z4w t x).2 hin;simp only[Tr.txt,hs]
 ·rw[e1]at hw;dsimp only;rcases List.mem_append.1 hw with hw|hw
  ·have:=h1 _ (List.mem_map.2 ⟨w,hw,rfl⟩)
   dsimp only at this;refine⟨?_,fun k=>?_⟩
   ·unfold q2t at *;omega
   ·rw[k]at this;unfold q2t at this;omega
  ·rcases List.mem_cons.1 hw with rfl|hw
   ·refine⟨?_,fun _=>z5z _⟩;unfold q2t;omega
   ·refine⟨h2 _ (List.mem_map.2 ⟨w,hw,rfl⟩),fun _=>z3k ?_⟩;exact(List.pairwise_cons.1 (List.pairwise_append.1 hr).2.1).1 w hw
end Go.Proofs.YthjapabokcajhaaGreatDoor
