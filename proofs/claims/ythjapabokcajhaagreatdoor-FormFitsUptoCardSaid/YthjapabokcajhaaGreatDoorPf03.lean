/- Texts as one: SynJ, SynW, LnS, LnT, LnU, BstP, BstQ, BstR. -/
import Derived.Test.YthjapabokcajhaaGreatDoorPf02
import Derived.Test.YthjapabokcajhaaGreatDoorPf01
namespace Go.Proofs.YthjapabokcajhaaGreatDoor
open Go
theorem j2y:∀ws:List Wd,(∀w∈ws,w.length<=20)->(jb ws).length<=21*ws.length
 | [],_=>by simp[jb]
 | [w],h=>by
  have:=h w (by simp)
  simp[jb];omega
 | w::u::r,h=>by
  have h1:=h w (by simp);have h2:=j2y (u::r) fun x hx=>h x (by simp[hx])
  rw[jb,List.length_append];simp only[List.length_cons]at h2⊢;omega
theorem z8r{tx:ByteArray}(h:q1s tx=0):tx.size<=1300:=by
 by_cases h0:btL tx=[]
 ·have:=q0h tx
  rw[h0]at this;simp at this;omega
 ·obtain⟨h1,h2⟩:=z6u h;have e2:q0f (btL tx)=q3w (btL tx):=by rw[q0f,if_neg h0]
  rw[e2]at h1 h2;have h3:=j2y _ fun w hw=>(h2 w hw).2.1
  rw[z8i]at h3;rw[<-q0h];omega
theorem j8u{y:Td}{k:Fo}(hok:(Fo.cons y k .nil).ok)(hex:(Fo.cons y k .nil).exs)(hl:(Fo.cons y k .nil).nodes.length<=40):(q3d y k.trs).tx.length<=640:=by
 have h1:=k7u _ hok hex (q3d y k.trs) (by simp[Fo.trs])
 have h2:(q3d y k.trs).ns=(Fo.cons y k .nil).nodes:=by
  have:=q9y (Fo.cons y k .nil)
  simpa[Fo.trs]using this
 rw[h2]at h1;omega
theorem j2v{F:Fo}(h:F.len=1):∃y k,F=.cons y k .nil:=by
 cases F with
 | nil=>cases h
 | cons y k n=>
  cases n with
  | nil=>exact⟨y,k,rfl⟩
  | cons _ _ _=>simp[Fo.len]at h
theorem z9h{ds:List Td}(h:q0b ds=0):(q3x ds).length<=2000:=by
 have hin40:=(q1z h).1;rcases q5o h with⟨x,rfl,ho,_,hnf⟩|⟨x,F,rfl,hok,hex,hl,hx⟩
 ·have hk:(Fo.nil).len=kdT x:=by unfold kdT;rw[ho];rfl
  have e1:q3x [x]=stX x []:=(z7g (x:=x) (F:=.nil) trivial hk).1;have h2:=z8r hnf;rw[e1];unfold stX;rw[if_neg (by omega),if_neg (by omega)]
  split
  ·simp
  ·simp only[List.length_append,List.length_cons,List.length_nil,q0h];omega
 ·obtain⟨y,k,rfl⟩:=j2v hl
  have hk:(Fo.cons y k .nil).len=kdT x:=by
   rw[hl];unfold kdT;rcases hx with⟨ho,_⟩|⟨ho,_⟩<;>rw[ho]<;>rfl
  have hz:=j8u hok hex (by have:=hin40;simp only[List.length_cons]at this;omega);rw[(z7g hok hk).1];unfold stX;rcases hx with⟨ho,hnm,_⟩|⟨ho,_,_⟩
  ·have h8:=q1v hnm;rw[if_pos ho];simp only[List.length_append,List.length_cons,List.length_nil,hdT,Fo.trs];omega
  ·rw[if_neg (by omega),if_pos ho];simp only[List.length_append,List.length_cons,List.length_nil,hdT,Fo.trs];omega
theorem k6s:∀ps:List (List Td),(∀t∈ps,q0b t=0)->(q2z ps).length<=2001*ps.length
 | [],_=>by simp[q2z]
 | t::r,h=>by
  have h1:=z9h (h t (by simp));have h2:=k6s r fun x hx=>h x (by simp[hx])
  rw[k0x];simp only[List.length_append,List.length_cons,List.length_nil];omega
end Go.Proofs.YthjapabokcajhaaGreatDoor
namespace Go.Proofs.YthjapabokcajhaaGreatDoor
open Go
theorem k6g:∀(ps:List (List Td))(prev:Int),okP prev ps->∀t∈ps,q0b t=0
 | t::r,prev,h,x,hx=>by
  rcases List.mem_cons.1 hx with rfl|hx
  ·exact h.1
  ·exact k6g r _ h.2.2 x hx
theorem v1s(l:List UInt8):btL (wbS l)=l:=rfl
end Go.Proofs.YthjapabokcajhaaGreatDoor
namespace Go.Proofs.YthjapabokcajhaaGreatDoor
open Go
def GOk(g:List Wd):Prop:=g≠[]/\g.length<=60/\∀w∈g,w≠[]/\w.length<=20/\∀b∈w,q3y b=true
theorem j7y{b:UInt8}(h:q3y b=true):b≠32:=fun e=>by subst e;revert h;decide
abbrev lnW(g:List Wd):Wd:=[35,32]++jb g
inductive FmS (t:List Td):List UInt8->List Wd->Prop where
 | doc {r cs cs'}:opT t≠9->(q0i t).lay 0 cs=.ok (r,cs')->FmS t (r++[10]) (j7s t)
 | empty {x}:t=[x]->x.op=9->btL x.tx=[]->FmS t [35,10] [[35]]
 | note {x gs}:t=[x]->x.op=9->gs≠[]->(∀g∈gs,GOk g)->gs.flatten=q0f (btL x.tx)->btL x.tx≠[]->FmS t (gs.flatMap fun g=>lnW g++[10]) (gs.map lnW)
end Go.Proofs.YthjapabokcajhaaGreatDoor
namespace Go.Proofs.YthjapabokcajhaaGreatDoor
open Go
def LnD(D:Tr)(b h:Nat):Prop:=(∀r,D.flat=some r->r.length<=b)/\∀deep cs cs' r,D.lay deep cs=.ok (r,cs')->deep+h<=80->r.length<=b
theorem LnD.mono{D:Tr}{b b' h h':Nat}(hd:LnD D b h)(hb:b<=b')(hh:h<=h'):LnD D b' h':=
 ⟨fun r hr=>Nat.le_trans (hd.1 r hr) hb,fun deep cs cs' r hr h1=>Nat.le_trans (hd.2 deep cs cs' r hr (by omega)) hb⟩
theorem z2r(s:List UInt8):LnD (wdD s) s.length 0:=
 ⟨fun r hr=>by cases hr;exact Nat.le_refl _,fun deep cs cs' r hr _=>by cases hr;exact Nat.le_refl _⟩
theorem j6q:LnD blD 81 0:=
 ⟨fun r hr=>by cases hr;decide,fun deep cs cs' r hr h=>by cases hr;simp;omega⟩
theorem j9o:LnD sfD 81 0:=
 ⟨fun r hr=>by cases hr;decide,fun deep cs cs' r hr h=>by cases hr;simp;omega⟩
theorem q6e{a b:Tr}{x y h:Nat}(ha:LnD a x h)(hb:LnD b y h):LnD (twD a b) (x+y) h:=by
 refine⟨fun r hr=>?_,fun deep cs cs' r hr hh=>?_⟩
 ·simp only[Tr.flat,if_true]at hr;cases ea:a.flat with
  | none=>rw[ea]at hr;cases hr
  | some s=>
   cases eb:b.flat with
   | none=>rw[ea,eb]at hr;cases hr
   | some t=>
    rw[ea,eb]at hr;cases hr;have h1:=ha.1 s ea;have h2:=hb.1 t eb;rw[List.length_append];omega
 ·simp only[Tr.lay,if_true]at hr;cases la:a.lay deep cs with
  | error e=>rw[la]at hr;cases hr
  | ok p=>
   obtain⟨r1,c1⟩:=p;rw[la]at hr;simp only at hr;cases lb:b.lay deep c1 with
   | error e=>rw[lb]at hr;cases hr
   | ok p2=>
    obtain⟨r2,c2⟩:=p2;rw[lb]at hr;cases hr;have h1:=ha.2 _ _ _ _ la hh;have h2:=hb.2 _ _ _ _ lb hh;rw[List.length_append];omega
theorem j6r{a:Tr}{x h:Nat}(ha:LnD a x h):LnD (dpD a) x (h+2):=
 ⟨fun r hr=>ha.1 r hr,fun deep cs cs' r hr hh=>ha.2 (deep+(2:Int).toNat) cs cs' r hr (by have:(2:Int).toNat=2:=rfl;omega)⟩
theorem j6s{a:Tr}{x h:Nat}(ha:LnD a x h):LnD (grD a) x h:=by
 refine⟨fun r hr=>ha.1 r hr,fun deep cs cs' r hr hh=>?_⟩;simp only[Tr.lay]at hr;rw[if_neg (by decide)]at hr;cases cs with
 | nil=>cases hr
 | cons c cs=>
  simp only at hr
  split at hr
  ·exact ha.2 _ _ _ _ hr hh
  ·cases hf:a.flat with
   | none=>rw[hf]at hr;cases hr
   | some s=>rw[hf]at hr;cases hr;exact ha.1 _ hf
theorem j9m{x:Td}{d:Tr}{t:Tn}{h:Nat}(hx:x=t.x)(hd:LnD d (90*t.tk.length) h)(l:Nat):LnD (inD l x d) (90*(brk l t).length) h:=by
 unfold inD brk;rw[hx]
 split
 ·refine(q6e ((z2r [40]).mono (Nat.le_refl _) (Nat.zero_le h)) (q6e hd ((z2r [41]).mono (Nat.le_refl _) (Nat.zero_le h)))).mono ?_ (Nat.le_refl _);simp only[List.length_cons,List.length_append,List.length_nil];omega
 ·exact hd
inductive Mls (h:Nat):List (Td × Tr)->List Tn->Prop where
 | nil:Mls h [] []
 | cons {p t ps ts}:p.1=t.x->LnD p.2 (90*t.tk.length) h->Mls h ps ts->Mls h (p::ps) (t::ts)
theorem Mls.up{h h':Nat}(hh:h<=h'){ps:List (Td × Tr)}{ts:List Tn}(m:Mls h ps ts):Mls h' ps ts:=by
 induction m with
 | nil=>exact .nil
 | cons e hd _ ih=>exact .cons e (hd.mono (Nat.le_refl _) hh) ih
theorem j9n{h:Nat}:∀{ps:List (Td × Tr)}{ts:List Tn},Mls h ps ts->ps≠[]->LnD (kdD ps) (90*(cmk ts).length) h
 | _,_,.cons _ hd .nil,_=>by simp only[kdD,cmk,List.append_nil];exact hd
 | _,_,.cons (p:=p0) (t:=t0) (ps:=p::ps) (ts:=t::ts) _ hd (.cons e2 h2 h3),_=>by
  have ih:=j9n (Mls.cons e2 h2 h3) (by simp);show LnD (twD (twD p0.2 (wdD [44])) (twD blD (kdD (p::ps)))) _ h;refine(q6e (q6e hd ((z2r [44]).mono (Nat.le_refl _) (Nat.zero_le h))) (q6e (j6q.mono (Nat.le_refl _) (Nat.zero_le h)) ih)).mono ?_ (Nat.le_refl _);have e:(cmk (t0::t::ts)).length=t0.tk.length+1+(cmk (t::ts)).length:=by simp[cmk];omega
  rw[e];simp only[List.length_cons,List.length_nil];omega
theorem k4u{h:Nat}{ps:List (Td × Tr)}{ts:List Tn}(m:Mls h ps ts){op cl:List UInt8}(ho:op.length+cl.length<=18):LnD (q1d op cl ps) (90*((cmk ts).length+2)) (h+2):=by
 unfold q1d
 split
 ·refine(z2r _).mono ?_ (Nat.zero_le _);rw[List.length_append];omega
 ·rename_i h0;have hk:=j9n m fun e=>h0 (by rw[e];rfl)
  have z:∀s:List UInt8,LnD (wdD s) s.length (h+2):=fun s=>(z2r s).mono (Nat.le_refl _) (Nat.zero_le _)
  have zs:LnD sfD 81 (h+2):=j9o.mono (Nat.le_refl _) (Nat.zero_le _);refine j6s ((q6e (z op) (q6e (j6r (q6e (j9o.mono (Nat.le_refl _) (Nat.zero_le h)) hk)) (q6e zs (z cl)))).mono ?_ (Nat.le_refl _));omega
theorem v2d{h:Nat}{x:Td}{ps:List (Td × Tr)}{ts:List Tn}(m:Mls h ps ts)(hx:exN x)(hk:ps.length=kdT x):LnD (q0d x ps) (90*(z5t x ts).length) (h+2):=by
 have two:kdT x=2->∃a b c d,ps=[a,b]/\ts=[c,d]/\(a.1=c.x/\LnD a.2 (90*c.tk.length) h)/\(b.1=d.x/\LnD b.2 (90*d.tk.length) h):=fun e=>by
  rw[e]at hk;cases m with
  | nil=>simp at hk
  | cons h1 h1' h2=>cases h2 with
   | nil=>simp at hk
   | cons h3 h3' h4=>cases h4 with
    | nil=>exact⟨_,_,_,_,rfl,rfl,⟨h1,h1'⟩,⟨h3,h3'⟩⟩
    | cons=>simp at hk
 have sum:∀(l q:Nat)(c:UInt8)(a b:Td × Tr)(s t:Tn),(a.1=s.x/\LnD a.2 (90*s.tk.length) h)->(b.1=t.x/\LnD b.2 (90*t.tk.length) h)->LnD (grD (twD (inD l a.1 a.2) (dpD (twD blD (twD (wdD [c,32]) (inD q b.1 b.2)))))) (90*((brk l s).length+1+(brk q t).length)) (h+2):=fun l q c a b s t ha hb=>by
  refine j6s ((q6e ((j9m ha.1 ha.2 l).mono (Nat.le_refl _) (Nat.le_add_right h 2)) (j6r (q6e (j6q.mono (Nat.le_refl _) (Nat.zero_le h)) (q6e ((z2r [c,32]).mono (Nat.le_refl _) (Nat.zero_le h)) (j9m hb.1 hb.2 q))))).mono ?_ (Nat.le_refl _));simp only[List.length_cons,List.length_nil];omega
 rcases q1n hx with⟨ho,_,h0,h9,_⟩|⟨ho,hn,_⟩|⟨ho,hn,_⟩|⟨ho,_⟩|⟨ho,_,_,h2⟩|⟨ho,_,_,h2⟩
 ·rw[show q0d x ps=wdD (q3c x.n.toNat) by simp[q0d,ho],show z5t x ts=[q3c x.n.toNat] by simp[z5t,ho]];have h1:=q6r 5 x.n.toNat (by omega);exact(z2r _).mono (by simp only[List.length_cons,List.length_nil];omega) (Nat.zero_le _)
 ·rw[show q0d x ps=wdD (btL x.tx) by simp[q0d,ho],show z5t x ts=[btL x.tx] by simp[z5t,ho]];have h1:=q1v hn;exact(z2r _).mono (by simp only[List.length_cons,List.length_nil];omega) (Nat.zero_le _)
 ·rw[show q0d x ps=q1d (btL x.tx++[40]) [41] ps by simp[q0d,ho],show z5t x ts=btL x.tx::[40]::(cmk ts++[[41]]) by simp[z5t,ho]];have h1:=q1v hn;refine(k4u m (by simp only[List.length_append,List.length_cons,List.length_nil];omega)).mono ?_ (Nat.le_refl _);simp only[List.length_append,List.length_cons,List.length_nil];omega
 ·rw[show q0d x ps=q1d [91] [93] ps by simp[q0d,ho],show z5t x ts=[91]::(cmk ts++[[93]]) by simp[z5t,ho]];refine(k4u m (by decide)).mono ?_ (Nat.le_refl _);simp only[List.length_append,List.length_cons,List.length_nil];omega
 ·obtain⟨a,b,c,d,rfl,rfl,h3,h4⟩:=two h2;rw[show q0d x [a,b]=grD (twD (inD 0 a.1 a.2) (dpD (twD blD (twD (wdD [43,32]) (inD 1 b.1 b.2))))) by simp[q0d,tw2,ho],show z5t x [c,d]=brk 0 c++[43]::brk 1 d by simp[z5t,two2,ho]];refine(sum 0 1 43 a b c d h3 h4).mono ?_ (Nat.le_refl _);simp only[List.length_append,List.length_cons];omega
 ·obtain⟨a,b,c,d,rfl,rfl,h3,h4⟩:=two h2;rw[show q0d x [a,b]=grD (twD (inD 1 a.1 a.2) (dpD (twD blD (twD (wdD [42,32]) (inD 2 b.1 b.2))))) by simp[q0d,tw2,ho],show z5t x [c,d]=brk 1 c++[42]::brk 2 d by simp[z5t,two2,ho]];refine(sum 1 2 42 a b c d h3 h4).mono ?_ (Nat.le_refl _);simp only[List.length_append,List.length_cons];omega
theorem k3a:∀F:Fo,F.ok->F.exs->Mls (2*F.nodes.length) F.dcs F.trs
 | .nil,_,_=>.nil
 | .cons x k n,hok,hex=>by
  have h1:=k3a k hok.2.1 fun y hy=>hex y (by simp[Fo.nodes,hy])
  have h2:=k3a n hok.2.2 fun y hy=>hex y (by simp[Fo.nodes,hy])
  have h3:=v2d h1 (hex x (by simp[Fo.nodes])) (by rw[q2m];exact hok.1);have e:(Fo.cons x k n).nodes.length=1+k.nodes.length+n.nodes.length:=by simp only[Fo.nodes,List.length_cons,List.length_append];omega
  exact .cons rfl (h3.mono (Nat.le_refl _) (by omega)) (h2.up (by omega))
theorem j8q{t:List Td}(h:q0b t=0)(h9:opT t≠9){cs cs':List Int}{r:List UInt8}(hr:(q0i t).lay 0 cs=.ok (r,cs')):r.length<=90*(j7s t).length:=by
 have hl40:=(q1z h).1;obtain⟨x,y,k,rfl,hok,hex,hk,hx⟩:=q4j h h9;have hm:=k3a _ hok hex
 have hd:LnD (q0d y k.dcs) (90*(q3d y k.trs).tk.length) (2*(Fo.cons y k .nil).nodes.length):=by
  cases hm with
  | cons _ h1 _=>exact h1
 have e0:q0i (x::(Fo.cons y k .nil).nodes)=stD x (q0d y k.dcs):=q5n hok hk;have e1:j7s (x::(Fo.cons y k .nil).nodes)=stK x (Fo.cons y k .nil).trs:=(z7g hok hk).2;rw[e0]at hr;rw[e1];simp only[List.length_cons]at hl40;generalize q0d y k.dcs=D at hd hr;have hH:2*(Fo.cons y k .nil).nodes.length<=78:=by omega
 generalize 2*(Fo.cons y k .nil).nodes.length=H at hd hH;have z:∀s:List UInt8,∀q,LnD (wdD s) s.length q:=fun s q=>(z2r s).mono (Nat.le_refl _) (Nat.zero_le _)
 have hD:=q6e hd (z [59] _);rcases hx with⟨ho,hnm,_⟩|⟨ho,_,_⟩
 ·have h8:=q1v hnm;rw[stD,if_pos ho]at hr;have h5:=j6s (q6e (z ([108,101,116,32]++btL x.tx++[32,61]) _) (j6r (q6e (j6q.mono (Nat.le_refl _) (Nat.zero_le _)) hD)));have h6:=h5.2 0 cs cs' r hr (by omega);have e3:(stK x (Fo.cons y k .nil).trs).length=(q3d y k.trs).tk.length+4:=by simp[stK,ho,hdK,Fo.trs]
  rw[e3];simp only[List.length_append,List.length_cons,List.length_nil]at h6;omega
 ·rw[stD,if_neg (by omega)]at hr;have h6:=hD.2 0 cs cs' r hr (by omega);have e3:(stK x (Fo.cons y k .nil).trs).length=(q3d y k.trs).tk.length+1:=by simp[stK,ho,hdK,Fo.trs]
  rw[e3];simp only[List.length_cons,List.length_nil]at h6;omega
end Go.Proofs.YthjapabokcajhaaGreatDoor
namespace Go.Proofs.YthjapabokcajhaaGreatDoor
def q1e(wd:Nat):Nat->List UInt8->Nat × Nat × Nat
 | c,[]=>(0,0,c)
 | c,b::s=>if b=10 then((q1e wd 0 s).1,(q1e wd 0 s).2.1+1,(q1e wd 0 s).2.2)else((if wd<=c then 1 else 0)+(q1e wd (c+1) s).1,(q1e wd (c+1) s).2.1,(q1e wd (c+1) s).2.2)
theorem q8o(wd:Nat):∀(c:Nat)(s t:List UInt8),q1e wd c (s++t)=((q1e wd c s).1+(q1e wd (q1e wd c s).2.2 t).1,(q1e wd c s).2.1+(q1e wd (q1e wd c s).2.2 t).2.1,(q1e wd (q1e wd c s).2.2 t).2.2)
 | c,[],t=>by simp[q1e]
 | c,b::s,t=>by
  simp only[List.cons_append,q1e]
  split
  ·rw[q8o wd 0 s t];simp only[Prod.mk.injEq,and_true,true_and];omega
  ·rw[q8o wd (c+1) s t];simp only[Prod.mk.injEq,and_true];omega
abbrev Crs:=(Nat × Nat) × List Int
def q2f(a b:Nat × Nat):Prop:=a.1<b.1\/(a.1=b.1/\a.2<b.2)
instance(a b:Nat × Nat):Decidable (q2f a b):=by unfold q2f;infer_instance
def z9b(a b:Crs):Crs:=if q2f b.1 a.1 then b else a
def q4p:Option Crs->Option Crs->Option Crs
 | none,y=>y
 | x,none=>x
 | some a,some b=>some (z9b a b)
theorem k0v(a b c:Crs):z9b (z9b a b) c=z9b a (z9b b c):=by
 by_cases h1:q2f b.1 a.1<;>by_cases h2:q2f c.1 b.1<;>by_cases h3:q2f c.1 a.1
 all_goals first
  | (simp[z9b,h1,h2,h3];done)
  | (exfalso;unfold q2f at h1 h2 h3;omega)
theorem z7e(x y z:Option Crs):q4p (q4p x y) z=q4p x (q4p y z):=by
 cases x<;>cases y<;>cases z<;>simp[q4p,k0v]
def fm:List Crs->Option Crs
 | []=>none
 | a::l=>q4p (some a) (fm l)
theorem k3v:∀l m:List Crs,fm (l++m)=q4p (fm l) (fm m)
 | [],m=>by cases h:fm m<;>simp[fm,q4p,h]
 | a::l,m=>by rw[List.cons_append,fm,fm,k3v l m,z7e]
def q3k(o l:Nat)(u:List Int)(a:Crs):Crs:=((o+a.1.1,l+a.1.2),u++a.2)
theorem z4l(o l:Nat)(u:List Int)(a b:Crs):q2f (q3k o l u b).1 (q3k o l u a).1↔q2f b.1 a.1:=by
 unfold q2f q3k;dsimp only;omega
theorem k6o(o l:Nat)(u:List Int)(a b:Crs):z9b (q3k o l u a) (q3k o l u b)=q3k o l u (z9b a b):=by
 unfold z9b;by_cases h:q2f b.1 a.1
 ·rw[if_pos h,if_pos ((z4l o l u a b).2 h)]
 ·rw[if_neg h,if_neg fun k=>h ((z4l o l u a b).1 k)]
theorem q7v(o l:Nat)(u:List Int):∀as:List Crs,fm (as.map (q3k o l u))=(fm as).map (q3k o l u)
 | []=>rfl
 | a::as=>by
  rw[List.map_cons,fm,q7v o l u as,fm];cases fm as with
  | none=>rfl
  | some b=>simp[q4p,k6o]
theorem k3w:∀{l:List Crs},fm l=none->l=[]
 | [],_=>rfl
 | a::l,h=>by
  rw[fm]at h;cases hl:fm l<;>rw[hl]at h<;>simp[q4p]at h
theorem z2i:∀{l:List Crs}{a:Crs},fm l=some a->∃(p q:List Crs),l=p++a::q/\(∀b∈p,q2f a.1 b.1)/\∀b∈q,¬q2f b.1 a.1
 | b::l,a,h=>by
  rw[fm]at h;cases hl:fm l with
  | none=>
   rw[hl]at h;obtain rfl:=k3w hl;simp only[q4p,Option.some.injEq]at h;subst h;exact⟨[],[],rfl,by simp,by simp⟩
  | some c=>
   rw[hl]at h;obtain⟨p,q,rfl,h1,h2⟩:=z2i hl;simp only[q4p,Option.some.injEq,z9b]at h
   split at h
   ·rename_i hlt;subst h;refine⟨b::p,q,rfl,fun d hd=>?_,h2⟩;rcases List.mem_cons.1 hd with rfl|hd
    ·exact hlt
    ·exact h1 d hd
   ·rename_i hlt;subst h;refine⟨[],p++c::q,rfl,by simp,fun d hd=>?_⟩;rcases List.mem_append.1 hd with hd|hd
    ·have:=h1 d hd
     unfold q2f at *;omega
    ·rcases List.mem_cons.1 hd with rfl|hd
     ·exact hlt
     ·have:=h2 d hd
      unfold q2f at *;omega
def Tr.outs:Tr->Nat->List (List UInt8 × List Int)
 | .leaf x,deep=>[(if x.op=1 then x.tx.data.toList else if x.op=5 then []else 10::List.replicate deep 32,[])]
 | .one x a,deep=>if x.op=7 then a.outs (deep+x.n.toNat)else(match a.flat with|none=>[]|some s=>[(s,[0])])++(a.outs deep).map fun p=>(p.1,1::p.2)
 | .two x a b,deep=>if x.op=6 then(a.outs deep).flatMap fun p=>(b.outs deep).map fun q=>(p.1++q.1,p.2++q.2)else((a.outs deep).map fun p=>(p.1,0::p.2))++(b.outs deep).map fun p=>(p.1,1::p.2)
theorem q2g:∀(t:Tr)(deep:Nat),(t.outs deep).map (·.2)=t.ways
 | .leaf x,deep=>by simp[Tr.outs,Tr.ways]
 | .one x a,deep=>by
  simp only[Tr.outs,Tr.ways]
  split
  ·exact q2g a _
  ·rw[List.map_append,<-q2g a deep]
   congr 1
   ·cases h:a.flat<;>simp[Tr.isFlat,h]
   ·rw[List.map_map,List.map_map];rfl
 | .two x a b,deep=>by
  simp only[Tr.outs,Tr.ways]
  split
  ·rw[<-q2g a deep,<-q2g b deep,List.map_flatMap,List.flatMap_map]
   congr 1
   funext p
   rw[List.map_map,List.map_map];rfl
  ·rw[<-q2g a deep,<-q2g b deep,List.map_append,List.map_map,List.map_map,List.map_map,List.map_map];rfl
theorem q4f:∀(t:Tr)(deep:Nat)(p:List UInt8 × List Int),p∈t.outs deep->∀r,t.lay deep (p.2++r)=.ok (p.1,r)
 | .leaf x,deep,p,h,r=>by
  simp only[Tr.outs,List.mem_singleton]at h;subst h;simp only[Tr.lay,List.nil_append]
  split
  ·rfl
  ·split<;>rfl
 | .one x a,deep,p,h,r=>by
  simp only[Tr.outs]at h;simp only[Tr.lay]
  split at h
  ·rename_i h7;rw[if_pos h7];exact q4f a _ p h r
  ·rename_i h7;rw[if_neg h7];rcases List.mem_append.1 h with h|h
   ·cases hf:a.flat with
    | none=>rw[hf]at h;simp at h
    | some s=>
     rw[hf]at h;simp only[List.mem_singleton]at h;subst h;simp
   ·obtain⟨q,hq,rfl⟩:=List.mem_map.1 h;simp only[List.cons_append,if_pos];exact q4f a deep q hq r
 | .two x a b,deep,p,h,r=>by
  simp only[Tr.outs]at h;simp only[Tr.lay]
  split at h
  ·rename_i h6;rw[if_pos h6];obtain⟨u,hu,hp⟩:=List.mem_flatMap.1 h;obtain⟨v,hv,rfl⟩:=List.mem_map.1 hp;dsimp only;rw[List.append_assoc,q4f a deep u hu (v.2++r)];dsimp only;rw[q4f b deep v hv r]
  ·rename_i h6;rw[if_neg h6];rcases List.mem_append.1 h with h|h
   ·obtain⟨q,hq,rfl⟩:=List.mem_map.1 h;simp only[List.cons_append,if_pos];exact q4f a deep q hq r
   ·obtain⟨q,hq,rfl⟩:=List.mem_map.1 h;simp only[List.cons_append];rw[if_neg (by decide)];exact q4f b deep q hq r
def q3f:List (Nat × Tr)->List (List UInt8 × List Int)
 | []=>[([],[])]
 | (d,t)::ks=>(t.outs d).flatMap fun p=>(q3f ks).map fun q=>(p.1++q.1,p.2++q.2)
def q2o(wd c:Nat)(ks:List (Nat × Tr)):List Crs:=(q3f ks).map fun p=>(((q1e wd c p.1).1,(q1e wd c p.1).2.1),p.2)
def bst(wd c:Nat)(ks:List (Nat × Tr)):Option Crs:=fm (q2o wd c ks)
theorem j4x(wd c:Nat):bst wd c []=some ((0,0),[]):=by simp[bst,q2o,q3f,q1e,fm,q4p]
theorem z0y(wd c:Nat)(s:List UInt8)(u:List Int)(ks:List (Nat × Tr)):((q3f ks).map fun q=>(s++q.1,u++q.2)).map (fun p=>(((q1e wd c p.1).1,(q1e wd c p.1).2.1),p.2))=(q2o wd (q1e wd c s).2.2 ks).map (q3k (q1e wd c s).1 (q1e wd c s).2.1 u):=by
 unfold q2o;rw[List.map_map,List.map_map]
 congr 1
 funext q
 simp only[Function.comp,q8o,q3k]
theorem z1z(wd c d:Nat)(x:Nd)(ks:List (Nat × Tr))(s:List UInt8)(hs:s=if x.op=1 then x.tx.data.toList else if x.op=5 then []else 10::List.replicate d 32):
  bst wd c ((d,.leaf x)::ks)=(bst wd (q1e wd c s).2.2 ks).map (q3k (q1e wd c s).1 (q1e wd c s).2.1 []):=by
 unfold bst;rw[<-q7v,<-z0y,q2o,q3f,Tr.outs,<-hs];simp
theorem k9d(wd c d:Nat)(x:Nd)(a:Tr)(ks:List (Nat × Tr))(h:x.op=7):bst wd c ((d,.one x a)::ks)=bst wd c ((d+x.n.toNat,a)::ks):=by
 unfold bst q2o;rw[q3f,q3f,Tr.outs,if_pos h]
theorem q9l(wd c d:Nat)(k:Int)(a:Tr)(ks:List (Nat × Tr)):((((a.outs d).map fun p=>(p.1,k::p.2)).flatMap fun p=>(q3f ks).map fun q=>(p.1++q.1,p.2++q.2)).map (fun p=>(((q1e wd c p.1).1,(q1e wd c p.1).2.1),p.2)))=(q2o wd c ((d,a)::ks)).map (q3k 0 0 [k]):=by
 unfold q2o;rw[q3f,List.flatMap_map,List.map_map,List.map_flatMap,List.map_flatMap]
 congr 1
 funext p
 rw[List.map_map,List.map_map]
 congr 1
 funext q
 simp[Function.comp,q3k]
theorem z3r(wd c d:Nat)(x:Nd)(a:Tr)(ks:List (Nat × Tr))(h:x.op≠7):
  bst wd c ((d,.one x a)::ks)=q4p (match a.flat with|none=>none|some s=>(bst wd (q1e wd c s).2.2 ks).map (q3k (q1e wd c s).1 (q1e wd c s).2.1 [0])) ((bst wd c ((d,a)::ks)).map (q3k 0 0 [1])):=by
 unfold bst;rw[<-q7v,<-q9l];rw[q2o,q3f,Tr.outs,if_neg h,List.flatMap_append,List.map_append,k3v]
 congr 1
 cases hf:a.flat with
 | none=>rfl
 | some s=>
  dsimp only;rw[<-q7v,<-z0y];simp
theorem k9c(wd c d:Nat)(x:Nd)(a b:Tr)(ks:List (Nat × Tr))(h:x.op=6):bst wd c ((d,.two x a b)::ks)=bst wd c ((d,a)::(d,b)::ks):=by
 unfold bst q2o;rw[q3f,q3f,q3f,Tr.outs,if_pos h,List.flatMap_assoc]
 congr 2
 congr 1
 funext p
 rw[List.flatMap_map,List.map_flatMap]
 congr 1
 funext q
 rw[List.map_map]
 congr 1
 funext z
 simp[Function.comp,List.append_assoc]
theorem z9z(wd c d:Nat)(x:Nd)(a b:Tr)(ks:List (Nat × Tr))(h:x.op≠6):
  bst wd c ((d,.two x a b)::ks)=q4p ((bst wd c ((d,a)::ks)).map (q3k 0 0 [0])) ((bst wd c ((d,b)::ks)).map (q3k 0 0 [1])):=by
 unfold bst;rw[<-q7v,<-q7v,<-q9l,<-q9l,q2o,q3f,Tr.outs,if_neg h,List.flatMap_append,List.map_append,k3v]
end Go.Proofs.YthjapabokcajhaaGreatDoor
namespace Go.Proofs.YthjapabokcajhaaGreatDoor
theorem j7m(t:Tr)(deep:Nat):t.outs deep≠[]:=fun h=>by
 have:=q2g t deep
 rw[h]at this;exact z0b t this.symm
theorem z8y:∀ks:List (Nat × Tr),q3f ks≠[]
 | []=>by simp[q3f]
 | (d,t)::ks=>by
  have h1:=j7m t d;have h2:=z8y ks;obtain⟨p,ps,e⟩:=List.exists_cons_of_ne_nil h1;rw[q3f,e];simp[h2]
theorem z7t(wd c:Nat)(ks:List (Nat × Tr)):∃a,bst wd c ks=some a:=by
 cases h:bst wd c ks with
 | some a=>exact⟨a,rfl⟩
 | none=>
  have:=k3w h
  unfold q2o at this;exact absurd (List.map_eq_nil_iff.1 this) (z8y ks)
end Go.Proofs.YthjapabokcajhaaGreatDoor
namespace Go.Proofs.YthjapabokcajhaaGreatDoor
def Tr.txt(t:Tr)(u:List Int):List UInt8:=match t.show u with| .ok s=>s| .error _=>[]
theorem k6l{t:Tr}{p:List UInt8 × List Int}(h:p∈t.outs 0):t.show p.2=.ok p.1:=by
 have hw:p.2∈t.ways:=by rw[<-q2g t 0];exact List.mem_map.2 ⟨p,h,rfl⟩
 have hl:=q4f t 0 p h [];rw[List.append_nil]at hl;unfold Tr.show;rw[if_pos (z9q.2 (q5d t _ hw)),hl]
theorem j1a{t:Tr}{p:List UInt8 × List Int}(h:p∈t.outs 0):t.txt p.2=p.1:=by rw[Tr.txt,k6l h]
def Tr.cst(t:Tr)(wd:Nat)(u:List Int):Nat × Nat:=((q1e wd 0 (t.txt u)).1,(q1e wd 0 (t.txt u)).2.1)
theorem k0m(t:Tr)(wd:Nat):q2o wd 0 [(0,t)]=t.ways.map fun u=>(t.cst wd u,u):=by
 have h1:q3f [(0,t)]=t.outs 0:=by simp[q3f]
 unfold q2o;rw[h1,<-q2g t 0,List.map_map];refine List.map_congr_left fun p hp=>?_
 simp only[Function.comp,Tr.cst,j1a hp]
def Tr.best(t:Tr)(wd:Nat):Option Crs:=fm (t.ways.map fun u=>(t.cst wd u,u))
theorem q6n(t:Tr)(wd:Nat):t.best wd=bst wd 0 [(0,t)]:=by rw[Tr.best,<-k0m];rfl
theorem k2b(t:Tr)(wd:Nat):∃a,t.best wd=some a:=by rw[q6n];exact z7t wd 0 _
theorem z0m:∀u:List Int,¬q1x u u
 | []=>by simp[q1x]
 | a::u=>by simp only[q1x,if_pos];exact z0m u
theorem q8y:∀{u v:List Int},q1x u v->¬q1x v u
 | a::u,b::v,h=>by
  simp only[q1x]at h⊢;by_cases e:a=b
  ·subst e;rw[if_pos rfl]at h⊢;exact q8y h
  ·rw[if_neg e]at h;rw[if_neg fun k=>e k.symm];omega
theorem q5f{t:Tr}{wd:Nat}{a:Crs}(h:t.best wd=some a):a.2∈t.ways/\t.show a.2=.ok (t.txt a.2)/\a.1=t.cst wd a.2/\∀w∈t.ways,¬q2f (t.cst wd w) a.1/\(t.cst wd w=a.1->¬q1x w a.2):=by
 obtain⟨p,q,e,h1,h2⟩:=z2i h;obtain⟨p',r,e1,e2,e3⟩:=List.map_eq_append_iff.1 e;obtain⟨x,q',e4,e5,e6⟩:=List.map_eq_cons_iff.1 e3;subst e4 e2 e6 e5;have hin:x∈t.ways:=by rw[e1];simp
 have hr:=q7k t;rw[e1]at hr;refine⟨hin,?_,rfl,fun w hw=>?_⟩
 ·obtain⟨s,hs⟩:=(q9t t x).2 hin;simp only[Tr.txt,hs]
 ·rw[e1]at hw;dsimp only;rcases List.mem_append.1 hw with hw|hw
  ·have:=h1 _ (List.mem_map.2 ⟨w,hw,rfl⟩)
   dsimp only at this;refine⟨?_,fun k=>?_⟩
   ·unfold q2f at *;omega
   ·rw[k]at this;unfold q2f at this;omega
  ·rcases List.mem_cons.1 hw with rfl|hw
   ·refine⟨?_,fun _=>z0m _⟩;unfold q2f;omega
   ·refine⟨h2 _ (List.mem_map.2 ⟨w,hw,rfl⟩),fun _=>q8y ?_⟩;exact(List.pairwise_cons.1 (List.pairwise_append.1 hr).2.1).1 w hw
end Go.Proofs.YthjapabokcajhaaGreatDoor
