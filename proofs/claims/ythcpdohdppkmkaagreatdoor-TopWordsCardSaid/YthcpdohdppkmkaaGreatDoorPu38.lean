import Derived.Test.YthcpdohdppkmkaaGreatDoorPu37
import Derived.Test.YthcpdohdppkmkaaGreatDoorPu14
open Go.Proofs.Tryz
namespace Go.Proofs.YthcpdohdppkmkaaGreatDoor
open Go Go.RowKit
def LnD(D:Tr)(b h:Nat):Prop:=(∀r,D.flat=some r->r.length<=b)/\∀deep cs cs' r,D.lay deep cs=.ok (r,cs')->deep+h<=80->r.length<=b
theorem LnD.mono{D:Tr}{b b' h h':Nat}(hd:LnD D b h)(hb:b<=b')(hh:h<=h'):LnD D b' h':=
 ⟨fun r hr=>Nat.le_trans (hd.1 r hr) hb,fun deep cs cs' r hr h1=>Nat.le_trans (hd.2 deep cs cs' r hr (by omega)) hb⟩
theorem z9o(s:List UInt8):LnD (wdD s) s.length 0:=
 ⟨fun r hr=>by cases hr;exact Nat.le_refl _,fun deep cs cs' r hr _=>by cases hr;exact Nat.le_refl _⟩
theorem y5w:LnD blD 81 0:=
 ⟨fun r hr=>by cases hr;decide,fun deep cs cs' r hr h=>by cases hr;simp;omega⟩
theorem g1f:LnD sfD 81 0:=
 ⟨fun r hr=>by cases hr;decide,fun deep cs cs' r hr h=>by cases hr;simp;omega⟩
theorem q9n{a b:Tr}{x y h:Nat}(ha:LnD a x h)(hb:LnD b y h):LnD (twD a b) (x+y) h:=by
 refine⟨fun r hr=>?_,fun deep cs cs' r hr hh=>?_⟩
 ·simp only[Tr.flat,if_true]at hr;cases ea:a.flat with
  | none=>rw[ea]at hr;cases hr
  | some s=>
   cases eb:b.flat with
   | none=>rw[ea,eb]at hr;cases hr
   | some t=>
    rw[ea,eb]at hr;cases hr;have h1:=ha.1 s ea;have h2:=hb.1 t eb;rw[List.length_append];omega
 ·simp only[Tr.lay,if_true]at hr;cases la:a.lay deep cs with
  | error e=>rw[la]at hr;cases hr
  | ok p=>
   obtain⟨r1,c1⟩:=p;rw[la]at hr;simp only at hr;cases lb:b.lay deep c1 with
   | error e=>rw[lb]at hr;cases hr
   | ok p2=>
    obtain⟨r2,c2⟩:=p2;rw[lb]at hr;cases hr;have h1:=ha.2 _ _ _ _ la hh;have h2:=hb.2 _ _ _ _ lb hh;rw[List.length_append];omega
theorem y5x{a:Tr}{x h:Nat}(ha:LnD a x h):LnD (dpD a) x (h+2):=
 ⟨fun r hr=>ha.1 r hr,fun deep cs cs' r hr hh=>ha.2 (deep+(2:Int).toNat) cs cs' r hr (by have:(2:Int).toNat=2:=rfl;omega)⟩
theorem y5y{a:Tr}{x h:Nat}(ha:LnD a x h):LnD (grD a) x h:=by
 refine⟨fun r hr=>ha.1 r hr,fun deep cs cs' r hr hh=>?_⟩;simp only[Tr.lay]at hr;rw[if_neg (by decide)]at hr;cases cs with
 | nil=>cases hr
 | cons c cs=>
  simp only at hr
  split at hr
  ·exact ha.2 _ _ _ _ hr hh
  ·cases hf:a.flat with
   | none=>rw[hf]at hr;cases hr
   | some s=>rw[hf]at hr;cases hr;exact ha.1 _ hf
theorem g1d{x:Td}{d:Tr}{t:Tn}{h:Nat}(hx:x=t.x)(hd:LnD d (90*t.tk.length) h)(l:Nat):LnD (inD l x d) (90*(brk l t).length) h:=by
 unfold inD brk;rw[hx]
 split
 ·refine(q9n ((z9o [40]).mono Zl (Nat.zero_le h)) (q9n hd ((z9o [41]).mono Zl (Nat.zero_le h)))).mono ?_ Zl;simp only[List.length_cons,List.length_append,List.length_nil];omega
 ·exact hd
inductive Mls (h:Nat):List (Td × Tr)->List Tn->Prop where
 | nil:Mls h [] []
 | cons {p t ps ts}:p.1=t.x->LnD p.2 (90*t.tk.length) h->Mls h ps ts->Mls h (p::ps) (t::ts)
theorem Mls.up{h h':Nat}(hh:h<=h'){ps:List (Td × Tr)}{ts:List Tn}(m:Mls h ps ts):Mls h' ps ts:=by
 induction m with
 | nil=>exact .nil
 | cons e hd _ ih=>exact .cons e (hd.mono Zl hh) ih
theorem g1e{h:Nat}:∀{ps:List (Td × Tr)}{ts:List Tn},Mls h ps ts->ps≠[]->LnD (kdD ps) (90*(cmk ts).length) h
 | _,_,.cons _ hd .nil,_=>by simp only[kdD,cmk,List.append_nil];exact hd
 | _,_,.cons (p:=p0) (t:=t0) (ps:=p::ps) (ts:=t::ts) _ hd (.cons e2 h2 h3),_=>by
  have ih:=g1e (Mls.cons e2 h2 h3) (by simp);show LnD (twD (twD p0.2 (wdD [44])) (twD blD (kdD (p::ps)))) _ h;refine(q9n (q9n hd ((z9o [44]).mono Zl (Nat.zero_le h))) (q9n (y5w.mono Zl (Nat.zero_le h)) ih)).mono ?_ Zl;have e:(cmk (t0::t::ts)).length=t0.tk.length+1+(cmk (t::ts)).length:=by simp[cmk];omega
  rw[e];simp only[List.length_cons,List.length_nil];omega
theorem j9y{h:Nat}{ps:List (Td × Tr)}{ts:List Tn}(m:Mls h ps ts){op cl:List UInt8}(ho:op.length+cl.length<=18):LnD (q1y op cl ps) (90*((cmk ts).length+2)) (h+2):=by
 unfold q1y
 split
 ·refine(z9o _).mono ?_ (Nat.zero_le _);rw[List.length_append];omega
 ·rename_i h0;have hk:=g1e m fun e=>h0 (by rw[e];rfl)
  have z:∀s:List UInt8,LnD (wdD s) s.length (h+2):=fun s=>(z9o s).mono Zl (Nat.zero_le _)
  have zs:LnD sfD 81 (h+2):=g1f.mono Zl (Nat.zero_le _);refine y5y ((q9n (z op) (q9n (y5x (q9n (g1f.mono Zl (Nat.zero_le h)) hk)) (q9n zs (z cl)))).mono ?_ Zl);omega
theorem g5j{h:Nat}{x:Td}{ps:List (Td × Tr)}{ts:List Tn}(m:Mls h ps ts)(hx:exN x)(hk:ps.length=kdT x):LnD (q0l x ps) (90*(q2w x ts).length) (h+2):=by
 have two:kdT x=2->∃a b c d,ps=[a,b]/\ts=[c,d]/\(a.1=c.x/\LnD a.2 (90*c.tk.length) h)/\(b.1=d.x/\LnD b.2 (90*d.tk.length) h):=fun e=>by
  rw[e]at hk;cases m with
  | nil=>simp at hk
  | cons h1 h1' h2=>cases h2 with
   | nil=>simp at hk
   | cons h3 h3' h4=>cases h4 with
    | nil=>exact⟨_,_,_,_,rfl,rfl,⟨h1,h1'⟩,⟨h3,h3'⟩⟩
    | cons=>simp at hk
 have sum:∀(l q:Nat)(c:UInt8)(a b:Td × Tr)(s t:Tn),(a.1=s.x/\LnD a.2 (90*s.tk.length) h)->(b.1=t.x/\LnD b.2 (90*t.tk.length) h)->LnD (grD (twD (inD l a.1 a.2) (dpD (twD blD (twD (wdD [c,32]) (inD q b.1 b.2)))))) (90*((brk l s).length+1+(brk q t).length)) (h+2):=fun l q c a b s t ha hb=>by
  refine y5y ((q9n ((g1d ha.1 ha.2 l).mono Zl (Nat.le_add_right h 2)) (y5x (q9n (y5w.mono Zl (Nat.zero_le h)) (q9n ((z9o [c,32]).mono Zl (Nat.zero_le h)) (g1d hb.1 hb.2 q))))).mono ?_ Zl);simp only[List.length_cons,List.length_nil];omega
 rcases q2j hx with⟨ho,_,h0,h9,_⟩|⟨ho,hn,_⟩|⟨ho,hn,_⟩|⟨ho,_⟩|⟨ho,_,_,h2⟩|⟨ho,_,_,h2⟩
 ·rw[show q0l x ps=wdD (q3q x.n.toNat) by simp[q0l,ho],show q2w x ts=[q3q x.n.toNat] by simp[q2w,ho]];have h1:=z0g 5 x.n.toNat (by omega);exact(z9o _).mono (by simp only[List.length_cons,List.length_nil];omega) (Nat.zero_le _)
 ·rw[show q0l x ps=wdD (btL x.tx) by simp[q0l,ho],show q2w x ts=[btL x.tx] by simp[q2w,ho]];have h1:=q2e hn;exact(z9o _).mono (by simp only[List.length_cons,List.length_nil];omega) (Nat.zero_le _)
 ·rw[show q0l x ps=q1y (btL x.tx++[40]) [41] ps by simp[q0l,ho],show q2w x ts=btL x.tx::[40]::(cmk ts++[[41]]) by simp[q2w,ho]];have h1:=q2e hn;refine(j9y m (by simp only[List.length_append,List.length_cons,List.length_nil];omega)).mono ?_ Zl;simp only[List.length_append,List.length_cons,List.length_nil];omega
 ·rw[show q0l x ps=q1y [91] [93] ps by simp[q0l,ho],show q2w x ts=[91]::(cmk ts++[[93]]) by simp[q2w,ho]];refine(j9y m (by decide)).mono ?_ Zl;simp only[List.length_append,List.length_cons,List.length_nil];omega
 ·obtain⟨a,b,c,d,rfl,rfl,h3,h4⟩:=two h2;rw[show q0l x [a,b]=grD (twD (inD 0 a.1 a.2) (dpD (twD blD (twD (wdD [43,32]) (inD 1 b.1 b.2))))) by simp[q0l,tw2,ho],show q2w x [c,d]=brk 0 c++[43]::brk 1 d by simp[q2w,two2,ho]];refine(sum 0 1 43 a b c d h3 h4).mono ?_ Zl;simp only[List.length_append,List.length_cons];omega
 ·obtain⟨a,b,c,d,rfl,rfl,h3,h4⟩:=two h2;rw[show q0l x [a,b]=grD (twD (inD 1 a.1 a.2) (dpD (twD blD (twD (wdD [42,32]) (inD 2 b.1 b.2))))) by simp[q0l,tw2,ho],show q2w x [c,d]=brk 1 c++[42]::brk 2 d by simp[q2w,two2,ho]];refine(sum 1 2 42 a b c d h3 h4).mono ?_ Zl;simp only[List.length_append,List.length_cons];omega
theorem j7h:∀F:Fo,F.ok->F.exs->Mls (2*F.N.length) F.D F.R
 | .nil,_,_=>.nil
 | .cons x k n,hok,hex=>by
  have h1:=j7h k hok.2.1 fun y hy=>hex y (by simp[Fo.N,hy])
  have h2:=j7h n hok.2.2 fun y hy=>hex y (by simp[Fo.N,hy])
  have h3:=g5j h1 (hex x (by simp[Fo.N])) (by rw[q7p];exact hok.1);have e:(Fo.cons x k n).N.length=1+k.N.length+n.N.length:=by simp only[Fo.N,List.length_cons,List.length_append];omega
  exact .cons rfl (h3.mono Zl (by omega)) (h2.up (by omega))
theorem y1l{t:List Td}(h:q0d t=0)(h9:opT t≠9){cs cs':List Int}{r:List UInt8}(hr:(q0n t).lay 0 cs=.ok (r,cs')):r.length<=90*(q5l t).length:=by
 have hl40:=(q2o h).1;obtain⟨x,y,k,rfl,hok,hex,hk,hx⟩:=q7b h h9;have hm:=j7h _ hok hex
 have hd:LnD (q0l y k.D) (90*(q0m y k.R).tk.length) (2*(Fo.cons y k .nil).N.length):=by
  cases hm with
  | cons _ h1 _=>exact h1
 have e0:q0n (x::(Fo.cons y k .nil).N)=stD x (q0l y k.D):=z1g hok hk;have e1:q5l (x::(Fo.cons y k .nil).N)=stK x (Fo.cons y k .nil).R:=(q7a hok hk).2;rw[e0]at hr;rw[e1];simp only[List.length_cons]at hl40;generalize q0l y k.D=D at hd hr;have hH:2*(Fo.cons y k .nil).N.length<=78:=by omega
 generalize 2*(Fo.cons y k .nil).N.length=H at hd hH;have z:∀s:List UInt8,∀q,LnD (wdD s) s.length q:=fun s q=>(z9o s).mono Zl (Nat.zero_le _)
 have hD:=q9n hd (z [59] _);rcases hx with⟨ho,hnm,_⟩|⟨ho,_,_⟩
 ·have h8:=q2e hnm;rw[stD,if_pos ho]at hr;have h5:=y5y (q9n (z ([108,101,116,32]++btL x.tx++[32,61]) _) (y5x (q9n (y5w.mono Zl (Nat.zero_le _)) hD)));have h6:=h5.2 0 cs cs' r hr (by omega);have e3:(stK x (Fo.cons y k .nil).R).length=(q0m y k.R).tk.length+4:=by simp[stK,ho,hdK,Fo.R]
  rw[e3];simp only[List.length_append,List.length_cons,List.length_nil]at h6;omega
 ·rw[stD,if_neg (by omega)]at hr;have h6:=hD.2 0 cs cs' r hr (by omega);have e3:(stK x (Fo.cons y k .nil).R).length=(q0m y k.R).tk.length+1:=by simp[stK,ho,hdK,Fo.R]
  rw[e3];simp only[List.length_cons,List.length_nil]at h6;omega
theorem y9w(n:Nat):z2p (q3q n)=true:=by
 rcases Nat.eq_zero_or_pos n with h|h
 ·subst h;rw[show q3q 0=[48] by rw[q3q,dif_pos (by omega)];rfl];decide
 ·obtain⟨c,z,e,_⟩:=k2d n h;have hf:=z3v n c (by rw[e];simp);rw[e];simp only[z2p,List.headD_cons]
  have:c≠35:=fun e=>by subst e;revert hf;decide
  simpa using this
theorem k6q{s:ByteArray}(h:q0z s=true):z2p (btL s)=true:=by
 have h1:=(z0w h).1;simp only[q0z,Bool.and_eq_true,decide_eq_true_eq,List.all_eq_true]at h;cases e:btL s with
 | nil=>rw[e]at h1;simp at h1
 | cons c z=>
  have hf:=h.2 c (by rw[e];simp);simp only[z2p,List.headD_cons]
  have:c≠35:=fun e=>by subst e;revert hf;decide
  simpa using this
theorem y1g{l:Nat}{t:Tn}(h:∀w∈t.tk,z2p w=true):∀w∈brk l t,z2p w=true:=by
 unfold brk
 split
 ·intro w hw;simp at hw;rcases hw with rfl|hw|rfl
  ·decide
  ·exact h w hw
  ·decide
 ·exact h
theorem y1i:∀ts:List Tn,(∀t∈ts,∀w∈t.tk,z2p w=true)->∀w∈cmk ts,z2p w=true
 | [],_,w,hw=>by cases hw
 | [t],h,w,hw=>h t (by simp) w (by simpa[cmk]using hw)
 | t::u::r,h,w,hw=>by
  have e:cmk (t::u::r)=t.tk++[44]::cmk (u::r):=rfl;rw[e]at hw;rcases List.mem_append.1 hw with hw|hw
  ·exact h t (by simp) w hw
  ·rcases List.mem_cons.1 hw with rfl|hw
   ·decide
   ·exact y1i (u::r) (fun z hz=>h z (by simp at hz⊢;right;exact hz)) w hw
theorem v3i:∀F:Fo,F.ok->F.exs->∀t∈F.R,∀w∈t.tk,z2p w=true
 | .nil,_,_,t,ht=>by cases ht
 | .cons x k n,hok,hex,t,ht=>by
  have ihk:=v3i k hok.2.1 fun y hy=>hex y (by simp[Fo.N,hy])
  have ihn:=v3i n hok.2.2 fun y hy=>hex y (by simp[Fo.N,hy])
  rw[Fo.R]at ht;rcases List.mem_cons.1 ht with rfl|ht
  ·show ∀w∈q2w x k.R,z2p w=true;have hc:=y1i k.R ihk
   have two:∀(l m:Nat)(c:Wd),z2p c=true->∀w∈two2 (fun a b=>brk l a++c::brk m b) k.R,z2p w=true:=fun l m c hcn w hw=>by
    unfold two2 at hw
    split at hw
    ·rename_i a b hab;rcases List.mem_append.1 hw with hw|hw
     ·exact y1g (ihk a (by rw[hab];simp)) w hw
     ·rcases List.mem_cons.1 hw with rfl|hw
      ·exact hcn
      ·exact y1g (ihk b (by rw[hab];simp)) w hw
    ·cases hw
   rcases q2j (hex x (by simp[Fo.N]))with⟨ho,_⟩|⟨ho,hn,_⟩|⟨ho,hn,_⟩|⟨ho,_⟩|⟨ho,_⟩|⟨ho,_⟩
   ·rw[show q2w x k.R=[q3q x.n.toNat] by simp[q2w,ho]];intro w hw;simp at hw;subst hw;exact y9w _
   ·rw[show q2w x k.R=[btL x.tx] by simp[q2w,ho]];intro w hw;simp at hw;subst hw;exact k6q hn
   ·rw[show q2w x k.R=btL x.tx::[40]::(cmk k.R++[[41]]) by simp[q2w,ho]];intro w hw;simp at hw;rcases hw with rfl|rfl|hw|rfl
    ·exact k6q hn
    ·decide
    ·exact hc w hw
    ·decide
   ·rw[show q2w x k.R=[91]::(cmk k.R++[[93]]) by simp[q2w,ho]];intro w hw;simp at hw;rcases hw with rfl|hw|rfl
    ·decide
    ·exact hc w hw
    ·decide
   ·rw[show q2w x k.R=two2 (fun a b=>brk 0 a++[43]::brk 1 b) k.R by simp[q2w,ho]];exact two 0 1 [43] (by decide)
   ·rw[show q2w x k.R=two2 (fun a b=>brk 1 a++[42]::brk 2 b) k.R by simp[q2w,ho]];exact two 1 2 [42] (by decide)
  ·exact ihn t ht
theorem v7x{ws:List Wd}(h:∀w∈ws,z2p w=true):many ws=ws.length:=by
 unfold many;rw[List.filter_eq_self.2 h]
theorem y8d{t:List Td}(h:q0d t=0)(h9:opT t≠9):many (q5l t)=(q5l t).length:=by
 obtain⟨x,y,k,rfl,hok,hex,hk,hx⟩:=q7b h h9;have e1:q5l (x::(Fo.cons y k .nil).N)=stK x (Fo.cons y k .nil).R:=(q7a hok hk).2;have hn:=v3i _ hok hex (q0m y k.R) (by simp[Fo.R]);rw[e1];refine v7x fun w hw=>?_
 rcases hx with⟨ho,hnm,_⟩|⟨ho,_,_⟩
 ·rw[show stK x (Fo.cons y k .nil).R=[108,101,116]::btL x.tx::[61]::((q0m y k.R).tk++[[59]]) by simp[stK,ho,hdK,Fo.R]]at hw;simp at hw;rcases hw with rfl|rfl|rfl|hw|rfl
  ·decide
  ·exact k6q hnm
  ·decide
  ·exact hn w hw
  ·decide
 ·rw[show stK x (Fo.cons y k .nil).R=(q0m y k.R).tk++[[59]] by simp[stK,ho,hdK,Fo.R]]at hw;simp at hw;rcases hw with hw|rfl
  ·exact hn w hw
  ·decide
theorem y5d{t:List Td}(h:q0d t=0){s:List UInt8}{ws:List Wd}(hf:FmS t s ws):s.length<=90*many (q5l t)+1441/\many ws<=many (q5l t):=by
 cases hf with
 | doc h9 hr=>
  have h1:=y1l h h9 hr;rw[y8d h h9];rw[List.length_append];simp only[List.length_cons,List.length_nil];exact⟨by omega,Nat.le_refl _⟩
 | empty=>exact⟨by simp,by simp[many,z2p]⟩
 | @note x gs he ho hne hg hfl hx=>
  subst he
  have hnf:q3m x.tx=0:=by
   rcases q2v h with⟨y,e,_,_,hf⟩|⟨y,F,e,_,_,hl,hy⟩
   ·cases e;exact hf
   ·rcases hy with⟨h7,_⟩|⟨h7,_⟩<;>(have:x=y:=by injection e)<;>subst this<;>omega
  have h60:=(z2q hnf).1;rw[<-hfl]at h60;have jl:∀g:List Wd,(∀w∈g,w.length<=20)->(jb g).length<=21*g.length:=j8y
  have key:∀gs:List (List Wd),(∀g∈gs,GOk g)->(gs.flatMap fun g=>lnW g++[10]).length<=24*gs.flatten.length:=by
   intro gs
   induction gs with
   | nil=>intro _;simp
   | cons g gs ih=>
    intro hg;have i1:=ih fun z hz=>hg z (by simp[hz])
    have g1:=hg g (by simp);have j1:=jl g fun w hw=>(g1.2.2 w hw).2.1
    have p1:=List.length_pos_iff.2 g1.1;simp only[List.flatMap_cons,List.flatten_cons,List.length_append,List.length_cons,List.length_nil];omega
  have k1:=key gs hg;refine⟨by omega,?_⟩
  have:many (gs.map lnW)=0:=by
   unfold many;rw[List.length_eq_zero_iff,List.filter_eq_nil_iff];intro w hw;obtain⟨g,_,rfl⟩:=List.mem_map.1 hw;simp[z2p]
  omega
theorem j8k:∀{ps:List (List Td)}{s:List UInt8}{ws:List Wd}{prev:Int},okP prev ps->FmP ps s ws->s.length<=90*q3r ps+1441*ps.length/\many ws<=q3r ps
 | _,_,_,_,_,.nil=>by simp[many,q3r]
 | t::ps,_,_,_,h,.cons h1 h2=>by
  obtain⟨a1,a2⟩:=y5d h.1 h1;obtain⟨b1,b2⟩:=j8k h.2.2 h2;have e:q3r (t::ps)=many (q5l t)+q3r ps:=by simp[q3r,z0t]
  rw[e,List.length_append,List.length_cons,z0t];exact⟨by omega,by omega⟩
theorem y5c{ps:List (List Td)}{s:List UInt8}{ws:List Wd}(h:(q0q ps).2=0)(hm:q3r ps<=300)(hf:FmP ps s ws):q2h (wbS s) ps 0 0:=by
 obtain⟨hl,hok⟩:=q2y h;obtain⟨a1,a2⟩:=j8l hok hf 0;obtain⟨b1,b2⟩:=j8k hok hf;have hw:q1d (btL (wbS s))=ws:=a1
 have hle:q4s (btL (wbS s))=0:=by
  have e:btL (wbS s)=s:=rfl;rw[e];unfold q4s;rw[if_neg (by omega),a2];have hw':q1d s=ws:=a1;rw[hw',if_neg (by simp),if_neg (by omega)]
 refine .ok hle ?_ h;rw[hw]
 have:=j8m hf 0 false [] hok (fun e=>by cases e)
 simpa using this
def v4q:List Wd->List Nat->List (List Wd)
 | _,[]=>[]
 | ws,k::ks=>ws.take k::v4q (ws.drop k) ks
theorem v6z:∀g:List Wd,jnL (g.map wbS)=jb g
 | []=>rfl
 | [w]=>by simp[jnL,jb,wbS,Lib.join_one]
 | w::u::r=>by
  have ih:=v6z (u::r);have e:jb (w::u::r)=w++32::jb (u::r):=rfl;rw[e,<-ih];simp[jnL,wbS,Lib.join_cons,Lib.joinTail]
theorem j0k:∀(ks:List Nat)(ws:List Wd),k2y (ws.map wbS) ks=(v4q ws ks).map fun g=>wbS (jb g)
 | [],_=>rfl
 | k::ks,ws=>by
  have ih:=j0k ks (ws.drop k);rw[k2y,v4q,List.map_cons,<-List.map_drop,<-List.map_take,ih,jnS,v6z];rfl
theorem k2l(wd:Nat):∀(n:Nat)(ws:List Wd),ws.length<=n->(∀g∈v4q ws (z2d wd (ws.map wbS)),g≠[]/\g.length<=ws.length/\∀w∈g,w∈ws)/\(v4q ws (z2d wd (ws.map wbS))).flatten=ws/\(ws≠[]->v4q ws (z2d wd (ws.map wbS))≠[])
 | 0,ws,h=>by
  have:ws=[]:=List.eq_nil_of_length_eq_zero (by omega)
  subst this;rw[List.map_nil,q6o];exact⟨fun g hg=>(by simp[v4q]at hg),rfl,fun h=>absurd rfl h⟩
 | n+1,ws,h=>by
  by_cases h0:ws=[]
  ·subst h0;rw[List.map_nil,q6o];exact⟨fun g hg=>(by simp[v4q]at hg),rfl,fun h=>absurd rfl h⟩
  ·have h1:ws.map wbS≠[]:=by simpa using h0
   have hp:=q9f wd h1;rw[List.length_map]at hp;rw[q5x wd h1];generalize agF wd (ws.map wbS)=k at *;rw[<-List.map_drop];obtain⟨i1,i2,_⟩:=k2l wd n (ws.drop k) (by rw[List.length_drop];omega);rw[v4q];refine⟨fun g hg=>?_,?_,fun _=>by simp⟩
   ·rcases List.mem_cons.1 hg with rfl|hg
    ·refine⟨fun e=>?_,by rw[List.length_take];omega,fun w hw=>List.mem_of_mem_take hw⟩
     have:=congrArg List.length e
     rw[List.length_take,List.length_nil]at this;omega
    ·obtain⟨a,b,c⟩:=i1 g hg;rw[List.length_drop]at b;exact⟨a,by omega,fun w hw=>List.mem_of_mem_drop (c w hw)⟩
   ·rw[List.flatten_cons,i2,List.take_append_drop]
def ntL(wd:Nat)(tx:ByteArray):List UInt8:=if q0j (btL tx)=[]then [35,10]else(k2y ((q0j (btL tx)).map wbS) (z2d (wd-2) ((q0j (btL tx)).map wbS))).flatMap fun l=>35::32::(btL l++[10])
def dcL(wd:Nat)(t:List Td):List UInt8:=(q0n t).txt (bs wd 0 [(0,q0n t)]).2++[10]
def z5m(t:List Td)(wd:Int):Int:=if wd<10\/100<wd then 1 else if q0d t≠0 then q0d t else if opT t=9 then 0 else if 400<(q0n t).N.length then 3 else 0
def q4r(wd:Nat)(t:List Td):List UInt8:=match t with
 | []=>[]
 | x::_=>if x.op=9 then ntL wd x.tx else dcL wd t
theorem g2d{t:List Td}{wd:Nat}(h:q0d t=0):∃ws,FmS t (q4r wd t) ws:=by
 cases t with
 | nil=>exact absurd h (by decide)
 | cons x r=>
  by_cases h9:x.op=9
  ·have e:q4r wd (x::r)=ntL wd x.tx:=by rw[q4r,if_pos h9]
   rw[e];rcases q2v h with⟨y,he,ho,hn,hf⟩|hc
   ·obtain⟨rfl,rfl⟩:x=y/\r=[]:=by simpa using he
    by_cases hz:btL x.tx=[]
    ·have e2:ntL wd x.tx=[35,10]:=by rw[ntL,if_pos (by rw[q0j,if_pos hz])]
     rw[e2];exact⟨_,.empty rfl h9 hz⟩
    ·have hw:q0j (btL x.tx)≠[]:=by
      rw[q0j,if_neg hz];exact q6z _
     obtain⟨n1,n2⟩:=z2q hf;obtain⟨g1,g2,g3⟩:=k2l (wd-2) _ (q0j (btL x.tx)) Zl
     have e2:ntL wd x.tx=(v4q (q0j (btL x.tx)) (z2d (wd-2) ((q0j (btL x.tx)).map wbS))).flatMap fun g=>lnW g++[10]:=by
      rw[ntL,if_neg hw,j0k,List.flatMap_map];rfl
     rw[e2];refine⟨_,.note rfl h9 (g3 hw) (fun g hg=>?_) g2 hz⟩;obtain⟨a,b,c⟩:=g1 g hg;exact⟨a,by omega,fun w hw=>n2 w (c w hw)⟩
   ·obtain⟨y,F,he,_,_,_,hy⟩:=hc
    have:x=y:=(List.cons.inj he).1
    subst this;rcases hy with hy|hy
    ·exact absurd (h9.symm.trans hy.1) (by decide)
    ·exact absurd (h9.symm.trans hy.1) (by decide)
  ·have e:q4r wd (x::r)=dcL wd (x::r):=by rw[q4r,if_neg h9]
   rw[e,dcL];have hb:(q0n (x::r)).best wd=some (bs wd 0 [(0,q0n (x::r))]):=by rw[q6m,q2i]
   obtain⟨_,b2,_⟩:=q3t hb
   generalize(bs wd 0 [(0,q0n (x::r))]).2=u at *
   generalize(q0n (x::r)).txt u=s at *
   unfold Tr.show at b2
   split at b2
   ·split at b2
    ·cases b2
    ·rename_i hl;cases b2;exact⟨_,.doc h9 hl⟩
    ·cases b2
   ·cases b2
theorem z0r:∀(t:Tr),t.noE->∀(deep:Nat)(ws ws':List Int)(r:List UInt8),t.lay deep ws=.ok (r,ws')->(∀c∈r,c≠10)->t.flat=some r
 | .leaf x,_,deep,ws,ws',r,h,hr=>by
  simp only[Tr.lay]at h;simp only[Tr.flat]
  split at h
  ·rename_i h1;cases h;rw[if_pos h1]
  ·split at h
   ·rename_i h1 h5;cases h;rw[if_neg h1,if_neg (by omega),if_neg (by omega)]
   ·cases h;exact absurd rfl (hr 10 (by simp))
 | .one x a,hn,deep,ws,ws',r,h,hr=>by
  simp only[Tr.lay]at h;simp only[Tr.flat]
  split at h
  ·exact z0r a hn _ _ _ _ h hr
  ·split at h
   ·cases h
   ·split at h
    ·exact z0r a hn _ _ _ _ h hr
    ·split at h
     ·cases h
     ·rename_i he;cases h;exact he
 | .two x a b,hn,deep,ws,ws',r,h,hr=>by
  simp only[Tr.lay,if_pos hn.1]at h;simp only[Tr.flat,if_pos hn.1]
  split at h
  ·cases h
  ·rename_i ha
   split at h
   ·cases h
   ·rename_i hb;cases h;rw[z0r a hn.2.1 _ _ _ _ ha fun c hc=>hr c (by simp[hc]),z0r b hn.2.2 _ _ _ _ hb fun c hc=>hr c (by simp[hc])]
def FlW(D:Tr):Prop:=∃u s,D.flat=some s/\q2k u/\∀deep rest,D.lay deep (u++rest)=.ok (s,rest)
theorem v6u(s:List UInt8):FlW (wdD s):=⟨[],s,rfl,fun _ h=>(by simp at h),fun _ _=>rfl⟩
theorem v6t{a:Tr}{s:List UInt8}(h:a.flat=some s):FlW (grD a):=⟨[0],s,h,fun c hc=>(by simp at hc;exact .inl hc),fun deep rest=>(by
 simp only[Tr.lay,List.cons_append,List.nil_append]
 rw[if_neg (by decide),if_neg (by decide),h])⟩
theorem g5d{a b:Tr}(ha:FlW a)(hb:FlW b):FlW (twD a b):=by
 obtain⟨u,s,a1,a2,a3⟩:=ha;obtain⟨v,t,b1,b2,b3⟩:=hb;refine⟨u++v,s++t,q6a a1 b1,fun c hc=>?_,fun deep rest=>?_⟩
 ·rcases List.mem_append.1 hc with h|h
  ·exact a2 c h
  ·exact b2 c h
 ·simp only[Tr.lay,if_true];rw[List.append_assoc,a3];simp only;rw[b3]
theorem j8p{op cl:List UInt8}{ps:List (Td × Tr)}{s:List UInt8}(h:(q1y op cl ps).flat=some s):FlW (q1y op cl ps):=by
 unfold q1y at h⊢
 split
 ·exact v6u _
 ·rename_i h0;rw[if_neg h0]at h;exact v6t h
theorem g5c{x:Td}{ps:List (Td × Tr)}{ts:List Tn}(h:Mts ps ts)(hx:exN x)(hk:ps.length=kdT x):FlW (q0l x ps):=by
 have hf:=g0q h hx hk
 have two:kdT x=2->∃a b,ps=[a,b]:=fun e=>by
  rw[e]at hk
  match ps,hk with
  | [a,b],_=>exact⟨a,b,rfl⟩
 rcases q2j hx with⟨ho,_⟩|⟨ho,_⟩|⟨ho,_⟩|⟨ho,_⟩|⟨ho,_,_,h2⟩|⟨ho,_,_,h2⟩
 ·rw[show q0l x ps=wdD (q3q x.n.toNat) by simp[q0l,ho]];exact v6u _
 ·rw[show q0l x ps=wdD (btL x.tx) by simp[q0l,ho]];exact v6u _
 ·rw[show q0l x ps=q1y (btL x.tx++[40]) [41] ps by simp[q0l,ho]]at hf⊢;exact j8p hf
 ·rw[show q0l x ps=q1y [91] [93] ps by simp[q0l,ho]]at hf⊢;exact j8p hf
 ·obtain⟨a,b,rfl⟩:=two h2;rw[show q0l x [a,b]=grD (twD (inD 0 a.1 a.2) (dpD (twD blD (twD (wdD [43,32]) (inD 1 b.1 b.2))))) by simp[q0l,tw2,ho]]at hf⊢;exact v6t hf
 ·obtain⟨a,b,rfl⟩:=two h2;rw[show q0l x [a,b]=grD (twD (inD 1 a.1 a.2) (dpD (twD blD (twD (wdD [42,32]) (inD 2 b.1 b.2))))) by simp[q0l,tw2,ho]]at hf⊢;exact v6t hf
theorem y9x{t:List Td}(h:q0d t=0)(h9:opT t≠9):FlW (q0n t):=by
 have hd0:=(z0h h h9).f;obtain⟨x,y,k,rfl,hok,hex,hk,hx⟩:=q7b h h9;have hm:Mts k.D k.R:=z3u k hok.2.1 fun z hz=>hex z (by simp[Fo.N,hz])
 have hd:FlW (q0l y k.D):=g5c hm (hex y (by simp[Fo.N])) (by rw[q7p];exact hok.1);have e0:q0n (x::(Fo.cons y k .nil).N)=stD x (q0l y k.D):=z1g hok hk;rw[e0]at hd0⊢;generalize q0l y k.D=D at *;unfold stD at hd0⊢
 split
 ·rename_i ho;rw[if_pos ho]at hd0;exact v6t hd0
 ·exact g5d hd (v6u _)
theorem v6b{t:List Td}(h:q0d t=0)(h9:opT t≠9):∃u∈(q0n t).ways,(q0n t).txt u=q3g t/\∀b∈q3g t,b≠10:=by
 obtain⟨u,s,a1,a2,a3⟩:=y9x h h9;have hd:=z0h h h9;obtain rfl:s=q3g t:=by rw[hd.f]at a1;exact(Option.some.inj a1).symm
 have hl:=a3 0 [];rw[List.append_nil]at hl
 have hs:(q0n t).show u=.ok (q3g t):=by
  unfold Tr.show;rw[if_pos (j2b.2 a2),hl]
 exact⟨u,(z5s _ _).1 ⟨_,hs⟩,by rw[Tr.txt,hs],q6b _ _ hd.w a1⟩
theorem j0p(wd:Nat):∀(s:List UInt8)(c:Nat),(q1n wd c s).2.1=0->∀b∈s,b≠10
 | [],_,_,b,hb=>by cases hb
 | a::s,c,h,b,hb=>by
  simp only[q1n]at h
  split at h
  ·simp at h
  ·rename_i ha;rcases List.mem_cons.1 hb with rfl|hb
   ·exact ha
   ·exact j0p wd s (c+1) h b hb
theorem j0u{t:List Td}(wd:Nat):∃u∈(q0n t).ways,dcL wd t=(q0n t).txt u++[10]/\(q0n t).show u=.ok ((q0n t).txt u)/\∀v∈(q0n t).ways,¬q1q ((q0n t).cst wd v) ((q0n t).cst wd u):=by
 have hb:(q0n t).best wd=some (bs wd 0 [(0,q0n t)]):=by rw[q6m,q2i]
 obtain⟨b1,b2,b3,b4⟩:=q3t hb;exact⟨_,b1,rfl,b2,fun v hv=>by rw[<-b3];exact(b4 v hv).1⟩
theorem j1l{t:Tr}{u:List Int}{r:List UInt8}(h:t.show u=.ok r):t.lay 0 u=.ok (r,[]):=by
 unfold Tr.show at h
 split at h
 ·split at h
  ·cases h
  ·rename_i hl;cases h;exact hl
  ·cases h
 ·cases h
theorem y4s{t:List Td}{wd:Nat}(h:q0d t=0)(h9:opT t≠9)(hl:(q3g t).length<=wd):dcL wd t=q3g t++[10]:=by
 obtain⟨v,v1,v2,v3⟩:=v6b h h9;obtain⟨u,u1,u2,u3,u4⟩:=j0u (t:=t) wd
 have hv:(q0n t).cst wd v=(0,0):=by
  rw[Tr.cst,v2,z0f wd _ 0 v3];simp;omega
 have hu:=u4 v v1;rw[hv,q1q]at hu
 have hz:(q1n wd 0 ((q0n t).txt u)).2.1=0:=by
  simp only[Tr.cst]at hu;omega
 have hf:=z0r _ (z0h h h9).e _ _ _ _ (j1l u3) (j0p wd _ 0 hz);rw[(z0h h h9).f]at hf;rw[u2,<-Option.some.inj hf]
theorem z5l{t:List Td}(h:q0d t=0)(h9:opT t=9):∃x,t=[x]/\x.op=9/\q3m x.tx=0/\q3g t=z9z x.tx:=by
 rcases q2v h with⟨x,rfl,ho,hn,hf⟩|⟨x,F,rfl,_,_,_,hx⟩
 ·have hk:(Fo.nil).len=kdT x:=by simp[kdT,ho,Fo.len]
  have e1:q3g [x]=stX x []:=(q7a (x:=x) (F:=.nil) trivial hk).1;exact⟨x,rfl,ho,hf,by rw[e1,z9z];simp[stX,ho]⟩
 ·have h9':x.op=9:=h9;rcases hx with⟨hx,_⟩|⟨hx,_⟩<;>omega
theorem y7m{tx:ByteArray}{wd:Nat}(hl:(z9z tx).length<=wd):ntL wd tx=z9z tx++[10]:=by
 by_cases h0:btL tx=[]
 ·have h1:q0j (btL tx)=[]:=by rw[q0j,if_pos h0]
  rw[ntL,if_pos h1,z9z,if_pos (q6x.2 h0)];rfl
 ·have hz:tx.size≠0:=fun e=>h0 (q6x.1 e)
  have h1:q0j (btL tx)=q5r (btL tx):=by rw[q0j,if_neg h0]
  have hj:jb (q0j (btL tx))=btL tx:=by rw[h1,z5e]
  have hne:q0j (btL tx)≠[]:=by rw[h1];exact q6z _
  rw[z9z,if_neg hz]at hl⊢;rw[ntL,if_neg hne];generalize q0j (btL tx)=ws at *;have hne':ws.map wbS≠[]:=by simpa using hne
  have hln:ln (ws.map wbS)=(btL tx).length:=by rw[<-k6g,v6z,hj]
  simp only[List.length_append,List.length_cons,List.length_nil]at hl
  have hg:fOf (wd-2) (ws.map wbS) (ws.map wbS).length=0:=by
   rw[fOf,List.take_length,List.drop_length,z3r,hln,bd,if_neg (by omega),if_pos (by simp)]
  have hpos:1<=(ws.map wbS).length:=List.length_pos_iff.2 hne'
  have hm:z6l (fOf (wd-2) (ws.map wbS)) (ws.map wbS).length=0:=by
   have:=z9v (fOf (wd-2) (ws.map wbS)) (ws.map wbS).length (ws.map wbS).length hpos Zl
   omega
  have ha:agF (wd-2) (ws.map wbS)=(ws.map wbS).length:=by
   have h2:=(q9f (wd-2) hne').2;rcases Nat.lt_or_ge (agF (wd-2) (ws.map wbS)) (ws.map wbS).length with h|h
   ·exact absurd (hg.trans hm.symm) (k1q _ _ _ h Zl hpos)
   ·omega
  rw[q5x _ hne',ha,List.drop_length,q6o];simp only[k2y,List.take_length,List.flatMap_cons,List.flatMap_nil,List.append_nil];have e:btL (jnS (ws.map wbS))=btL tx:=by rw[jnS,v6z,hj]
  rw[e];rfl
theorem v8o{t:List Td}{wd:Nat}(h:q0d t=0)(hl:(q3g t).length<=wd):q4r wd t=q3g t++[10]:=by
 by_cases h9:opT t=9
 ·obtain⟨x,rfl,ho,_,e⟩:=z5l h h9;rw[e]at hl⊢;rw[q4r,if_pos ho];exact y7m hl
 ·cases t with
  | nil=>exact absurd h (by decide)
  | cons x r=>
   have:q4r wd (x::r)=dcL wd (x::r):=if_neg (show ¬x.op=9 from h9)
   rw[this];exact y4s h h9 hl
def q3k(wd:Nat)(ps:List (List Td)):List UInt8:=ps.flatMap (q4r wd)
theorem k7g(wd:Nat):∀(ps:List (List Td))(prev:Int),okP prev ps->∃ws,FmP ps (q3k wd ps) ws
 | [],_,_=>⟨[],.nil⟩
 | t::ps,prev,h=>by
  obtain⟨ws,h1⟩:=g2d (wd:=wd) h.1;obtain⟨us,h2⟩:=k7g wd ps _ h.2.2;exact⟨ws++us,.cons h1 h2⟩
theorem v6p{s:ByteArray}{ps:List (List Td)}{k:Int}(h:q2h s ps k 0)(wd:Nat):(q0q ps).2=0/\q2h (wbS (q3k wd ps)) ps 0 0:=by
 obtain⟨h0,hg,hf⟩:q4s (btL s)=0/\PG false [] (q1d (btL s)) (.ok ps)/\(q0q ps).2=0:=by
  generalize hz:(0:Int)=z at h;cases h with
  | lex h1=>exact absurd hz.symm h1
  | bad=>cases hz
  | full _ _ h1=>exact absurd hz.symm h1
  | ok h1 h2 h3=>exact⟨h1,h2,h3⟩
 have h4:=v1m hg ps rfl;have h5:=(q4v h0).2.2;have h6:q3r ([]:List (List Td))=0:=rfl;obtain⟨ws,hfm⟩:=k7g wd ps 0 (q2y hf).2;exact⟨hf,y5c hf (by omega) hfm⟩
theorem k2q{t:List Td}(h:q7s t=0):q0d t=0/\opT t≠9/\q2p t=(q0n t).N/\(q0n t).N.length<=400:=by
 have h':=h;unfold q7s at h
 split at h
 ·rename_i h0;exact absurd h h0
 ·rename_i h0
  split at h
  ·cases h
  ·rename_i h9
   split at h
   ·cases h
   ·rename_i hm;exact⟨by simpa using h0,h9,by rw[q2p,if_pos h'],by omega⟩
theorem z0s{t:List Td}(h:q7s t=0)(ws:List Int):q6c (q2p t) ws=(q0n t).show ws:=by
 obtain⟨h0,h9,hd,hl⟩:=k2q h;exact z2u (z0h h0 h9).w hd (by rw[hd];exact hl)
theorem y0i(a b:List UInt8):wbS a++wbS b=wbS (a++b):=by
 apply ByteArray.ext;simp[wbS]
end Go.Proofs.YthcpdohdppkmkaaGreatDoor
