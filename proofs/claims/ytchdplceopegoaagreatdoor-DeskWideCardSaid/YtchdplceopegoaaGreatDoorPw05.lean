/- Texts as one: SynO, SynJ, SynW, LnS, LnT, LnU, BstP. -/
import Derived.Test.YtchdplceopegoaaGreatDoorPw04
namespace Go.Proofs.YtchdplceopegoaaGreatDoor
open Go
def okP:Int→List (List Td)→Prop
 | _,[]=>True
 | prev,t::r=>q0c t=0∧¬ (opT t=9∧prev=9)∧okP (opT t) r
theorem v0z:∀ (ps:List (List Td)) (prev:Int) (k:Nat),(q4t prev k ps).2=0→okP prev ps
 | [],_,_,_=>trivial
 | t::r,prev,k,h=>by
  rw [q4t] at h
  split at h
  ·rename_i h1;exact absurd h h1
  ·rename_i h1
   split at h
   ·cases h
   ·rename_i h2
    exact ⟨by omega,h2,v0z r _ _ h⟩
theorem z2j {ps:List (List Td)} (h:(q0q ps).2=0):ps.length≤20∧okP 0 ps:=by
 unfold q0q at h
 split at h
 ·cases h
 ·exact ⟨by omega,v0z ps 0 0 h⟩
theorem v4c {t:List Td} (h:q0c t=0) (rest:List UInt8) (i:Nat):(lxW (q2y t++10::rest) i).map (·.2)=z6w t++(lxW rest (i+(q2y t).length+1)).map (·.2)∧lxF (q2y t++10::rest) i=lxF rest (i+(q2y t).length+1):=by
 have hnl:∀ {s:List UInt8} {ws:List Wd},Lx s ws→(lxW (s++10::rest) i).map (·.2)=ws++(lxW rest (i+s.length+1)).map (·.2)∧lxF (s++10::rest) i=lxF rest (i+s.length+1):=fun {s ws} hl=>by
  obtain ⟨a1,a2⟩:=hl (10::rest) i (q2g rfl rest)
  have e:lx (10::rest) (i+s.length)=lx rest (i+s.length+1):=z8k _ _ rfl
  rw [a1,a2,lxW,lxF,e]
  exact ⟨rfl,rfl⟩
 rcases q5l h with ⟨x,rfl,ho,_,hnf⟩ | ⟨x,F,rfl,hok,hex,hl,hx⟩
 ·have e1:q2y [x]=k6u x.tx∧z6w [x]=[k6u x.tx]:=by
   have hk:(Fo.nil).len=kdT x:=by unfold kdT;rw [ho];rfl
   have:=z2n (x:=x) (F:=.nil) trivial hk
   rw [show ([x]:List Td)=x::Fo.nil.nodes from rfl,this.1,this.2]
   simp [stX,stK,ho,k6u]
  have e2:=v8b (j7n hnf) rest i
  rw [e1.1,e1.2,lxW,lxF,e2]
  exact ⟨rfl,rfl⟩
 ·have hkd:F.len=kdT x:=by
   rw [hl]
   unfold kdT
   rcases hx with ⟨h,_⟩ | ⟨h,_⟩<;>rw [h]<;>rfl
  obtain ⟨e1,e2⟩:=z2n hok hkd
  have htl:F.trs.length=1:=by rw [z0e];exact hl
  obtain ⟨t,ht⟩:∃ t,F.trs=[t]:=by
   match F.trs,htl with
   | [t],_=>exact ⟨t,rfl⟩
  have hlt:=j1a F hok hex t (by rw [ht];simp)
  rw [e1,e2,ht]
  refine hnl ?_
  have hsc:=Lx.post hlt (c:=59) rfl (Lx.mark (c:=59) rfl)
  rcases hx with ⟨ho,hnm,_⟩ | ⟨ho,_,_⟩
  ·obtain ⟨c,z,e,_,_,h8,hall⟩:=q6v (w:=btL x.tx) hnm
   have hname:=Lx.name hall (by rw [e];simp) h8
   have hlet:Lx z0t [z0t]:=Lx.name (by decide) (by decide) (by decide)
   have h3:Lx (32::61::32::(t.tx++[59])) ([]++([[61]]++([]++(t.tk++[[59]])))):=Lx.pre (Lx.blank (c:=32) rfl) rfl (Lx.pre (Lx.mark (c:=61) rfl) rfl (Lx.pre (Lx.blank (c:=32) rfl) rfl hsc))
   have h4:=Lx.app hname h3 (q2g rfl _)
   have h5:=Lx.app hlet (Lx.pre (Lx.blank (c:=32) rfl) rfl h4) (q2g rfl _)
   have q1:stX x [t]=z0t++32::(btL x.tx++32::61::32::(t.tx++[59])):=by simp [stX,ho,hdT]
   have q2:stK x [t]=[z0t]++([]++([btL x.tx]++([]++([[61]]++([]++(t.tk++[[59]])))))):=by simp [stK,ho,hdK]
   rw [q1,q2]
   exact h5
  ·have q1:stX x [t]=t.tx++[59]:=by simp [stX,ho,hdT]
   have q2:stK x [t]=t.tk++[[59]]:=by simp [stK,ho,hdK]
   rw [q1,q2]
   exact hsc
theorem k0t:∀ (ps:List (List Td)) (prev:Int) (i:Nat),okP prev ps→(lxW (q2a ps) i).map (·.2)=ps.flatMap z6w∧lxF (q2a ps) i=none
 | [],_,i,_=>by
  rw [show q2a []=[] from rfl,lxW,lxF,z0k]
  exact ⟨rfl,rfl⟩
 | t::r,prev,i,h=>by
  have e:q2a (t::r)=q2y t++10::q2a r:=by rw [z4f];simp
  obtain ⟨a1,a2⟩:=v4c h.1 (q2a r) i
  obtain ⟨b1,b2⟩:=k0t r _ (i+(q2y t).length+1) h.2.2
  rw [e,a1,a2,b1,b2]
  exact ⟨by simp,rfl⟩
theorem z1e:∀ (ps:List (List Td)) (prev:Int) (pv:Bool) (acc:List (List Td)),okP prev ps→(pv=true→prev=9)→PG pv acc (ps.flatMap z6w) (.ok (acc++ps))
 | [],_,_,acc,_,_=>by simpa using PG.done
 | t::r,prev,pv,acc,h,hpv=>by
  have ih:∀ pv',(pv'=true→opT t=9)→PG pv' (acc++[t]) (r.flatMap z6w) (.ok (acc++[t]++r)):=fun pv' h'=>z1e r (opT t) pv' (acc++[t]) h.2.2 h'
  have e0:acc++t::r=acc++[t]++r:=by simp
  rw [e0,List.flatMap_cons]
  rcases q5l h.1 with ⟨x,rfl,ho,hn,hnf⟩ | ⟨x,F,rfl,hok,hex,hl,hx⟩
  ·have e1:z6w [x]=[k6u x.tx]:=by
    have hk:(Fo.nil).len=kdT x:=by unfold kdT;rw [ho];rfl
    have:=z2n (x:=x) (F:=.nil) trivial hk
    rw [show ([x]:List Td)=x::Fo.nil.nodes from rfl,this.2]
    simp [stK,ho,k6u]
   rw [e1]
   have hpf:pv=false:=by
    cases pv with
    | false=>rfl
    | true=>exact absurd ⟨ho,hpv rfl⟩ h.2.1
   have hx:x=ntT (btL x.tx):=z6o ho rfl hn
   refine .note (by unfold k6u;split<;>rfl) ?_
   rw [k5l hnf,hpf]
   have e2:v1u false acc (btL x.tx)=acc++[[x]]:=by
    rw [v1u]
    simp only [Bool.false_eq_true,if_false]
    rw [←hx]
   rw [e2]
   exact ih true (fun _=>ho)
  ·have hkd:F.len=kdT x:=by
    rw [hl]
    unfold kdT
    rcases hx with ⟨h,_⟩ | ⟨h,_⟩<;>rw [h]<;>rfl
   obtain ⟨_,e2⟩:=z2n hok hkd
   have htl:F.trs.length=1:=by rw [z0e];exact hl
   obtain ⟨t,ht⟩:∃ t,F.trs=[t]:=by
    match F.trs,htl with
    | [t],_=>exact ⟨t,rfl⟩
   have hr:=z2k F hok hex t (by rw [ht];simp)
   have hns:t.ns=F.nodes:=by
    have:=q8z F
    rw [ht] at this
    simpa using this
   have hlv:=k0s hr (rest:=[59]::r.flatMap z6w) (by simp) (by simp) (by simp)
   rw [hns] at hlv
   rw [e2,ht]
   rcases hx with ⟨ho,hnm,hn⟩ | ⟨ho,htx,hn⟩
   ·have q2:stK x [t]++r.flatMap z6w=z0t::btL x.tx::[61]::(t.tk++[59]::r.flatMap z6w):=by simp [stK,ho,hdK]
    have hx:x=k6t (btL x.tx):=z6o ho rfl hn
    rw [q2]
    refine .letO hnm hlv ?_
    rw [←hx]
    exact ih false (fun h=>by cases h)
   ·have q2:stK x [t]++r.flatMap z6w=t.tk++[59]::r.flatMap z6w:=by simp [stK,ho,hdK]
    have hx:x=doT:=z6o ho htx hn
    obtain ⟨w,z,ew,hw⟩:=hr.b
    have hne:=k7h hw
    rw [q2]
    rw [ew,List.cons_append] at hlv ⊢
    refine .doO hne.2.2.2.2 hne.2.2.2.1 hlv ?_
    rw [←hx]
    exact ih false (fun h=>by cases h)
theorem v0m:∀ ws:List Wd,(∀ w∈ws,w.length≤20)→(jb ws).length≤21*ws.length
 | [],_=>by simp [jb]
 | [w],h=>by
  have:=h w (by simp)
  simp [jb];omega
 | w::u::r,h=>by
  have h1:=h w (by simp)
  have h2:=v0m (u::r) fun x hx=>h x (by simp [hx])
  rw [jb,List.length_append]
  simp only [List.length_cons] at h2 ⊢
  omega
theorem z5z {tx:ByteArray} (h:q3k tx=0):tx.size≤1300:=by
 by_cases h0:btL tx=[]
 ·have:=q0b tx
  rw [h0] at this
  simp at this;omega
 ·obtain ⟨h1,h2⟩:=z6a h
  have e2:q0k (btL tx)=q4v (btL tx):=by rw [q0k,if_neg h0]
  rw [e2] at h1 h2
  have h3:=v0m _ fun w hw=>(h2 w hw).2.1
  rw [z7w] at h3
  rw [←q0b]
  omega
theorem v7b {y:Td} {k:Fo} (hok:(Fo.cons y k .nil).ok) (hex:(Fo.cons y k .nil).exs) (hl:(Fo.cons y k .nil).nodes.length≤40):(q0r y k.trs).tx.length≤640:=by
 have h1:=j3t _ hok hex (q0r y k.trs) (by simp [Fo.trs])
 have h2:(q0r y k.trs).ns=(Fo.cons y k .nil).nodes:=by
  have:=q8z (Fo.cons y k .nil)
  simpa [Fo.trs] using this
 rw [h2] at h1
 omega
theorem v0h {F:Fo} (h:F.len=1):∃ y k,F = .cons y k .nil:=by
 cases F with
 | nil=>cases h
 | cons y k n=>
  cases n with
  | nil=>exact ⟨y,k,rfl⟩
  | cons _ _ _=>simp [Fo.len] at h
theorem k3y {ds:List Td} (h:q0c ds=0):(q2y ds).length≤2000:=by
 have hin40:=(q2i h).1
 rcases q5l h with ⟨x,rfl,ho,_,hnf⟩ | ⟨x,F,rfl,hok,hex,hl,hx⟩
 ·have hk:(Fo.nil).len=kdT x:=by unfold kdT;rw [ho];rfl
  have e1:q2y [x]=stX x []:=(z2n (x:=x) (F:=.nil) trivial hk).1
  have h2:=z5z hnf
  rw [e1]
  unfold stX
  rw [if_neg (by omega),if_neg (by omega)]
  split
  ·simp
  ·simp only [List.length_append,List.length_cons,List.length_nil,q0b];omega
 ·obtain ⟨y,k,rfl⟩:=v0h hl
  have hk:(Fo.cons y k .nil).len=kdT x:=by
   rw [hl];unfold kdT
   rcases hx with ⟨ho,_⟩ | ⟨ho,_⟩<;>rw [ho]<;>rfl
  have hz:=v7b hok hex (by have:=hin40;simp only [List.length_cons] at this;omega)
  rw [(z2n hok hk).1]
  unfold stX
  rcases hx with ⟨ho,hnm,_⟩ | ⟨ho,_,_⟩
  ·have h8:=q2c hnm
   rw [if_pos ho]
   simp only [List.length_append,List.length_cons,List.length_nil,hdT,Fo.trs]
   omega
  ·rw [if_neg (by omega),if_pos ho]
   simp only [List.length_append,List.length_cons,List.length_nil,hdT,Fo.trs]
   omega
theorem j2f:∀ ps:List (List Td),(∀ t∈ps,q0c t=0)→(q2a ps).length≤2001*ps.length
 | [],_=>by simp [q2a]
 | t::r,h=>by
  have h1:=k3y (h t (by simp))
  have h2:=j2f r fun x hx=>h x (by simp [hx])
  rw [z4f]
  simp only [List.length_append,List.length_cons,List.length_nil]
  omega
def y1v (s:ByteArray) (u:List Wd):Nat:=((z6v (btL s))[(q2u (btL s)).length - u.length]?).getD s.size
inductive q7c (s:ByteArray):List (List Td)→Int→Int→Prop where
 | lex (h:q6t (btL s)≠0):q7c s [] ((z8b (btL s):Nat):Int) (q6t (btL s))
 | bad {u} (h:q6t (btL s)=0) (hg:PG false [] (q2u (btL s)) (.bad u)):q7c s [] ((y1v s u:Nat):Int) 5
 | full {qs} (h:q6t (btL s)=0) (hg:PG false [] (q2u (btL s)) (.ok qs)) (hf:(q0q qs).2≠0):q7c s [] 0 (q0q qs).2
 | ok {qs} (h:q6t (btL s)=0) (hg:PG false [] (q2u (btL s)) (.ok qs)) (hf:(q0q qs).2=0):q7c s qs 0 0
theorem q1m {s:ByteArray} {p p':List (List Td)} {k k' f f':Int} (h:q7c s p k f) (h':q7c s p' k' f'):p=p'∧k=k'∧f=f':=by
 cases h with
 | lex h1=>cases h' with
  | lex _=>exact ⟨rfl,rfl,rfl⟩
  | bad h2=>exact absurd h2 h1
  | full h2=>exact absurd h2 h1
  | ok h2=>exact absurd h2 h1
 | bad h1 hg=>cases h' with
  | lex h2=>exact absurd h1 h2
  | bad _ hg'=>cases q7f hg hg';exact ⟨rfl,rfl,rfl⟩
  | full _ hg'=>cases q7f hg hg'
  | ok _ hg'=>cases q7f hg hg'
 | full h1 hg hf=>cases h' with
  | lex h2=>exact absurd h1 h2
  | bad _ hg'=>cases q7f hg hg'
  | full _ hg'=>cases q7f hg hg';exact ⟨rfl,rfl,rfl⟩
  | ok _ hg' hf'=>cases q7f hg hg';exact absurd hf' hf
 | ok h1 hg hf=>cases h' with
  | lex h2=>exact absurd h1 h2
  | bad _ hg'=>cases q7f hg hg'
  | full _ hg' hf'=>cases q7f hg hg';exact absurd hf hf'
  | ok _ hg'=>cases q7f hg hg';exact ⟨rfl,rfl,rfl⟩
theorem z6b:∀ (ps:List (List Td)) (prev:Int),okP prev ps→∀ t∈ps,q0c t=0
 | t::r,prev,h,x,hx=>by
  rcases List.mem_cons.1 hx with rfl | hx
  ·exact h.1
  ·exact z6b r _ h.2.2 x hx
theorem y1c (l:List UInt8):btL (wbS l)=l:=rfl
def LnD (D:Tr) (b h:Nat):Prop:=(∀ r,D.flat=some r→r.length≤b)∧∀ deep cs cs' r,D.lay deep cs = .ok (r,cs')→deep+h≤80→r.length≤b
theorem LnD.mono {D:Tr} {b b' h h':Nat} (hd:LnD D b h) (hb:b≤b') (hh:h≤h'):LnD D b' h':=
 ⟨fun r hr=>Nat.le_trans (hd.1 r hr) hb,fun deep cs cs' r hr h1=>Nat.le_trans (hd.2 deep cs cs' r hr (by omega)) hb⟩
theorem z5q (s:List UInt8):LnD (wdD s) s.length 0:=
 ⟨fun r hr=>by cases hr;exact Nat.le_refl _,fun deep cs cs' r hr _=>by cases hr;exact Nat.le_refl _⟩
theorem v3s:LnD blD 81 0:=
 ⟨fun r hr=>by cases hr;decide,fun deep cs cs' r hr h=>by cases hr;simp;omega⟩
theorem v7y:LnD sfD 81 0:=
 ⟨fun r hr=>by cases hr;decide,fun deep cs cs' r hr h=>by cases hr;simp;omega⟩
theorem q7m {a b:Tr} {x y h:Nat} (ha:LnD a x h) (hb:LnD b y h):LnD (twD a b) (x+y) h:=by
 refine ⟨fun r hr=>?_,fun deep cs cs' r hr hh=>?_⟩
 ·simp only [Tr.flat,if_true] at hr
  cases ea:a.flat with
  | none=>rw [ea] at hr;cases hr
  | some s=>
   cases eb:b.flat with
   | none=>rw [ea,eb] at hr;cases hr
   | some t=>
    rw [ea,eb] at hr
    cases hr
    have h1:=ha.1 s ea
    have h2:=hb.1 t eb
    rw [List.length_append];omega
 ·simp only [Tr.lay,if_true] at hr
  cases la:a.lay deep cs with
  | error e=>rw [la] at hr;cases hr
  | ok p=>
   obtain ⟨r1,c1⟩:=p
   rw [la] at hr
   simp only at hr
   cases lb:b.lay deep c1 with
   | error e=>rw [lb] at hr;cases hr
   | ok p2=>
    obtain ⟨r2,c2⟩:=p2
    rw [lb] at hr
    cases hr
    have h1:=ha.2 _ _ _ _ la hh
    have h2:=hb.2 _ _ _ _ lb hh
    rw [List.length_append];omega
theorem v3t {a:Tr} {x h:Nat} (ha:LnD a x h):LnD (dpD a) x (h+2):=
 ⟨fun r hr=>ha.1 r hr,fun deep cs cs' r hr hh=>ha.2 (deep+(2:Int).toNat) cs cs' r hr (by have:(2:Int).toNat=2:=rfl;omega)⟩
theorem v3u {a:Tr} {x h:Nat} (ha:LnD a x h):LnD (grD a) x h:=by
 refine ⟨fun r hr=>ha.1 r hr,fun deep cs cs' r hr hh=>?_⟩
 simp only [Tr.lay] at hr
 rw [if_neg (by decide)] at hr
 cases cs with
 | nil=>cases hr
 | cons c cs=>
  simp only at hr
  split at hr
  ·exact ha.2 _ _ _ _ hr hh
  ·cases hf:a.flat with
   | none=>rw [hf] at hr;cases hr
   | some s=>rw [hf] at hr;cases hr;exact ha.1 _ hf
theorem v7w {x:Td} {d:Tr} {t:Tn} {h:Nat} (hx:x=t.x) (hd:LnD d (90*t.tk.length) h) (l:Nat):LnD (inD l x d) (90*(brk l t).length) h:=by
 unfold inD brk
 rw [hx]
 split
 ·refine (q7m ((z5q [40]).mono (Nat.le_refl _) (Nat.zero_le h)) (q7m hd ((z5q [41]).mono (Nat.le_refl _) (Nat.zero_le h)))).mono ?_ (Nat.le_refl _)
  simp only [List.length_cons,List.length_append,List.length_nil]
  omega
 ·exact hd
inductive Mls (h:Nat):List (Td × Tr)→List Tn→Prop where
 | nil:Mls h [] []
 | cons {p t ps ts}:p.1=t.x→LnD p.2 (90*t.tk.length) h→Mls h ps ts→Mls h (p::ps) (t::ts)
theorem Mls.up {h h':Nat} (hh:h≤h') {ps:List (Td × Tr)} {ts:List Tn} (m:Mls h ps ts):Mls h' ps ts:=by
 induction m with
 | nil=>exact .nil
 | cons e hd _ ih=>exact .cons e (hd.mono (Nat.le_refl _) hh) ih
theorem v7x {h:Nat}:∀ {ps:List (Td × Tr)} {ts:List Tn},Mls h ps ts→ps≠[]→LnD (kdD ps) (90*(cmk ts).length) h
 | _,_,.cons _ hd .nil,_=>by simp only [kdD,cmk,List.append_nil];exact hd
 | _,_,.cons (p:=p0) (t:=t0) (ps:=p::ps) (ts:=t::ts) _ hd (.cons e2 h2 h3),_=>by
  have ih:=v7x (Mls.cons e2 h2 h3) (by simp)
  show LnD (twD (twD p0.2 (wdD [44])) (twD blD (kdD (p::ps)))) _ h
  refine (q7m (q7m hd ((z5q [44]).mono (Nat.le_refl _) (Nat.zero_le h))) (q7m (v3s.mono (Nat.le_refl _) (Nat.zero_le h)) ih)).mono ?_ (Nat.le_refl _)
  have e:(cmk (t0::t::ts)).length=t0.tk.length+1+(cmk (t::ts)).length:=by simp [cmk];omega
  rw [e]
  simp only [List.length_cons,List.length_nil]
  omega
theorem j0w {h:Nat} {ps:List (Td × Tr)} {ts:List Tn} (m:Mls h ps ts) {op cl:List UInt8} (ho:op.length+cl.length≤18):LnD (q2p op cl ps) (90*((cmk ts).length+2)) (h+2):=by
 unfold q2p
 split
 ·refine (z5q _).mono ?_ (Nat.zero_le _)
  rw [List.length_append];omega
 ·rename_i h0
  have hk:=v7x m fun e=>h0 (by rw [e];rfl)
  have z:∀ s:List UInt8,LnD (wdD s) s.length (h+2):=fun s=>(z5q s).mono (Nat.le_refl _) (Nat.zero_le _)
  have zs:LnD sfD 81 (h+2):=v7y.mono (Nat.le_refl _) (Nat.zero_le _)
  refine v3u ((q7m (z op) (q7m (v3t (q7m (v7y.mono (Nat.le_refl _) (Nat.zero_le h)) hk)) (q7m zs (z cl)))).mono ?_ (Nat.le_refl _))
  omega
theorem y1n {h:Nat} {x:Td} {ps:List (Td × Tr)} {ts:List Tn} (m:Mls h ps ts) (hx:exN x) (hk:ps.length=kdT x):LnD (q0m x ps) (90*(q9e x ts).length) (h+2):=by
 have two:kdT x=2→∃ a b c d,ps=[a,b]∧ts=[c,d]∧(a.1=c.x∧LnD a.2 (90*c.tk.length) h)∧(b.1=d.x∧LnD b.2 (90*d.tk.length) h):=fun e=>by
  rw [e] at hk
  cases m with
  | nil=>simp at hk
  | cons h1 h1' h2=>cases h2 with
   | nil=>simp at hk
   | cons h3 h3' h4=>cases h4 with
    | nil=>exact ⟨_,_,_,_,rfl,rfl,⟨h1,h1'⟩,⟨h3,h3'⟩⟩
    | cons=>simp at hk
 have sum:∀ (l q:Nat) (c:UInt8) (a b:Td × Tr) (s t:Tn),(a.1=s.x∧LnD a.2 (90*s.tk.length) h)→(b.1=t.x∧LnD b.2 (90*t.tk.length) h)→LnD (grD (twD (inD l a.1 a.2) (dpD (twD blD (twD (wdD [c,32]) (inD q b.1 b.2)))))) (90*((brk l s).length+1+(brk q t).length)) (h+2):=fun l q c a b s t ha hb=>by
  refine v3u ((q7m ((v7w ha.1 ha.2 l).mono (Nat.le_refl _) (Nat.le_add_right h 2)) (v3t (q7m (v3s.mono (Nat.le_refl _) (Nat.zero_le h)) (q7m ((z5q [c,32]).mono (Nat.le_refl _) (Nat.zero_le h)) (v7w hb.1 hb.2 q))))).mono ?_ (Nat.le_refl _))
  simp only [List.length_cons,List.length_nil]
  omega
 rcases q3c hx with ⟨ho,_,h0,h9,_⟩ | ⟨ho,hn,_⟩ | ⟨ho,hn,_⟩ | ⟨ho,_⟩ | ⟨ho,_,_,h2⟩ | ⟨ho,_,_,h2⟩
 ·rw [show q0m x ps=wdD (q4m x.n.toNat) by simp [q0m,ho],show q9e x ts=[q4m x.n.toNat] by simp [q9e,ho]]
  have h1:=q8d 5 x.n.toNat (by omega)
  exact (z5q _).mono (by simp only [List.length_cons,List.length_nil];omega) (Nat.zero_le _)
 ·rw [show q0m x ps=wdD (btL x.tx) by simp [q0m,ho],show q9e x ts=[btL x.tx] by simp [q9e,ho]]
  have h1:=q2c hn
  exact (z5q _).mono (by simp only [List.length_cons,List.length_nil];omega) (Nat.zero_le _)
 ·rw [show q0m x ps=q2p (btL x.tx++[40]) [41] ps by simp [q0m,ho],show q9e x ts=btL x.tx::[40]::(cmk ts++[[41]]) by simp [q9e,ho]]
  have h1:=q2c hn
  refine (j0w m (by simp only [List.length_append,List.length_cons,List.length_nil];omega)).mono ?_ (Nat.le_refl _)
  simp only [List.length_append,List.length_cons,List.length_nil];omega
 ·rw [show q0m x ps=q2p [91] [93] ps by simp [q0m,ho],show q9e x ts=[91]::(cmk ts++[[93]]) by simp [q9e,ho]]
  refine (j0w m (by decide)).mono ?_ (Nat.le_refl _)
  simp only [List.length_append,List.length_cons,List.length_nil];omega
 ·obtain ⟨a,b,c,d,rfl,rfl,h3,h4⟩:=two h2
  rw [show q0m x [a,b]=grD (twD (inD 0 a.1 a.2) (dpD (twD blD (twD (wdD [43,32]) (inD 1 b.1 b.2))))) by simp [q0m,tw2,ho],show q9e x [c,d]=brk 0 c++[43]::brk 1 d by simp [q9e,two2,ho]]
  refine (sum 0 1 43 a b c d h3 h4).mono ?_ (Nat.le_refl _)
  simp only [List.length_append,List.length_cons];omega
 ·obtain ⟨a,b,c,d,rfl,rfl,h3,h4⟩:=two h2
  rw [show q0m x [a,b]=grD (twD (inD 1 a.1 a.2) (dpD (twD blD (twD (wdD [42,32]) (inD 2 b.1 b.2))))) by simp [q0m,tw2,ho],show q9e x [c,d]=brk 1 c++[42]::brk 2 d by simp [q9e,two2,ho]]
  refine (sum 1 2 42 a b c d h3 h4).mono ?_ (Nat.le_refl _)
  simp only [List.length_append,List.length_cons];omega
theorem k8p:∀ F:Fo,F.ok→F.exs→Mls (2*F.nodes.length) F.dcs F.trs
 | .nil,_,_=>.nil
 | .cons x k n,hok,hex=>by
  have h1:=k8p k hok.2.1 fun y hy=>hex y (by simp [Fo.nodes,hy])
  have h2:=k8p n hok.2.2 fun y hy=>hex y (by simp [Fo.nodes,hy])
  have h3:=y1n h1 (hex x (by simp [Fo.nodes])) (by rw [q9n];exact hok.1)
  have e:(Fo.cons x k n).nodes.length=1+k.nodes.length+n.nodes.length:=by simp only [Fo.nodes,List.length_cons,List.length_append];omega
  exact .cons rfl (h3.mono (Nat.le_refl _) (by omega)) (h2.up (by omega))
theorem v6z {t:List Td} (h:q0c t=0) (h9:opT t≠9) {cs cs':List Int} {r:List UInt8} (hr:(q0z t).lay 0 cs = .ok (r,cs')):r.length≤90*(z6w t).length:=by
 have hl40:=(q2i h).1
 obtain ⟨x,y,k,rfl,hok,hex,hk,hx⟩:=z1f h h9
 have hm:=k8p _ hok hex
 have hd:LnD (q0m y k.dcs) (90*(q0r y k.trs).tk.length) (2*(Fo.cons y k .nil).nodes.length):=by
  cases hm with
  | cons _ h1 _=>exact h1
 have e0:q0z (x::(Fo.cons y k .nil).nodes)=stD x (q0m y k.dcs):=z6j hok hk
 have e1:z6w (x::(Fo.cons y k .nil).nodes)=stK x (Fo.cons y k .nil).trs:=(z2n hok hk).2
 rw [e0] at hr
 rw [e1]
 simp only [List.length_cons] at hl40
 generalize q0m y k.dcs=D at hd hr
 have hH:2*(Fo.cons y k .nil).nodes.length≤78:=by omega
 generalize 2*(Fo.cons y k .nil).nodes.length=H at hd hH
 have z:∀ s:List UInt8,∀ q,LnD (wdD s) s.length q:=fun s q=>(z5q s).mono (Nat.le_refl _) (Nat.zero_le _)
 have hD:=q7m hd (z [59] _)
 rcases hx with ⟨ho,hnm,_⟩ | ⟨ho,_,_⟩
 ·have h8:=q2c hnm
  rw [stD,if_pos ho] at hr
  have h5:=v3u (q7m (z ([108,101,116,32]++btL x.tx++[32,61]) _) (v3t (q7m (v3s.mono (Nat.le_refl _) (Nat.zero_le _)) hD)))
  have h6:=h5.2 0 cs cs' r hr (by omega)
  have e3:(stK x (Fo.cons y k .nil).trs).length=(q0r y k.trs).tk.length+4:=by simp [stK,ho,hdK,Fo.trs]
  rw [e3]
  simp only [List.length_append,List.length_cons,List.length_nil] at h6
  omega
 ·rw [stD,if_neg (by omega)] at hr
  have h6:=hD.2 0 cs cs' r hr (by omega)
  have e3:(stK x (Fo.cons y k .nil).trs).length=(q0r y k.trs).tk.length+1:=by simp [stK,ho,hdK,Fo.trs]
  rw [e3]
  simp only [List.length_cons,List.length_nil] at h6
  omega
end Go.Proofs.YtchdplceopegoaaGreatDoor
namespace Go.Proofs.YtchdplceopegoaaGreatDoor
def q2v (wd:Nat):Nat→List UInt8→Nat × Nat × Nat
 | c,[]=>(0,0,c)
 | c,b::s=>if b=10 then ((q2v wd 0 s).1,(q2v wd 0 s).2.1+1,(q2v wd 0 s).2.2) else ((if wd≤c then 1 else 0)+(q2v wd (c+1) s).1,(q2v wd (c+1) s).2.1,(q2v wd (c+1) s).2.2)
theorem z5a (wd:Nat):∀ (c:Nat) (s t:List UInt8),q2v wd c (s++t)=((q2v wd c s).1+(q2v wd (q2v wd c s).2.2 t).1,(q2v wd c s).2.1+(q2v wd (q2v wd c s).2.2 t).2.1,(q2v wd (q2v wd c s).2.2 t).2.2)
 | c,[],t=>by simp [q2v]
 | c,b::s,t=>by
  simp only [List.cons_append,q2v]
  split
  ·rw [z5a wd 0 s t]
   simp only [Prod.mk.injEq,and_true,true_and]
   omega
  ·rw [z5a wd (c+1) s t]
   simp only [Prod.mk.injEq,and_true]
   omega
abbrev Crs:=(Nat × Nat) × List Int
def q2x (a b:Nat × Nat):Prop:=a.1<b.1∨(a.1=b.1∧a.2<b.2)
instance (a b:Nat × Nat):Decidable (q2x a b):=by unfold q2x;infer_instance
def k3s (a b:Crs):Crs:=if q2x b.1 a.1 then b else a
def q5u:Option Crs→Option Crs→Option Crs
 | none,y=>y
 | x,none=>x
 | some a,some b=>some (k3s a b)
theorem k5p (a b c:Crs):k3s (k3s a b) c=k3s a (k3s b c):=by
 by_cases h1:q2x b.1 a.1<;>by_cases h2:q2x c.1 b.1<;>by_cases h3:q2x c.1 a.1
 all_goals first
  | (simp [k3s,h1,h2,h3];done)
  | (exfalso;unfold q2x at h1 h2 h3;omega)
theorem k1j (x y z:Option Crs):q5u (q5u x y) z=q5u x (q5u y z):=by
 cases x<;>cases y<;>cases z<;>simp [q5u,k5p]
def fm:List Crs→Option Crs
 | []=>none
 | a::l=>q5u (some a) (fm l)
theorem k9q:∀ l m:List Crs,fm (l++m)=q5u (fm l) (fm m)
 | [],m=>by cases h:fm m<;>simp [fm,q5u,h]
 | a::l,m=>by rw [List.cons_append,fm,fm,k9q l m,k1j]
def q4k (o l:Nat) (u:List Int) (a:Crs):Crs:=((o+a.1.1,l+a.1.2),u++a.2)
theorem z7z (o l:Nat) (u:List Int) (a b:Crs):q2x (q4k o l u b).1 (q4k o l u a).1↔q2x b.1 a.1:=by
 unfold q2x q4k
 dsimp only
 omega
theorem j2b (o l:Nat) (u:List Int) (a b:Crs):k3s (q4k o l u a) (q4k o l u b)=q4k o l u (k3s a b):=by
 unfold k3s
 by_cases h:q2x b.1 a.1
 ·rw [if_pos h,if_pos ((z7z o l u a b).2 h)]
 ·rw [if_neg h,if_neg fun k=>h ((z7z o l u a b).1 k)]
theorem q9r (o l:Nat) (u:List Int):∀ az:List Crs,fm (az.map (q4k o l u))=(fm az).map (q4k o l u)
 | []=>rfl
 | a::az=>by
  rw [List.map_cons,fm,q9r o l u az,fm]
  cases fm az with
  | none=>rfl
  | some b=>simp [q5u,j2b]
theorem k9r:∀ {l:List Crs},fm l=none→l=[]
 | [],_=>rfl
 | a::l,h=>by
  rw [fm] at h
  cases hl:fm l<;>rw [hl] at h<;>simp [q5u] at h
theorem z5k:∀ {l:List Crs} {a:Crs},fm l=some a→∃ (p q:List Crs),l=p++a::q∧(∀ b∈p,q2x a.1 b.1)∧∀ b∈q,¬ q2x b.1 a.1
 | b::l,a,h=>by
  rw [fm] at h
  cases hl:fm l with
  | none=>
   rw [hl] at h
   obtain rfl:=k9r hl
   simp only [q5u,Option.some.injEq] at h
   subst h
   exact ⟨[],[],rfl,by simp,by simp⟩
  | some c=>
   rw [hl] at h
   obtain ⟨p,q,rfl,h1,h2⟩:=z5k hl
   simp only [q5u,Option.some.injEq,k3s] at h
   split at h
   ·rename_i hlt
    subst h
    refine ⟨b::p,q,rfl,fun d hd=>?_,h2⟩
    rcases List.mem_cons.1 hd with rfl | hd
    ·exact hlt
    ·exact h1 d hd
   ·rename_i hlt
    subst h
    refine ⟨[],p++c::q,rfl,by simp,fun d hd=>?_⟩
    rcases List.mem_append.1 hd with hd | hd
    ·have:=h1 d hd
     unfold q2x at *
     omega
    ·rcases List.mem_cons.1 hd with rfl | hd
     ·exact hlt
     ·have:=h2 d hd
      unfold q2x at *
      omega
def Tr.outs:Tr→Nat→List (List UInt8 × List Int)
 | .leaf x,deep=>[(if x.op=1 then x.tx.data.toList else if x.op=5 then [] else 10::List.replicate deep 32,[])]
 | .one x a,deep=>if x.op=7 then a.outs (deep+x.n.toNat) else (match a.flat with | none=>[] | some s=>[(s,[0])])++(a.outs deep).map fun p=>(p.1,1::p.2)
 | .two x a b,deep=>if x.op=6 then (a.outs deep).flatMap fun p=>(b.outs deep).map fun q=>(p.1++q.1,p.2++q.2) else ((a.outs deep).map fun p=>(p.1,0::p.2))++(b.outs deep).map fun p=>(p.1,1::p.2)
theorem q2q:∀ (t:Tr) (deep:Nat),(t.outs deep).map (·.2)=t.ways
 | .leaf x,deep=>by simp [Tr.outs,Tr.ways]
 | .one x a,deep=>by
  simp only [Tr.outs,Tr.ways]
  split
  ·exact q2q a _
  ·rw [List.map_append,←q2q a deep]
   congr 1
   ·cases h:a.flat<;>simp [Tr.isFlat,h]
   ·rw [List.map_map,List.map_map];rfl
 | .two x a b,deep=>by
  simp only [Tr.outs,Tr.ways]
  split
  ·rw [←q2q a deep,←q2q b deep,List.map_flatMap,List.flatMap_map]
   congr 1
   funext p
   rw [List.map_map,List.map_map]
   rfl
  ·rw [←q2q a deep,←q2q b deep,List.map_append,List.map_map,List.map_map,List.map_map,List.map_map]
   rfl
theorem q5h:∀ (t:Tr) (deep:Nat) (p:List UInt8 × List Int),p∈t.outs deep→∀ r,t.lay deep (p.2++r) = .ok (p.1,r)
 | .leaf x,deep,p,h,r=>by
  simp only [Tr.outs,List.mem_singleton] at h
  subst h
  simp only [Tr.lay,List.nil_append]
  split
  ·rfl
  ·split<;>rfl
 | .one x a,deep,p,h,r=>by
  simp only [Tr.outs] at h
  simp only [Tr.lay]
  split at h
  ·rename_i h7
   rw [if_pos h7]
   exact q5h a _ p h r
  ·rename_i h7
   rw [if_neg h7]
   rcases List.mem_append.1 h with h | h
   ·cases hf:a.flat with
    | none=>rw [hf] at h;simp at h
    | some s=>
     rw [hf] at h
     simp only [List.mem_singleton] at h
     subst h
     simp
   ·obtain ⟨q,hq,rfl⟩:=List.mem_map.1 h
    simp only [List.cons_append,if_pos]
    exact q5h a deep q hq r
 | .two x a b,deep,p,h,r=>by
  simp only [Tr.outs] at h
  simp only [Tr.lay]
  split at h
  ·rename_i h6
   rw [if_pos h6]
   obtain ⟨u,hu,hp⟩:=List.mem_flatMap.1 h
   obtain ⟨v,hv,rfl⟩:=List.mem_map.1 hp
   dsimp only
   rw [List.append_assoc,q5h a deep u hu (v.2++r)]
   dsimp only
   rw [q5h b deep v hv r]
  ·rename_i h6
   rw [if_neg h6]
   rcases List.mem_append.1 h with h | h
   ·obtain ⟨q,hq,rfl⟩:=List.mem_map.1 h
    simp only [List.cons_append,if_pos]
    exact q5h a deep q hq r
   ·obtain ⟨q,hq,rfl⟩:=List.mem_map.1 h
    simp only [List.cons_append]
    rw [if_neg (by decide)]
    exact q5h b deep q hq r
def q4c:List (Nat × Tr)→List (List UInt8 × List Int)
 | []=>[([],[])]
 | (d,t)::ks=>(t.outs d).flatMap fun p=>(q4c ks).map fun q=>(p.1++q.1,p.2++q.2)
def q3m (wd c:Nat) (ks:List (Nat × Tr)):List Crs:=(q4c ks).map fun p=>(((q2v wd c p.1).1,(q2v wd c p.1).2.1),p.2)
def bst (wd c:Nat) (ks:List (Nat × Tr)):Option Crs:=fm (q3m wd c ks)
theorem v2l (wd c:Nat):bst wd c []=some ((0,0),[]):=by simp [bst,q3m,q4c,q2v,fm,q5u]
theorem z3w (wd c:Nat) (s:List UInt8) (u:List Int) (ks:List (Nat × Tr)):((q4c ks).map fun q=>(s++q.1,u++q.2)).map (fun p=>(((q2v wd c p.1).1,(q2v wd c p.1).2.1),p.2))=(q3m wd (q2v wd c s).2.2 ks).map (q4k (q2v wd c s).1 (q2v wd c s).2.1 u):=by
 unfold q3m
 rw [List.map_map,List.map_map]
 congr 1
 funext q
 simp only [Function.comp,z5a,q4k]
theorem z4y (wd c d:Nat) (x:Nd) (ks:List (Nat × Tr)) (s:List UInt8) (hs:s=if x.op=1 then x.tx.data.toList else if x.op=5 then [] else 10::List.replicate d 32) :
  bst wd c ((d,.leaf x)::ks)=(bst wd (q2v wd c s).2.2 ks).map (q4k (q2v wd c s).1 (q2v wd c s).2.1 []):=by
 unfold bst
 rw [←q9r,←z3w,q3m,q4c,Tr.outs,←hs]
 simp
theorem j5p (wd c d:Nat) (x:Nd) (a:Tr) (ks:List (Nat × Tr)) (h:x.op=7):bst wd c ((d,.one x a)::ks)=bst wd c ((d+x.n.toNat,a)::ks):=by
 unfold bst q3m
 rw [q4c,q4c,Tr.outs,if_pos h]
theorem z2e (wd c d:Nat) (k:Int) (a:Tr) (ks:List (Nat × Tr)):((((a.outs d).map fun p=>(p.1,k::p.2)).flatMap fun p=>(q4c ks).map fun q=>(p.1++q.1,p.2++q.2)).map (fun p=>(((q2v wd c p.1).1,(q2v wd c p.1).2.1),p.2)))=(q3m wd c ((d,a)::ks)).map (q4k 0 0 [k]):=by
 unfold q3m
 rw [q4c,List.flatMap_map,List.map_map,List.map_flatMap,List.map_flatMap]
 congr 1
 funext p
 rw [List.map_map,List.map_map]
 congr 1
 funext q
 simp [Function.comp,q4k]
theorem z7f (wd c d:Nat) (x:Nd) (a:Tr) (ks:List (Nat × Tr)) (h:x.op≠7) :
  bst wd c ((d,.one x a)::ks)=q5u (match a.flat with | none=>none | some s=>(bst wd (q2v wd c s).2.2 ks).map (q4k (q2v wd c s).1 (q2v wd c s).2.1 [0])) ((bst wd c ((d,a)::ks)).map (q4k 0 0 [1])):=by
 unfold bst
 rw [←q9r,←z2e]
 rw [q3m,q4c,Tr.outs,if_neg h,List.flatMap_append,List.map_append,k9q]
 congr 1
 cases hf:a.flat with
 | none=>rfl
 | some s=>
  dsimp only
  rw [←q9r,←z3w]
  simp
theorem j5o (wd c d:Nat) (x:Nd) (a b:Tr) (ks:List (Nat × Tr)) (h:x.op=6):bst wd c ((d,.two x a b)::ks)=bst wd c ((d,a)::(d,b)::ks):=by
 unfold bst q3m
 rw [q4c,q4c,q4c,Tr.outs,if_pos h,List.flatMap_assoc]
 congr 2
 congr 1
 funext p
 rw [List.flatMap_map,List.map_flatMap]
 congr 1
 funext q
 rw [List.map_map]
 congr 1
 funext z
 simp [Function.comp,List.append_assoc]
theorem k4q (wd c d:Nat) (x:Nd) (a b:Tr) (ks:List (Nat × Tr)) (h:x.op≠6) :
  bst wd c ((d,.two x a b)::ks)=q5u ((bst wd c ((d,a)::ks)).map (q4k 0 0 [0])) ((bst wd c ((d,b)::ks)).map (q4k 0 0 [1])):=by
 unfold bst
 rw [←q9r,←q9r,←z2e,←z2e,q3m,q4c,Tr.outs,if_neg h,List.flatMap_append,List.map_append,k9q]
end Go.Proofs.YtchdplceopegoaaGreatDoor
