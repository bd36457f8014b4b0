/- Texts as one: SynO, SynJ, SynW, LnS. -/
import Derived.Test.YtchdplceopegoaaGreatDoorPs04
namespace Go.Proofs.YtchdplceopegoaaGreatDoor
open Go
def okP:Int→List (List Td)→Prop
 | _,[]=>True
 | prev,t::r=>q0c t=0∧¬ (opT t=9∧prev=9)∧okP (opT t) r
theorem v3q:∀ (ps:List (List Td)) (prev:Int) (k:Nat),(q5c prev k ps).2=0→okP prev ps
 | [],_,_,_=>trivial
 | t::r,prev,k,h=>by
  rw [q5c] at h
  split at h
  ·rename_i h1;exact absurd h h1
  ·rename_i h1
   split at h
   ·cases h
   ·rename_i h2
    exact ⟨by omega,h2,v3q r _ _ h⟩
theorem q8k {ps:List (List Td)} (h:(q0p ps).2=0):ps.length≤20∧okP 0 ps:=by
 unfold q0p at h
 split at h
 ·cases h
 ·exact ⟨by omega,v3q ps 0 0 h⟩
theorem v7d {t:List Td} (h:q0c t=0) (rest:List UInt8) (i:Nat):(lxW (q3c t++10::rest) i).map (·.2)=q6c t++(lxW rest (i+(q3c t).length+1)).map (·.2)∧lxF (q3c t++10::rest) i=lxF rest (i+(q3c t).length+1):=by
 have hnl:∀ {s:List UInt8} {ws:List Wd},Lx s ws→(lxW (s++10::rest) i).map (·.2)=ws++(lxW rest (i+s.length+1)).map (·.2)∧lxF (s++10::rest) i=lxF rest (i+s.length+1):=fun {s ws} hl=>by
  obtain ⟨a1,a2⟩:=hl (10::rest) i (q1y rfl rest)
  have e:lx (10::rest) (i+s.length)=lx rest (i+s.length+1):=z9k _ _ rfl
  rw [a1,a2,lxW,lxF,e]
  exact ⟨rfl,rfl⟩
 rcases q2g h with ⟨x,rfl,ho,_,hnf⟩ | ⟨x,F,rfl,hok,hex,hl,hx⟩
 ·have e1:q3c [x]=k1w x.tx∧q6c [x]=[k1w x.tx]:=by
   have hk:(Fo.nil).len=kdT x:=by unfold kdT;rw [ho];rfl
   have:=q6u (x:=x) (F:=.nil) trivial hk
   rw [show ([x]:List Td)=x::Fo.nil.nodes from rfl,this.1,this.2]
   simp [stX,stK,ho,k1w]
  have e2:=j2q (z7c hnf) rest i
  rw [e1.1,e1.2,lxW,lxF,e2]
  exact ⟨rfl,rfl⟩
 ·have hkd:F.len=kdT x:=by
   rw [hl]
   unfold kdT
   rcases hx with ⟨h,_⟩ | ⟨h,_⟩<;>rw [h]<;>rfl
  obtain ⟨e1,e2⟩:=q6u hok hkd
  have htl:F.trs.length=1:=by rw [q3e];exact hl
  obtain ⟨t,ht⟩:∃ t,F.trs=[t]:=by
   match F.trs,htl with
   | [t],_=>exact ⟨t,rfl⟩
  have hlt:=j2o F hok hex t (by rw [ht];simp)
  rw [e1,e2,ht]
  refine hnl ?_
  have hsc:=Lx.post hlt (c:=59) rfl (Lx.mark (c:=59) rfl)
  rcases hx with ⟨ho,hnm,_⟩ | ⟨ho,_,_⟩
  ·obtain ⟨c,z,e,_,_,h8,hall⟩:=q7n (w:=btL x.tx) hnm
   have hname:=Lx.name hall (by rw [e];simp) h8
   have hlet:Lx z0x [z0x]:=Lx.name (by decide) (by decide) (by decide)
   have h3:Lx (32::61::32::(t.tx++[59])) ([]++([[61]]++([]++(t.tk++[[59]])))):=Lx.pre (Lx.blank (c:=32) rfl) rfl (Lx.pre (Lx.mark (c:=61) rfl) rfl (Lx.pre (Lx.blank (c:=32) rfl) rfl hsc))
   have h4:=Lx.app hname h3 (q1y rfl _)
   have h5:=Lx.app hlet (Lx.pre (Lx.blank (c:=32) rfl) rfl h4) (q1y rfl _)
   have q1:stX x [t]=z0x++32::(btL x.tx++32::61::32::(t.tx++[59])):=by simp [stX,ho,hdT]
   have q2:stK x [t]=[z0x]++([]++([btL x.tx]++([]++([[61]]++([]++(t.tk++[[59]])))))):=by simp [stK,ho,hdK]
   rw [q1,q2]
   exact h5
  ·have q1:stX x [t]=t.tx++[59]:=by simp [stX,ho,hdT]
   have q2:stK x [t]=t.tk++[[59]]:=by simp [stK,ho,hdK]
   rw [q1,q2]
   exact hsc
theorem k1u:∀ (ps:List (List Td)) (prev:Int) (i:Nat),okP prev ps→(lxW (q2d ps) i).map (·.2)=ps.flatMap q6c∧lxF (q2d ps) i=none
 | [],_,i,_=>by
  rw [show q2d []=[] from rfl,lxW,lxF,q9k]
  exact ⟨rfl,rfl⟩
 | t::r,prev,i,h=>by
  have e:q2d (t::r)=q3c t++10::q2d r:=by rw [z5g];simp
  obtain ⟨a1,a2⟩:=v7d h.1 (q2d r) i
  obtain ⟨b1,b2⟩:=k1u r _ (i+(q3c t).length+1) h.2.2
  rw [e,a1,a2,b1,b2]
  exact ⟨by simp,rfl⟩
theorem z2g:∀ (ps:List (List Td)) (prev:Int) (pv:Bool) (acc:List (List Td)),okP prev ps→(pv=true→prev=9)→PG pv acc (ps.flatMap q6c) (.ok (acc++ps))
 | [],_,_,acc,_,_=>by simpa using PG.done
 | t::r,prev,pv,acc,h,hpv=>by
  have ih:∀ pv',(pv'=true→opT t=9)→PG pv' (acc++[t]) (r.flatMap q6c) (.ok (acc++[t]++r)):=fun pv' h'=>z2g r (opT t) pv' (acc++[t]) h.2.2 h'
  have e0:acc++t::r=acc++[t]++r:=by simp
  rw [e0,List.flatMap_cons]
  rcases q2g h.1 with ⟨x,rfl,ho,hn,hnf⟩ | ⟨x,F,rfl,hok,hex,hl,hx⟩
  ·have e1:q6c [x]=[k1w x.tx]:=by
    have hk:(Fo.nil).len=kdT x:=by unfold kdT;rw [ho];rfl
    have:=q6u (x:=x) (F:=.nil) trivial hk
    rw [show ([x]:List Td)=x::Fo.nil.nodes from rfl,this.2]
    simp [stK,ho,k1w]
   rw [e1]
   have hpf:pv=false:=by
    cases pv with
    | false=>rfl
    | true=>exact absurd ⟨ho,hpv rfl⟩ h.2.1
   have hx:x=ntT (btL x.tx):=z1e ho rfl hn
   refine .note (by unfold k1w;split<;>rfl) ?_
   rw [z5d hnf,hpf]
   have e2:k3d false acc (btL x.tx)=acc++[[x]]:=by
    rw [k3d]
    simp only [Bool.false_eq_true,if_false]
    rw [←hx]
   rw [e2]
   exact ih true (fun _=>ho)
  ·have hkd:F.len=kdT x:=by
    rw [hl]
    unfold kdT
    rcases hx with ⟨h,_⟩ | ⟨h,_⟩<;>rw [h]<;>rfl
   obtain ⟨_,e2⟩:=q6u hok hkd
   have htl:F.trs.length=1:=by rw [q3e];exact hl
   obtain ⟨t,ht⟩:∃ t,F.trs=[t]:=by
    match F.trs,htl with
    | [t],_=>exact ⟨t,rfl⟩
   have hr:=q9s F hok hex t (by rw [ht];simp)
   have hns:t.ns=F.nodes:=by
    have:=q6x F
    rw [ht] at this
    simpa using this
   have hlv:=z6r hr (rest:=[59]::r.flatMap q6c) (by simp) (by simp) (by simp)
   rw [hns] at hlv
   rw [e2,ht]
   rcases hx with ⟨ho,hnm,hn⟩ | ⟨ho,htx,hn⟩
   ·have q2:stK x [t]++r.flatMap q6c=z0x::btL x.tx::[61]::(t.tk++[59]::r.flatMap q6c):=by simp [stK,ho,hdK]
    have hx:x=z4z (btL x.tx):=z1e ho rfl hn
    rw [q2]
    refine .letO hnm hlv ?_
    rw [←hx]
    exact ih false (fun h=>by cases h)
   ·have q2:stK x [t]++r.flatMap q6c=t.tk++[59]::r.flatMap q6c:=by simp [stK,ho,hdK]
    have hx:x=doT:=z1e ho htx hn
    obtain ⟨w,z,ew,hw⟩:=hr.b
    have hne:=z2s hw
    rw [q2]
    rw [ew,List.cons_append] at hlv ⊢
    refine .doO hne.2.2.2.2 hne.2.2.2.1 hlv ?_
    rw [←hx]
    exact ih false (fun h=>by cases h)
theorem j2t (a:List Wd):many a≤a.length:=List.length_filter_le _ _
theorem k2p {nm:Wd} {ns:List Td} {t:Tn} (h:z1t ns t):many (q6c (z4z nm::ns))≤t.tk.length+4:=by
 obtain ⟨F,f1,f2,f3,_⟩:=h
 have hkd:F.len=kdT (z4z nm):=by rw [←q3e,f2];rfl
 have e:=(q6u f1 hkd).2
 rw [f3] at e
 have h1:=j2t (q6c (z4z nm::ns))
 have h2:(q6c (z4z nm::ns)).length=t.tk.length+4:=by rw [e,f2];simp [stK,z4z,hdK]
 omega
theorem k7i {ns:List Td} {t:Tn} (h:z1t ns t):many (q6c (doT::ns))≤t.tk.length+1:=by
 obtain ⟨F,f1,f2,f3,_⟩:=h
 have hkd:F.len=kdT doT:=by rw [←q3e,f2];rfl
 have e:=(q6u f1 hkd).2
 rw [f3] at e
 have h1:=j2t (q6c (doT::ns))
 have h2:(q6c (doT::ns)).length=t.tk.length+1:=by rw [e,f2];simp [stK,doT,hdK]
 omega
theorem z1o (w:Wd):many (q6c [ntT w])=0:=by
 have hk:(Fo.nil).len=kdT (ntT w):=rfl
 have:=(q6u (x:=ntT w) (F:=.nil) trivial hk).2
 rw [show ([ntT w]:List Td)=ntT w::Fo.nil.nodes from rfl,this]
 simp only [stK,ntT]
 by_cases h:(wbS w).size=0<;>simp [h,many,z1w]
def q3j (ps:List (List Td)):Nat:=many (ps.flatMap q6c)
theorem q6p (a b:List (List Td)):q3j (a++b)=q3j a+q3j b:=by simp [q3j,q9l]
theorem k6r (a:List (List Td)):q3j a.dropLast≤q3j a:=by
 rcases List.eq_nil_or_concat a with rfl | ⟨v,c,rfl⟩
 ·exact Nat.le_refl _
 ·rw [List.concat_eq_append,List.dropLast_concat,q6p];omega
theorem v8o {pv:Bool} {acc:List (List Td)} {ts:List Wd} {r:Rp} (h:PG pv acc ts r):∀ ps,r = .ok ps→q3j ps≤q3j acc+many ts:=by
 induction h with
 | done=>intro ps e;cases e;omega
 | note _ _ ih=>
  intro ps e
  rename_i pv acc w ts r _ _
  have h1:=ih ps e
  have h2:q3j (k3d pv acc (q4m w))≤q3j acc:=by
   unfold k3d
   split
   ·have:=k6r acc
    rw [q6p]
    have h3:q3j [[ntT (z0e (q4k acc) (q4m w))]]=0:=by
     have:=z1o (z0e (q4k acc) (q4m w))
     simpa [q3j] using this
    omega
   ·rw [q6p]
    have h3:q3j [[ntT (q4m w)]]=0:=by
     have:=z1o (q4m w)
     simpa [q3j] using this
    omega
  have h4:many ts≤many (w::ts):=by
   have:many (w::ts)=many [w]+many ts:=q9l [w] ts
   omega
  omega
 | letN _=>intro ps e;cases e
 | letE _ _=>intro ps e;cases e
 | letB _ _=>intro ps e;cases e
 | letX _ _ _=>intro ps e;cases e
 | letO hn hp _ ih=>
  intro ps e
  rename_i pv acc nm ts m ns u r _
  have h1:=ih ps e
  obtain ⟨t,t1,t2⟩:=j3y hp
  have h2:=k2p (nm:=nm) t1
  have h3:q3j [z4z nm::ns]=many (q6c (z4z nm::ns)):=by simp [q3j]
  rw [q6p,h3] at h1
  rw [q3f,q4e (w:=[59]) rfl] at t2
  rw [q4e (w:=z0x) rfl,q4e (z6z hn),q4e (w:=[61]) rfl]
  omega
 | doB _ _ _=>intro ps e;cases e
 | doX _ _ _ _=>intro ps e;cases e
 | doO _ _ hp _ ih=>
  intro ps e
  rename_i pv acc w ts m ns u r _ _ _
  have h1:=ih ps e
  obtain ⟨t,t1,t2⟩:=j3y hp
  have h2:=k7i t1
  have h3:q3j [doT::ns]=many (q6c (doT::ns)):=by simp [q3j]
  rw [q6p,h3] at h1
  rw [q3f,q4e (w:=[59]) rfl] at t2
  omega
theorem j1n:∀ ws:List Wd,(∀ w∈ws,w.length≤20)→(jb ws).length≤21*ws.length
 | [],_=>by simp [jb]
 | [w],h=>by
  have:=h w (by simp)
  simp [jb];omega
 | w::u::r,h=>by
  have h1:=h w (by simp)
  have h2:=j1n (u::r) fun x hx=>h x (by simp [hx])
  rw [jb,List.length_append]
  simp only [List.length_cons] at h2 ⊢
  omega
theorem z7b {tx:ByteArray} (h:q2u tx=0):tx.size≤1300:=by
 by_cases h0:btL tx=[]
 ·have:=q0b tx
  rw [h0] at this
  simp at this;omega
 ·obtain ⟨h1,h2⟩:=z1b h
  have e2:q0g (btL tx)=q4v (btL tx):=by rw [q0g,if_neg h0]
  rw [e2] at h1 h2
  have h3:=j1n _ fun w hw=>(h2 w hw).2.1
  rw [z4w] at h3
  rw [←q0b]
  omega
theorem y0m {y:Td} {k:Fo} (hok:(Fo.cons y k .nil).ok) (hex:(Fo.cons y k .nil).exs) (hl:(Fo.cons y k .nil).nodes.length≤40):(q0m y k.trs).tx.length≤640:=by
 have h1:=j5r _ hok hex (q0m y k.trs) (by simp [Fo.trs])
 have h2:(q0m y k.trs).ns=(Fo.cons y k .nil).nodes:=by
  have:=q6x (Fo.cons y k .nil)
  simpa [Fo.trs] using this
 rw [h2] at h1
 omega
theorem v2w {F:Fo} (h:F.len=1):∃ y k,F = .cons y k .nil:=by
 cases F with
 | nil=>cases h
 | cons y k n=>
  cases n with
  | nil=>exact ⟨y,k,rfl⟩
  | cons _ _ _=>simp [Fo.len] at h
theorem k5h {ds:List Td} (h:q0c ds=0):(q3c ds).length≤2000:=by
 have hin40:=(q2l h).1
 rcases q2g h with ⟨x,rfl,ho,_,hnf⟩ | ⟨x,F,rfl,hok,hex,hl,hx⟩
 ·have hk:(Fo.nil).len=kdT x:=by unfold kdT;rw [ho];rfl
  have e1:q3c [x]=stX x []:=(q6u (x:=x) (F:=.nil) trivial hk).1
  have h2:=z7b hnf
  rw [e1]
  unfold stX
  rw [if_neg (by omega),if_neg (by omega)]
  split
  ·simp
  ·simp only [List.length_append,List.length_cons,List.length_nil,q0b];omega
 ·obtain ⟨y,k,rfl⟩:=v2w hl
  have hk:(Fo.cons y k .nil).len=kdT x:=by
   rw [hl];unfold kdT
   rcases hx with ⟨ho,_⟩ | ⟨ho,_⟩<;>rw [ho]<;>rfl
  have hz:=y0m hok hex (by have:=hin40;simp only [List.length_cons] at this;omega)
  rw [(q6u hok hk).1]
  unfold stX
  rcases hx with ⟨ho,hnm,_⟩ | ⟨ho,_,_⟩
  ·have h8:=q1u hnm
   rw [if_pos ho]
   simp only [List.length_append,List.length_cons,List.length_nil,hdT,Fo.trs]
   omega
  ·rw [if_neg (by omega),if_pos ho]
   simp only [List.length_append,List.length_cons,List.length_nil,hdT,Fo.trs]
   omega
theorem j3z:∀ ps:List (List Td),(∀ t∈ps,q0c t=0)→(q2d ps).length≤2001*ps.length
 | [],_=>by simp [q2d]
 | t::r,h=>by
  have h1:=k5h (h t (by simp))
  have h2:=j3z r fun x hx=>h x (by simp [hx])
  rw [z5g]
  simp only [List.length_append,List.length_cons,List.length_nil]
  omega
def y5r (s:ByteArray) (u:List Wd):Nat:=((z7v (btL s))[(q2x (btL s)).length - u.length]?).getD s.size
inductive q6i (s:ByteArray):List (List Td)→Int→Int→Prop where
 | lex (h:q6d (btL s)≠0):q6i s [] ((z9b (btL s):Nat):Int) (q6d (btL s))
 | bad {u} (h:q6d (btL s)=0) (hg:PG false [] (q2x (btL s)) (.bad u)):q6i s [] ((y5r s u:Nat):Int) 5
 | full {qs} (h:q6d (btL s)=0) (hg:PG false [] (q2x (btL s)) (.ok qs)) (hf:(q0p qs).2≠0):q6i s [] 0 (q0p qs).2
 | ok {qs} (h:q6d (btL s)=0) (hg:PG false [] (q2x (btL s)) (.ok qs)) (hf:(q0p qs).2=0):q6i s qs 0 0
theorem q1m {s:ByteArray} {p p':List (List Td)} {k k' f f':Int} (h:q6i s p k f) (h':q6i s p' k' f'):p=p'∧k=k'∧f=f':=by
 cases h with
 | lex h1=>cases h' with
  | lex _=>exact ⟨rfl,rfl,rfl⟩
  | bad h2=>exact absurd h2 h1
  | full h2=>exact absurd h2 h1
  | ok h2=>exact absurd h2 h1
 | bad h1 hg=>cases h' with
  | lex h2=>exact absurd h1 h2
  | bad _ hg'=>cases q8a hg hg';exact ⟨rfl,rfl,rfl⟩
  | full _ hg'=>cases q8a hg hg'
  | ok _ hg'=>cases q8a hg hg'
 | full h1 hg hf=>cases h' with
  | lex h2=>exact absurd h1 h2
  | bad _ hg'=>cases q8a hg hg'
  | full _ hg'=>cases q8a hg hg';exact ⟨rfl,rfl,rfl⟩
  | ok _ hg' hf'=>cases q8a hg hg';exact absurd hf' hf
 | ok h1 hg hf=>cases h' with
  | lex h2=>exact absurd h1 h2
  | bad _ hg'=>cases q8a hg hg'
  | full _ hg' hf'=>cases q8a hg hg';exact absurd hf hf'
  | ok _ hg'=>cases q8a hg hg';exact ⟨rfl,rfl,rfl⟩
theorem z7d:∀ (ps:List (List Td)) (prev:Int),okP prev ps→∀ t∈ps,q0c t=0
 | t::r,prev,h,x,hx=>by
  rcases List.mem_cons.1 hx with rfl | hx
  ·exact h.1
  ·exact z7d r _ h.2.2 x hx
theorem y4v (l:List UInt8):btL (wbS l)=l:=rfl
def GOk (g:List Wd):Prop:=g≠[]∧g.length≤60∧∀ w∈g,w≠[]∧w.length≤20∧∀ b∈w,q7w b=true
theorem v3x:∀ g:List Wd,g≠[]→(∀ w∈g,∀ b∈w,b≠32)→q4v (jb g)=g
 | [w],_,h=>by
  have e:jb [w]=w:=by simp [jb]
  rw [e,k5f w (h w (by simp))]
 | w::u::r,_,h=>by
  have ih:=v3x (u::r) (by simp) fun x hx=>h x (by simp at hx ⊢;right;exact hx)
  have e:jb (w::u::r)=w++32::jb (u::r):=rfl
  rw [e,k5e _ _ (h w (by simp)),ih]
theorem v9i {b:UInt8} (h:q7w b=true):b≠32:=fun e=>by subst e;revert h;decide
theorem j1o {g:List Wd} (h:GOk g):jb g≠[]:=by
 obtain ⟨w,r,rfl⟩:=List.exists_cons_of_ne_nil h.1
 have hw:=(h.2.2 w (by simp)).1
 intro e
 have:w++(match r with | []=>[] | _::_=>32::jb r)=[]:=e
 exact hw (List.append_eq_nil_iff.1 this).1
theorem j3d {g:List Wd} (h:GOk g):q0g (jb g)=g∧q2u (wbS (jb g))=0:=by
 have h1:q0g (jb g)=g:=by rw [q0g,if_neg (j1o h),v3x g h.1 fun w hw b hb=>v9i ((h.2.2 w hw).2.2 b hb)]
 refine ⟨h1,?_⟩
 show q1e ((q0g (jb g)).map wbS)=0
 rw [h1,q1e,if_neg (by rw [List.length_map];have:=h.2.1;omega),if_pos]
 rw [List.all_eq_true]
 intro x hx
 obtain ⟨w,hw,rfl⟩:=List.mem_map.1 hx
 obtain ⟨q1,q2,q3⟩:=h.2.2 w hw
 have e:(wbS w).size=w.length:=by rw [←q0b];rfl
 have:=List.length_pos_iff.2 q1
 simp only [okW,Bool.and_eq_true,decide_eq_true_eq,List.all_eq_true]
 exact ⟨⟨by omega,by omega⟩,q3⟩
abbrev lnW (g:List Wd):Wd:=[35,32]++jb g
theorem v3f {g:List Wd} (h:GOk g):k1w (wbS (jb g))=lnW g:=by
 have e:(wbS (jb g)).size=(jb g).length:=by rw [←q0b];rfl
 have:=List.length_pos_iff.2 (j1o h)
 rw [k1w,if_neg (by omega)]
 rfl
theorem v6v {g:List Wd} (h:GOk g) (rest:List UInt8) (i:Nat):(lxW (lnW g++10::rest) i).map (·.2)=lnW g::(lxW rest (i+(lnW g).length+1)).map (·.2)∧lxF (lnW g++10::rest) i=lxF rest (i+(lnW g).length+1):=by
 have e2:=j2q (z7c (j3d h).2) rest i
 rw [v3f h] at e2
 rw [lxW,lxF,e2]
 exact ⟨rfl,rfl⟩
inductive FmS (t:List Td):List UInt8→List Wd→Prop where
 | doc {r cs cs'}:opT t≠9→(q0s t).lay 0 cs = .ok (r,cs')→FmS t (r++[10]) (q6c t)
 | empty {x}:t=[x]→x.op=9→btL x.tx=[]→FmS t [35,10] [[35]]
 | note {x gs}:t=[x]→x.op=9→gs≠[]→(∀ g∈gs,GOk g)→gs.flatten=q0g (btL x.tx)→btL x.tx≠[]→FmS t (gs.flatMap fun g=>lnW g++[10]) (gs.map lnW)
inductive FmP:List (List Td)→List UInt8→List Wd→Prop where
 | nil:FmP [] [] []
 | cons {t ps s ss ws us}:FmS t s ws→FmP ps ss us→FmP (t::ps) (s++ss) (ws++us)
theorem v3g:∀ (gs:List (List Wd)),(∀ g∈gs,GOk g)→∀ (rest:List UInt8) (i:Nat),∃ j,(lxW ((gs.flatMap fun g=>lnW g++[10])++rest) i).map (·.2)=gs.map lnW++(lxW rest j).map (·.2)∧lxF ((gs.flatMap fun g=>lnW g++[10])++rest) i=lxF rest j
 | [],_,rest,i=>⟨i,by simp,by simp⟩
 | g::gs,h,rest,i=>by
  obtain ⟨a1,a2⟩:=v6v (h g (by simp)) ((gs.flatMap fun g=>lnW g++[10])++rest) i
  obtain ⟨j,b1,b2⟩:=v3g gs (fun x hx=>h x (by simp [hx])) rest (i+(lnW g).length+1)
  have e:((g::gs).flatMap fun g=>lnW g++[10])++rest=lnW g++10::((gs.flatMap fun g=>lnW g++[10])++rest):=by simp
  refine ⟨j,?_,?_⟩
  ·rw [e,a1,b1];simp
  ·rw [e,a2,b2]
theorem y0x {t:List Td} (h:q0c t=0) {s:List UInt8} {ws:List Wd} (hf:FmS t s ws) (rest:List UInt8) (i:Nat):∃ j,(lxW (s++rest) i).map (·.2)=ws++(lxW rest j).map (·.2)∧lxF (s++rest) i=lxF rest j:=by
 cases hf with
 | doc h9 hr=>
  have hl:=Lx.post (y0j h h9 (.inr ⟨_,_,_,hr⟩)) (c:=10) (by decide) (Lx.blank (c:=10) (by decide))
  rw [List.append_nil] at hl
  exact ⟨_,hl rest i (q7i (by decide) _ _)⟩
 | empty=>
  have h0:q2u (⟨#[]⟩:ByteArray)=0:=by decide
  have e2:=j2q (z7c h0) rest i
  have e3:k1w (⟨#[]⟩:ByteArray)=[35]:=rfl
  rw [e3] at e2
  refine ⟨i+([35]:Wd).length+1,?_,?_⟩
  ·show (lxW ([35]++10::rest) i).map (·.2)=_
   rw [lxW,e2];rfl
  ·show lxF ([35]++10::rest) i=_
   rw [lxF,e2]
 | note _ _ _ hg=>exact v3g _ hg rest i
theorem v2u:∀ {ps:List (List Td)} {s:List UInt8} {ws:List Wd} {prev:Int},okP prev ps→FmP ps s ws→∀ i,(lxW s i).map (·.2)=ws∧lxF s i=none
 | _,_,_,_,_,.nil,i=>by rw [lxW,lxF,q9k];exact ⟨rfl,rfl⟩
 | _,_,_,_,h,.cons h1 h2,i=>by
  obtain ⟨j,a1,a2⟩:=y0x h.1 h1 _ i
  obtain ⟨b1,b2⟩:=v2u h.2.2 h2 j
  rw [a1,a2,b1,b2]
  exact ⟨rfl,rfl⟩
theorem y2o {t:List Td} (h:q0c t=0) (h9:opT t≠9) {pv:Bool} {acc:List (List Td)} {rest:List Wd} {R:Rp} (hr:PG false (acc++[t]) rest R):PG pv acc (q6c t++rest) R:=by
 rcases q2g h with ⟨x,rfl,ho,_⟩ | ⟨x,F,rfl,hok,hex,hl,hx⟩
 ·exact absurd ho h9
 ·have hkd:F.len=kdT x:=by
   rw [hl]
   unfold kdT
   rcases hx with ⟨h,_⟩ | ⟨h,_⟩<;>rw [h]<;>rfl
  obtain ⟨_,e2⟩:=q6u hok hkd
  have htl:F.trs.length=1:=by rw [q3e];exact hl
  obtain ⟨t,ht⟩:∃ t,F.trs=[t]:=by
   match F.trs,htl with
   | [t],_=>exact ⟨t,rfl⟩
  have hrd:=q9s F hok hex t (by rw [ht];simp)
  have hns:t.ns=F.nodes:=by
   have:=q6x F
   rw [ht] at this
   simpa using this
  have hlv:=z6r hrd (rest:=[59]::rest) (by simp) (by simp) (by simp)
  rw [hns] at hlv
  rw [e2,ht]
  rcases hx with ⟨ho,hnm,hn⟩ | ⟨ho,htx,hn⟩
  ·have q2:stK x [t]++rest=z0x::btL x.tx::[61]::(t.tk++[59]::rest):=by simp [stK,ho,hdK]
   have hx:x=z4z (btL x.tx):=z1e ho rfl hn
   rw [q2]
   refine .letO hnm hlv ?_
   rw [←hx]
   exact hr
  ·have q2:stK x [t]++rest=t.tk++[59]::rest:=by simp [stK,ho,hdK]
   have hx:x=doT:=z1e ho htx hn
   obtain ⟨w,z,ew,hw⟩:=hrd.b
   have hne:=z2s hw
   rw [q2]
   rw [ew,List.cons_append] at hlv ⊢
   refine .doO hne.2.2.2.2 hne.2.2.2.1 hlv ?_
   rw [←hx]
   exact hr
theorem z3k {g:List Wd} (h:GOk g):q4m (lnW g)=jb g:=by
 have:=z5d (j3d h).2
 rw [v3f h] at this
 exact this
theorem z8x:∀ (a b:List Wd),a≠[]→b≠[]→jb (a++b)=jb a++32::jb b
 | [w],b,_,hb=>by
  obtain ⟨u,r,rfl⟩:=List.exists_cons_of_ne_nil hb
  simp [jb]
 | w::u::r,b,_,hb=>by
  have ih:=z8x (u::r) b (by simp) hb
  have e1:jb (w::u::r++b)=w++32::jb (u::r++b):=rfl
  have e2:jb (w::u::r)=w++32::jb (u::r):=rfl
  rw [e1,e2,ih];simp
theorem v0k:∀ (gs:List (List Wd)),(∀ g∈gs,GOk g)→∀ (acc:List (List Td)) (g0:List Wd),GOk g0→∀ {rest:List Wd} {R:Rp},PG true (acc++[[ntT (jb (g0++gs.flatten))]]) rest R→PG true (acc++[[ntT (jb g0)]]) (gs.map lnW++rest) R
 | [],_,acc,g0,_,rest,R,h=>by simpa using h
 | g::gs,hg,acc,g0,h0,rest,R,h=>by
  have hgg:=hg g (by simp)
  rw [List.map_cons,List.cons_append]
  refine .note rfl ?_
  rw [z3k hgg]
  have e1:k3d true (acc++[[ntT (jb g0)]]) (jb g)=acc++[[ntT (jb (g0++g))]]:=by
   have e:q4k (acc++[[ntT (jb g0)]])=jb g0:=by simp [q4k,ntT];rfl
   show (acc++[[ntT (jb g0)]]).dropLast++[[ntT (z0e (q4k (acc++[[ntT (jb g0)]])) (jb g))]]=_
   rw [e,z0e,if_pos ⟨j1o hgg,j1o h0⟩,z8x g0 g h0.1 hgg.1]
   simp
  rw [e1]
  have key:∀ (gs:List (List Wd)),(∀ g∈gs,GOk g)→∀ (z:List Wd),z≠[]→jb z≠[]→∀ {rest:List Wd} {R:Rp},PG true (acc++[[ntT (jb (z++gs.flatten))]]) rest R→PG true (acc++[[ntT (jb z)]]) (gs.map lnW++rest) R:=by
   intro gs
   induction gs with
   | nil=>intro _ z _ _ rest R h;simpa using h
   | cons g gs ih=>
    intro hg z hz hz2 rest R h
    have hgg:=hg g (by simp)
    rw [List.map_cons,List.cons_append]
    refine .note rfl ?_
    rw [z3k hgg]
    have e1:k3d true (acc++[[ntT (jb z)]]) (jb g)=acc++[[ntT (jb (z++g))]]:=by
     have e:q4k (acc++[[ntT (jb z)]])=jb z:=by simp [q4k,ntT];rfl
     show (acc++[[ntT (jb z)]]).dropLast++[[ntT (z0e (q4k (acc++[[ntT (jb z)]])) (jb g))]]=_
     rw [e,z0e,if_pos ⟨j1o hgg,hz2⟩,z8x z g hz hgg.1]
     simp
    rw [e1]
    refine ih (fun x hx=>hg x (by simp [hx])) (z++g) (by simp [hz]) (by rw [z8x z g hz hgg.1];simp) ?_
    simpa [List.append_assoc] using h
  refine key gs (fun x hx=>hg x (by simp [hx])) (g0++g) (by simp [h0.1]) (by rw [z8x g0 g h0.1 hgg.1];simp) ?_
  simpa [List.append_assoc] using h
theorem v2v:∀ {ps:List (List Td)} {s:List UInt8} {ws:List Wd},FmP ps s ws→∀ (prev:Int) (pv:Bool) (acc:List (List Td)),okP prev ps→(pv=true→prev=9)→PG pv acc ws (.ok (acc++ps))
 | _,_,_,.nil,_,_,acc,_,_=>by simpa using PG.done
 | t::ps,_,_,.cons (us:=us) h1 h2,prev,pv,acc,h,hpv=>by
  have ih:∀ pv',(pv'=true→opT t=9)→PG pv' (acc++[t]) us (.ok (acc++[t]++ps)):=fun pv' h'=>v2v h2 (opT t) pv' (acc++[t]) h.2.2 h'
  have e0:acc++t::ps=acc++[t]++ps:=by simp
  rw [e0]
  have hpf:opT t=9→pv=false:=fun ho=>by
   cases pv with
   | false=>rfl
   | true=>exact absurd ⟨ho,hpv rfl⟩ h.2.1
  cases h1 with
  | doc h9 _=>exact y2o h.1 h9 (ih false (fun e=>by cases e))
  | @empty x he ho hx=>
   subst he
   have ho':opT [x]=9:=ho
   rw [hpf ho']
   have hn:x.n=0:=by
    rcases q2g h.1 with ⟨y,e,_,hn,_⟩ | ⟨y,F,e,_,_,hl,hy⟩
    ·cases e;exact hn
    ·rcases hy with ⟨h7,_⟩ | ⟨h7,_⟩<;>(have:x=y:=by injection e)<;>subst this<;>omega
   have hxx:x=ntT (btL x.tx):=z1e ho rfl hn
   refine .note rfl ?_
   have e2:k3d false acc (q4m [35])=acc++[[x]]:=by
    rw [k3d]
    simp only [Bool.false_eq_true,if_false]
    rw [hxx,hx];rfl
   rw [e2]
   exact ih true (fun _=>ho')
  | @note x gs he ho hne hg hfl hx=>
   subst he
   have ho':opT [x]=9:=ho
   rw [hpf ho']
   have hn:x.n=0∧q2u x.tx=0:=by
    rcases q2g h.1 with ⟨y,e,_,hn,hf⟩ | ⟨y,F,e,_,_,hl,hy⟩
    ·cases e;exact ⟨hn,hf⟩
    ·rcases hy with ⟨h7,_⟩ | ⟨h7,_⟩<;>(have:x=y:=by injection e)<;>subst this<;>omega
   have hxx:x=ntT (btL x.tx):=z1e ho rfl hn.1
   obtain ⟨g,gr,rfl⟩:=List.exists_cons_of_ne_nil hne
   have hgg:=hg g (by simp)
   rw [List.map_cons,List.cons_append]
   refine .note rfl ?_
   rw [z3k hgg]
   have e2:k3d false acc (jb g)=acc++[[ntT (jb g)]]:=rfl
   rw [e2]
   refine v0k gr (fun z hz=>hg z (by simp [hz])) acc g hgg ?_
   have e3:jb (g++gr.flatten)=btL x.tx:=by
    have:g++gr.flatten=q0g (btL x.tx):=by rw [←hfl];rfl
    rw [this,q0g,if_neg hx,z4w]
   rw [e3,←hxx]
   exact ih true (fun _=>ho')
end Go.Proofs.YtchdplceopegoaaGreatDoor
