/- Texts as one: SynL, SynS, DocP, FlatP, WayP. -/
import Derived.Test.YtchdplceopegoaaGreatDoorPs01
namespace Go.Proofs.YtchdplceopegoaaGreatDoor
open Go
theorem k3i (l:Nat) (t:Tn):(brx l t).length≤t.tx.length+2:=by
 unfold brx
 split
 ·simp
 ·omega
theorem v2p:∀ ks:List Tn,(∀ t∈ks,t.tx.length+4≤16*t.ns.length)→(cmx ks).length≤16*(ks.flatMap (·.ns)).length
 | [],_=>by simp [cmx]
 | [t],h=>by
  have:=h t (by simp)
  simp [cmx];omega
 | t::u::r,h=>by
  have h1:=h t (by simp)
  have h2:=v2p (u::r) (fun x hx=>h x (by simp [hx]))
  rw [cmx,List.flatMap_cons,List.length_append,List.length_append]
  simp only [List.length_cons]
  omega
theorem q1u {s:ByteArray} (h:q0x s=true):(btL s).length≤8:=by
 unfold q0x at h
 simp only [Bool.and_eq_true,decide_eq_true_eq] at h
 rw [q0b]
 exact h.1.1.2
theorem j5r:∀ F:Fo,F.ok→F.exs→∀ t∈F.trs,t.tx.length+4≤16*t.ns.length
 | .nil,_,_,t,ht=>by cases ht
 | .cons x k n,hok,hex,t,ht=>by
  have hexk:k.exs:=fun y hy=>hex y (by simp [Fo.nodes,hy])
  have hexn:n.exs:=fun y hy=>hex y (by simp [Fo.nodes,hy])
  have ihk:=j5r k hok.2.1 hexk
  rw [Fo.trs] at ht
  rcases List.mem_cons.1 ht with rfl | ht
  ·have hlen:k.trs.length=kdT x:=by rw [q3e];exact hok.1
   have hc:=v2p k.trs ihk
   rcases q2e (hex x (by simp [Fo.nodes])) with ⟨ho,htx,hn0,hn1,hk⟩ | ⟨ho,hnm,hn0,hk⟩ | ⟨ho,hnm,hn0,hn1,hk⟩ | ⟨ho,htx,hn0,hn1,hk⟩ | ⟨ho,htx,hn0,hk⟩ | ⟨ho,htx,hn0,hk⟩
   ·have:=q9c 5 x.n.toNat (by omega)
    simp [q0m,q2w,ho];omega
   ·have:=q1u hnm
    simp only [q0m,q2w,ho]
    simp at this ⊢;omega
   ·have:=q1u hnm
    simp only [q0m,q2w,ho]
    simp at this hc ⊢;omega
   ·simp only [q0m,q2w,ho]
    simp at hc ⊢;omega
   ·obtain ⟨a,b,hab⟩:=v9o (hlen.trans hk)
    rw [hab] at ihk ⊢
    have h1:=ihk a (by simp)
    have h2:=ihk b (by simp)
    have h3:=k3i 0 a
    have h4:=k3i 1 b
    simp [q0m,q2w,ho,two2];omega
   ·obtain ⟨a,b,hab⟩:=v9o (hlen.trans hk)
    rw [hab] at ihk ⊢
    have h1:=ihk a (by simp)
    have h2:=ihk b (by simp)
    have h3:=k3i 1 a
    have h4:=k3i 2 b
    simp [q0m,q2w,ho,two2];omega
  ·exact j5r n hok.2.2 hexn t ht
def Fo.tk:Nat→Fo→Fo
 | 0,_=>.nil
 | _+1,.nil=>.nil
 | k+1,.cons x a n=>.cons x a (Fo.tk k n)
def Fo.dp:Nat→Fo→Fo
 | 0,f=>f
 | _+1,.nil=>.nil
 | k+1,.cons _ _ n=>Fo.dp k n
theorem k1o:∀ f g:Fo,Fo.tk f.len (f.app g)=f
 | .nil,g=>by cases g<;>rfl
 | .cons x k n,g=>by simp only [Fo.len,Fo.app,Fo.tk,k1o n g]
theorem k1m:∀ f g:Fo,Fo.dp f.len (f.app g)=g
 | .nil,g=>by cases g<;>rfl
 | .cons x k n,g=>by simp only [Fo.len,Fo.app,Fo.dp,k1m n g]
theorem z0s:∀ f:Fo,f.app .nil=f
 | .nil=>rfl
 | .cons x k n=>by simp only [Fo.app,z0s n]
def k8y:List Td→Fo
 | []=>.nil
 | x::r=>.cons x (Fo.tk (kdT x) (k8y r)) (Fo.dp (kdT x) (k8y r))
theorem z5y:∀ (F:Fo),F.ok→∀ r,k8y (F.nodes++r)=F.app (k8y r)
 | .nil,_,r=>rfl
 | .cons x k n,h,r=>by
  have e1:=z5y n h.2.2 r
  have e2:=z5y k h.2.1 (n.nodes++r)
  rw [Fo.nodes,List.cons_append,List.append_assoc,k8y,e2,e1,←h.1,k1o,k1m]
  rfl
theorem k5t (F:Fo) (h:F.ok):k8y F.nodes=F:=by
 have:=z5y F h []
 rw [List.append_nil] at this
 rw [this]
 exact z0s F
theorem q2g {ds:List Td} (h:q0c ds=0):(∃ x,ds=[x]∧x.op=9∧x.n=0∧q2u x.tx=0)∨
  (∃ (x:Td) (F:Fo),ds=x::F.nodes∧F.ok∧F.exs∧F.len=1∧((x.op=7∧q0x x.tx=true∧x.n=0)∨(x.op=8∧x.tx=⟨#[]⟩∧x.n=0))):=by
 obtain ⟨_,hn,he,ht⟩:=q2l h
 cases ds with
 | nil=>rw [z2f [] 0 0 (by simp)] at he;cases he
 | cons x r=>
  have hx:=hn x (by simp)
  simp only [j5h,Bool.and_eq_true,decide_eq_true_eq,List.all_eq_true] at ht
  rw [z1v,List.drop_zero,q4x,Option.map_map,Option.map_eq_some_iff] at he
  obtain ⟨j,hj,hj2⟩:=he
  simp only [Function.comp_apply,List.length_cons] at hj2
  have hjl:j=r.length:=by omega
  rw [Nat.add_zero,hjl] at hj
  obtain ⟨F,f1,f2,f3⟩:=v6c r.length r (kdT x) r.length (Nat.le_refl _) hj
  rw [List.take_length] at f3
  have hex:F.exs:=fun y hy=>by
   rw [f3] at hy
   exact ⟨hn y (by simp [hy]),ht.2 y hy⟩
  have hem:∀ s:ByteArray,¬ 0<s.size→s=⟨#[]⟩:=fun s hs=>by
   apply ByteArray.ext
   apply Array.toList_inj.1
   exact List.eq_nil_of_length_eq_zero (by have:=q0b s;simp only [btL] at this;omega)
  unfold q0n at hx
  split at hx
  ·cases hx
  ·rename_i h1
   split at hx
   ·cases hx
   ·split at hx
    ·cases hx
    ·rename_i h3
     have ho:x.op=7∨x.op=8∨x.op=9:=by omega
     rcases ho with ho | ho | ho
     ·have hk1:kdT x=1:=by unfold kdT;rw [ho];rfl
      rw [if_neg (by omega)] at hx
      split at hx
      ·cases hx
      ·rename_i h4
       refine .inr ⟨x,F,by rw [f3],f1,hex,by rw [f2,hk1],.inl ⟨ho,?_,by omega⟩⟩
       cases hnm:q0x x.tx with
       | true=>rfl
       | false=>exact absurd ⟨by rw [ho];rfl,hnm⟩ h4
     ·have hk1:kdT x=1:=by unfold kdT;rw [ho];rfl
      exact .inr ⟨x,F,by rw [f3],f1,hex,by rw [f2,hk1],.inr ⟨ho,hem _ (fun hh=>h3 (.inr ⟨by rw [ho];rfl,hh⟩)),by omega⟩⟩
     ·have hk0:kdT x=0:=by unfold kdT;rw [ho];rfl
      rw [if_pos ho] at hx
      have hF:F = .nil:=by
       cases F with
       | nil=>rfl
       | cons y k n=>rw [hk0] at f2;simp [Fo.len] at f2
      rw [hF] at f3
      exact .inl ⟨x,by rw [←f3];rfl,ho,by omega,hx⟩
def hdT (ks:List Tn):List UInt8:=match ks with
 | t::_=>t.tx
 | []=>[]
def hdK (ks:List Tn):List Wd:=match ks with
 | t::_=>t.tk
 | []=>[]
def stX (x:Td) (ks:List Tn):List UInt8:=
 if x.op=7 then [108,101,116,32]++btL x.tx++[32,61,32]++hdT ks++[59] else if x.op=8 then hdT ks++[59] else if x.tx.size=0 then [35] else [35,32]++btL x.tx
def stK (x:Td) (ks:List Tn):List Wd:=
 if x.op=7 then [108,101,116]::btL x.tx::[61]::(hdK ks++[[59]]) else if x.op=8 then hdK ks++[[59]] else [if x.tx.size=0 then [35] else [35,32]++btL x.tx]
def q3c (ds:List Td):List UInt8:=match k8y ds with
 | .nil=>[]
 | .cons x k _=>stX x k.trs
def q6c (ds:List Td):List Wd:=match k8y ds with
 | .nil=>[]
 | .cons x k _=>stK x k.trs
theorem v3z {x:Td} {F:Fo} (h:F.ok) (hl:F.len=kdT x):k8y (x::F.nodes) = .cons x F .nil:=by
 have h1:=k1o F .nil
 have h2:=k1m F .nil
 rw [z0s] at h1 h2
 rw [k8y,k5t F h,←hl,h1,h2]
theorem q6u {x:Td} {F:Fo} (h:F.ok) (hl:F.len=kdT x):q3c (x::F.nodes)=stX x F.trs∧q6c (x::F.nodes)=stK x F.trs:=by
 rw [q3c,q6c,v3z h hl]
 exact ⟨rfl,rfl⟩
def q2d (ps:List (List Td)):List UInt8:=ps.flatMap fun t=>q3c t++[10]
theorem z5g (t:List Td) (r:List (List Td)):q2d (t::r)=q3c t++[10]++q2d r:=by simp [q2d]
theorem k6z (r:List (List Td)) (t:List Td):q2d (r++[t])=q2d r++(q3c t++[10]):=by simp [q2d]
end Go.Proofs.YtchdplceopegoaaGreatDoor
namespace Go.Proofs.YtchdplceopegoaaGreatDoor
structure Nd where
 op:Int
 tx:ByteArray
 n:Int
def pts (op:Int):Nat:=if op=6∨op=9 then 2 else if op=7∨op=8 then 1 else 0
theorem v3s (op:Int):pts op≤2:=by unfold pts;split<;>(try split)<;>omega
def cnt:List Nd→Nat→Option Nat
 | _,0=>some 0
 | [],_+1=>none
 | x::r,m+1=>(cnt r (pts x.op+m)).map (· + 1)
theorem q7g (ds:List Nd):cnt ds 0=some 0:=by cases ds<;>rfl
theorem z0m (m:Nat):cnt [] (m+1)=none:=rfl
theorem q3u (x:Nd) (r:List Nd) (m:Nat):cnt (x::r) (m+1)=(cnt r (pts x.op+m)).map (· + 1):=rfl
theorem k9t:∀ (ds:List Nd) (m k:Nat),cnt ds m=some k→m≤k∧k≤ds.length
 | ds,0,k,h=>by rw [q7g] at h;cases h;simp
 | [],m+1,k,h=>by rw [z0m] at h;cases h
 | x::r,m+1,k,h=>by
  rw [q3u,Option.map_eq_some_iff] at h
  obtain ⟨j,h1,rfl⟩:=h
  have:=k9t r _ j h1
  simp
  omega
theorem k9s:∀ (ds:List Nd) (a b:Nat),cnt ds (a+b)=(cnt ds a).bind fun k=>(cnt (ds.drop k) b).map (k + ·)
 | ds,0,b=>by
  rw [q7g]
  simp
 | [],a+1,b=>by rw [show a+1+b=(a+b)+1 by omega,z0m,z0m];rfl
 | x::r,a+1,b=>by
  rw [show a+1+b=(a+b)+1 by omega,q3u,q3u,show pts x.op+(a+b)=(pts x.op+a)+b by omega,k9s r _ b]
  cases cnt r (pts x.op+a) with
  | none=>rfl
  | some k=>
   simp only [Option.bind_some,Option.map_some,List.drop_succ_cons]
   cases cnt (r.drop k) b with
   | none=>rfl
   | some j=>simp;omega
theorem k9u:∀ (ds:List Nd) (m k i:Nat),cnt ds m=some k→i<k→∃ m',cnt (ds.drop i) (m'+1)=some (k - i)
 | ds,0,k,i,h,hi=>by rw [q7g] at h;cases h;omega
 | [],m+1,k,i,h,hi=>by rw [z0m] at h;cases h
 | x::r,m+1,k,i,h,hi=>by
  cases i with
  | zero=>exact ⟨m,h⟩
  | succ i=>
   rw [q3u,Option.map_eq_some_iff] at h
   obtain ⟨j,h1,rfl⟩:=h
   obtain ⟨m',h2⟩:=k9u r _ j i h1 (by omega)
   exact ⟨m',by rw [List.drop_succ_cons,h2];congr 1;omega⟩
def q1k (ds:List Nd) (i m:Nat):Option Nat:=(cnt (ds.drop i) m).map (i + ·)
theorem k6f (ds:List Nd) (i:Nat):q1k ds i 0=some i:=by simp [q1k,q7g]
theorem j0l (ds:List Nd) (i m:Nat) (h:ds.length≤i):q1k ds i (m+1)=none:=by
 rw [q1k,List.drop_eq_nil_of_le h,z0m];rfl
theorem k6d (ds:List Nd) (i m:Nat) (h:i<ds.length):q1k ds i (m+1)=q1k ds (i+1) (pts ds[i].op+m):=by
 rw [q1k,List.drop_eq_getElem_cons h,q3u,q1k]
 cases cnt (ds.drop (i+1)) (pts ds[i].op+m) with
 | none=>rfl
 | some k=>simp;omega
theorem j8e {ds:List Nd} {i m j:Nat} (h:q1k ds i m=some j):i+m≤j∧(m=0∨j≤ds.length):=by
 rw [q1k,Option.map_eq_some_iff] at h
 obtain ⟨k,h1,rfl⟩:=h
 have h2:=k9t _ _ _ h1
 rw [List.length_drop] at h2
 omega
theorem j0k {ds:List Nd} {i:Nat} (h:q1k ds 0 1=some ds.length) (hi:i<ds.length):∃ j,q1k ds i 1=some j∧i<j∧j≤ds.length:=by
 rw [q1k,Option.map_eq_some_iff] at h
 obtain ⟨k,h1,h2⟩:=h
 have hk:k=ds.length:=by omega
 subst hk
 obtain ⟨m',h3⟩:=k9u _ _ _ i h1 hi
 rw [List.drop_zero,Nat.add_comm m' 1,k9s] at h3
 cases h4:cnt (ds.drop i) 1 with
 | none=>rw [h4] at h3;cases h3
 | some j=>
  have h5:q1k ds i 1=some (i+j):=by rw [q1k,h4];rfl
  have h6:=j8e h5
  exact ⟨i+j,h5,by omega,by omega⟩
def q4u (b:UInt8):Bool:=decide (32≤b.toNat) && decide (b.toNat≤126)
def isW (s:ByteArray):Bool:=decide (1≤s.size) && decide (s.size≤20) && s.data.toList.all q4u
def q0r (x:Nd):Int:=
 if x.op<1∨9<x.op then 1
 else if (x.op≠1∧x.tx.size≠0)∨(x.op≠7∧x.n≠0) then 2
 else if x.op=1∧isW x.tx=false then 5
 else if x.op=7∧(x.n<0∨8<x.n) then 1 else 0
def q7x:List Nd→Int
 | []=>0
 | x::r=>if q0r x=0 then q7x r else q0r x
def q2n (ds:List Nd):Int:=
 if 400<ds.length then 3 else if q7x ds=0 then (if q1k ds 0 1=some ds.length then 0 else 2) else q7x ds
theorem z0q:∀ (ds:List Nd),(∀ x∈ds,q0r x=0)→q7x ds=0
 | [],_=>rfl
 | x::r,h=>by rw [q7x,if_pos (h x (by simp)),z0q r fun y hy=>h y (by simp [hy])]
theorem z3a:∀ (ds:List Nd),q7x ds=0→∀ x∈ds,q0r x=0
 | [],_=>by simp
 | x::r,h=>by
  rw [q7x] at h
  split at h
  ·rename_i h0
   intro y hy
   rcases List.mem_cons.1 hy with rfl | hy
   ·exact h0
   ·exact z3a r h y hy
  ·rename_i h0
   exact absurd h h0
theorem z8q:∀ (ds:List Nd) (k:Nat) (h:k<ds.length),(∀ x∈ds.take k,q0r x=0)→q0r ds[k]≠0→q7x ds=q0r ds[k]
 | x::r,0,_,_,h=>by
  have h':q0r x≠0:=h
  rw [q7x,if_neg h'];rfl
 | x::r,k+1,hk,ha,h=>by
  rw [q7x,if_pos (ha x (by simp)),z8q r k (by simpa using hk) (fun y hy=>ha y (by simp [hy])) h]
  rfl
theorem q4y {ds:List Nd} (h:q2n ds=0):ds.length≤400∧(∀ x∈ds,q0r x=0)∧q1k ds 0 1=some ds.length:=by
 unfold q2n at h
 split at h
 ·cases h
 ·rename_i h1
  split at h
  ·rename_i h2
   split at h
   ·rename_i h3
    exact ⟨by omega,z3a ds h2,h3⟩
   ·cases h
  ·rename_i h2
   exact absurd h h2
theorem v5w {ds:List Nd} (h1:ds.length≤400) (h2:∀ x∈ds,q0r x=0) (h3:q1k ds 0 1=some ds.length):q2n ds=0:=by
 rw [q2n,if_neg (by omega),if_pos (z0q ds h2),if_pos h3]
inductive Tr where
 | leaf (x:Nd)
 | one (x:Nd) (a:Tr)
 | two (x:Nd) (a b:Tr)
def Tr.nodes:Tr→List Nd
 | .leaf x=>[x]
 | .one x a=>x::a.nodes
 | .two x a b=>x::(a.nodes++b.nodes)
def Tr.Wf:Tr→Prop
 | .leaf x=>q0r x=0∧pts x.op=0
 | .one x a=>q0r x=0∧pts x.op=1∧a.Wf
 | .two x a b=>q0r x=0∧pts x.op=2∧a.Wf∧b.Wf
theorem y2n:∀ (ds:List Nd) (m k:Nat),(∀ x∈ds,q0r x=0)→cnt ds m=some k→∃ ts:List Tr,ts.length=m∧(∀ t∈ts,t.Wf)∧ds.take k=(ts.map Tr.nodes).flatten
 | ds,0,k,_,h=>by rw [q7g] at h;cases h;exact ⟨[],rfl,by simp,by simp⟩
 | [],m+1,k,_,h=>by rw [z0m] at h;cases h
 | x::r,m+1,k,hn,h=>by
  rw [q3u,Option.map_eq_some_iff] at h
  obtain ⟨j,h1,rfl⟩:=h
  obtain ⟨ts,e1,e2,e3⟩:=y2n r _ j (fun y hy=>hn y (by simp [hy])) h1
  have hx:=hn x (by simp)
  have h012:pts x.op=0∨pts x.op=1∨pts x.op=2:=by have:=v3s x.op;omega
  rcases h012 with h0 | h0 | h0
  ·exact ⟨.leaf x::ts,by simp [e1,h0],by intro t ht;rcases List.mem_cons.1 ht with rfl | ht;exact ⟨hx,h0⟩;exact e2 t ht,by simp [Tr.nodes,e3]⟩
  ·match ts,e1,e2,e3 with
   | [],e1,_,_=>simp at e1;omega
   | a::ts,e1,e2,e3=>
    refine ⟨.one x a::ts,by simp at e1 ⊢;omega,?_,by simp [Tr.nodes,e3]⟩
    intro t ht
    rcases List.mem_cons.1 ht with rfl | ht
    ·exact ⟨hx,h0,e2 a (by simp)⟩
    ·exact e2 t (by simp [ht])
  ·match ts,e1,e2,e3 with
   | [],e1,_,_=>simp at e1;omega
   | [a],e1,_,_=>simp at e1;omega
   | a::b::ts,e1,e2,e3=>
    refine ⟨.two x a b::ts,by simp at e1 ⊢;omega,?_,by simp [Tr.nodes,e3]⟩
    intro t ht
    rcases List.mem_cons.1 ht with rfl | ht
    ·exact ⟨hx,h0,e2 a (by simp),e2 b (by simp)⟩
    ·exact e2 t (by simp [ht])
theorem z2b:∀ (t:Tr) (r:List Nd) (m:Nat),t.Wf→cnt (t.nodes++r) (m+1)=(cnt r m).map (t.nodes.length + ·)
 | .leaf x,r,m,h=>by
  simp only [Tr.nodes,List.cons_append,List.nil_append,q3u,h.2,Nat.zero_add,List.length_cons,List.length_nil]
  cases cnt r m<;>simp [Nat.add_comm]
 | .one x a,r,m,h=>by
  simp only [Tr.nodes,List.cons_append,q3u,h.2.1,Nat.add_comm 1 m,z2b a r m h.2.2,List.length_cons]
  cases cnt r m<;>simp;omega
 | .two x a b,r,m,h=>by
  simp only [Tr.nodes,List.cons_append,List.append_assoc,q3u,h.2.1,show 2+m=(m+1)+1 by omega,z2b a (b.nodes++r) (m+1) h.2.2.1,z2b b r m h.2.2.2,List.length_cons,List.length_append]
  cases cnt r m<;>simp;omega
theorem Tr.pos:∀ t:Tr,0<t.nodes.length
 | .leaf _=>by simp [Tr.nodes]
 | .one _ _=>by simp [Tr.nodes]
 | .two _ _ _=>by simp [Tr.nodes]
theorem k6e {ds:List Nd} {i:Nat} {t:Tr} {r:List Nd} (h:t.Wf) (hd:ds.drop i=t.nodes++r):q1k ds i 1=some (i+t.nodes.length):=by
 rw [q1k,hd,z2b t r 0 h,q7g];rfl
theorem j5j {ds:List Nd} {i j:Nat} (hn:∀ x∈ds,q0r x=0) (h:q1k ds i 1=some j):∃ t:Tr,t.Wf∧ds.drop i=t.nodes++ds.drop j∧j=i+t.nodes.length:=by
 rw [q1k,Option.map_eq_some_iff] at h
 obtain ⟨k,h1,rfl⟩:=h
 obtain ⟨ts,e1,e2,e3⟩:=y2n _ _ _ (fun x hx=>hn x (List.mem_of_mem_drop hx)) h1
 match ts,e1,e2,e3 with
 | [t],_,e2,e3=>
  have e4:(ds.drop i).take k=t.nodes:=by simpa using e3
  have e5:=k9t _ _ _ h1
  refine ⟨t,e2 t (by simp),?_,?_⟩
  ·rw [←e4,←List.drop_drop,List.take_append_drop]
  ·rw [←e4,List.length_take];omega
theorem z6g {ds:List Nd} (h:q2n ds=0):∃ t:Tr,t.Wf∧ds=t.nodes:=by
 obtain ⟨_,h2,h3⟩:=q4y h
 obtain ⟨t,ht,e1,e2⟩:=j5j h2 h3
 refine ⟨t,ht,?_⟩
 rw [List.drop_zero,List.drop_length,List.append_nil] at e1
 exact e1
theorem q9z {t:Tr} (h:t.Wf) (hl:t.nodes.length≤400):q2n t.nodes=0:=by
 refine v5w hl ?_ ?_
 ·clear hl
  induction t with
  | leaf x=>intro y hy;simp [Tr.nodes] at hy;subst hy;exact h.1
  | one x a ih=>
   intro y hy
   rcases List.mem_cons.1 hy with rfl | hy
   ·exact h.1
   ·exact ih h.2.2 y hy
  | two x a b ia ib=>
   intro y hy
   rcases List.mem_cons.1 hy with rfl | hy
   ·exact h.1
   ·rcases List.mem_append.1 hy with hy | hy
    ·exact ia h.2.2.1 y hy
    ·exact ib h.2.2.2 y hy
 ·have:=k6e (ds:=t.nodes) (i:=0) (r:=[]) h (by simp)
  simpa using this
theorem q1r {x:Nd} (h:q0r x=0):1≤x.op∧x.op≤9∧(x.op=1∨x.tx.size=0)∧(x.op=7∨x.n=0)∧(x.op=1→isW x.tx=true)∧(x.op=7→0≤x.n∧x.n≤8):=by
 unfold q0r at h
 split at h
 ·cases h
 split at h
 ·cases h
 split at h
 ·cases h
 split at h
 ·cases h
 rename_i h1 h2 h3 h4
 refine ⟨by omega,by omega,by omega,by omega,?_,by omega⟩
 intro h5
 cases h6:isW x.tx with
 | true=>rfl
 | false=>exact absurd ⟨h5,h6⟩ h3
theorem q3x {s:ByteArray} (h:isW s=true):1≤s.size∧s.size≤20:=by
 simp [isW] at h
 omega
theorem q0y (s:ByteArray):s.data.toList.length=s.size:=(Lib.size_eq s).symm
theorem q4r {x:Nd} (h:q0r x=0) (hp:pts x.op=0):x.op=1∨x.op=2∨x.op=3∨x.op=4∨x.op=5:=by
 have:=q1r h
 unfold pts at hp
 split at hp
 ·cases hp
 split at hp
 ·cases hp
 omega
theorem z1n {x:Nd} (hp:pts x.op=1):x.op=7∨x.op=8:=by
 unfold pts at hp
 split at hp
 ·cases hp
 split at hp
 ·omega
 ·cases hp
theorem z0b {x:Nd} (hp:pts x.op=2):x.op=6∨x.op=9:=by
 unfold pts at hp
 split at hp
 ·omega
 split at hp<;>cases hp
theorem z8f {a b:ByteArray} (h:a.data.toList=b.data.toList):a=b:=by
 cases a;cases b
 simp only [ByteArray.mk.injEq]
 exact Array.toList_inj.1 h
theorem z9y {a:ByteArray} (h:a.size=0):a=⟨#[]⟩:=z8f (by
 have:=q0y a
 rw [h] at this
 rw [List.eq_nil_of_length_eq_zero this])
def Tr.flat:Tr→Option (List UInt8)
 | .leaf x=>if x.op=1 then some x.tx.data.toList else if x.op=2 then some [32] else if x.op=4 then none else some []
 | .one _ a=>a.flat
 | .two x a b=>if x.op=6 then (match a.flat,b.flat with | some s,some t=>some (s++t) | _,_=>none) else a.flat
def Tr.line (t:Tr):ByteArray:=⟨(t.flat.getD []).toArray⟩
def Tr.isFlat (t:Tr):Bool:=t.flat.isSome
theorem z9d (t:Tr):t.line.data.toList=t.flat.getD []:=by simp [Tr.line]
theorem z9e (t:Tr):t.line.size=(t.flat.getD []).length:=by rw [←q0y,z9d]
theorem z3e:∀ t:Tr,t.Wf→(t.flat.getD []).length≤20*t.nodes.length
 | .leaf x,h=>by
  obtain ⟨_,_,_,_,h5,_⟩:=q1r h.1
  simp only [Tr.flat,Tr.nodes]
  split
  ·rename_i h1
   have:=q3x (h5 h1)
   have e:=q0y x.tx
   simp only [Option.getD_some,List.length_cons,List.length_nil]
   omega
  ·repeat' split
   all_goals simp
 | .one x a,h=>by
  have:=z3e a h.2.2
  simp only [Tr.flat,Tr.nodes,List.length_cons]
  omega
 | .two x a b,h=>by
  have h1:=z3e a h.2.2.1
  have h2:=z3e b h.2.2.2
  simp only [Tr.flat,Tr.nodes,List.length_cons,List.length_append]
  split
  ·cases ha:a.flat with
   | none=>simp
   | some s=>
    cases hb:b.flat with
    | none=>simp
    | some t=>
     rw [ha] at h1
     rw [hb] at h2
     simp only [Option.getD_some] at h1 h2 ⊢
     rw [List.length_append]
     omega
  ·omega
theorem q6k:∀ (t:Tr) (s:List UInt8),t.Wf→t.flat=some s→∀ b∈s,b≠10
 | .leaf x,s,h,e=>by
  obtain ⟨_,_,_,_,h5,_⟩:=q1r h.1
  simp only [Tr.flat] at e
  split at e
  ·rename_i h1
   cases e
   have hw:=h5 h1
   simp only [isW,Bool.and_eq_true,List.all_eq_true] at hw
   intro b hb hc
   have:=hw.2 b hb
   subst hc
   simp [q4u] at this
  ·split at e
   ·cases e;simp
   ·split at e
    ·cases e
    ·cases e;simp
 | .one x a,s,h,e=>q6k a s h.2.2 e
 | .two x a b,s,h,e=>by
  simp only [Tr.flat] at e
  split at e
  ·cases ha:a.flat with
   | none=>rw [ha] at e;cases e
   | some u=>
    cases hb:b.flat with
    | none=>rw [ha,hb] at e;cases e
    | some v=>
     rw [ha,hb] at e
     cases e
     intro c hc
     rcases List.mem_append.1 hc with hc | hc
     ·exact q6k a u h.2.2.1 ha c hc
     ·exact q6k b v h.2.2.2 hb c hc
  ·exact q6k a s h.2.2.1 e
def Tr.lay:Tr→Nat→List Int→Except Int (List UInt8 × List Int)
 | .leaf x,deep,ws=>if x.op=1 then .ok (x.tx.data.toList,ws) else if x.op=5 then .ok ([],ws) else .ok (10::List.replicate deep 32,ws)
 | .one x a,deep,ws=>
  if x.op=7 then a.lay (deep+x.n.toNat) ws
  else match ws with
   | []=>.error 2
   | c::ws=>if c=1 then a.lay deep ws else match a.flat with
    | none=>.error 4
    | some s=>.ok (s,ws)
 | .two x a b,deep,ws=>
  if x.op=6 then match a.lay deep ws with
   | .error e=>.error e
   | .ok (s,ws1)=>match b.lay deep ws1 with
    | .error e=>.error e
    | .ok (t,ws2)=>.ok (s++t,ws2)
  else match ws with
   | []=>.error 2
   | c::ws=>if c=0 then a.lay deep ws else b.lay deep ws
def Tr.ways:Tr→List (List Int)
 | .leaf _=>[[]]
 | .one x a=>if x.op=7 then a.ways else (if a.isFlat=true then [[0]] else [])++a.ways.map (1::·)
 | .two x a b=>if x.op=6 then a.ways.flatMap fun u=>b.ways.map (u++·) else a.ways.map (0::·)++b.ways.map (1::·)
def q1z (ws:List Int):Prop:=∀ c∈ws,c=0∨c=1
theorem z3w:∀ t:Tr,t.ways≠[]
 | .leaf _=>by simp [Tr.ways]
 | .one x a=>by
  simp only [Tr.ways]
  split
  ·exact z3w a
  ·have:=z3w a
   simp [this]
 | .two x a b=>by
  have h1:=z3w a
  have h2:=z3w b
  simp only [Tr.ways]
  split
  ·obtain ⟨u,us,e⟩:=List.exists_cons_of_ne_nil h1
   rw [e]
   simp [h2]
  ·simp [h1]
theorem q6y:∀ (t:Tr) (u:List Int),u∈t.ways→q1z u
 | .leaf _,u,h=>by simp [Tr.ways] at h;subst h;simp [q1z]
 | .one x a,u,h=>by
  simp only [Tr.ways] at h
  split at h
  ·exact q6y a u h
  ·rcases List.mem_append.1 h with h | h
   ·split at h
    ·simp at h;subst h;simp [q1z]
    ·simp at h
   ·obtain ⟨v,hv,rfl⟩:=List.mem_map.1 h
    have:=q6y a v hv
    intro c hc
    rcases List.mem_cons.1 hc with rfl | hc
    ·exact .inr rfl
    ·exact this c hc
 | .two x a b,u,h=>by
  simp only [Tr.ways] at h
  split at h
  ·obtain ⟨p,hp,hpq⟩:=List.mem_flatMap.1 h
   obtain ⟨q,hq,rfl⟩:=List.mem_map.1 hpq
   have h1:=q6y a p hp
   have h2:=q6y b q hq
   intro c hc
   rcases List.mem_append.1 hc with hc | hc
   ·exact h1 c hc
   ·exact h2 c hc
  ·rcases List.mem_append.1 h with h | h
   ·obtain ⟨v,hv,rfl⟩:=List.mem_map.1 h
    have:=q6y a v hv
    intro c hc
    rcases List.mem_cons.1 hc with rfl | hc
    ·exact .inl rfl
    ·exact this c hc
   ·obtain ⟨v,hv,rfl⟩:=List.mem_map.1 h
    have:=q6y b v hv
    intro c hc
    rcases List.mem_cons.1 hc with rfl | hc
    ·exact .inr rfl
    ·exact this c hc
theorem q5w:∀ (t:Tr) (deep:Nat) (u r:List Int),u∈t.ways→∃ s,t.lay deep (u++r) = .ok (s,r)
 | .leaf x,deep,u,r,h=>by
  simp [Tr.ways] at h
  subst h
  simp only [Tr.lay,List.nil_append]
  split
  ·exact ⟨_,rfl⟩
  ·split
   ·exact ⟨_,rfl⟩
   ·exact ⟨_,rfl⟩
 | .one x a,deep,u,r,h=>by
  simp only [Tr.ways] at h
  simp only [Tr.lay]
  split at h
  ·rename_i h7
   rw [if_pos h7]
   exact q5w a _ u r h
  ·rename_i h7
   rw [if_neg h7]
   rcases List.mem_append.1 h with h | h
   ·split at h
    ·rename_i hf
     simp at h
     subst h
     simp only [List.cons_append,List.nil_append]
     rw [if_neg (by decide)]
     rw [Tr.isFlat] at hf
     cases hfl:a.flat with
     | none=>rw [hfl] at hf;cases hf
     | some s=>exact ⟨s,rfl⟩
    ·simp at h
   ·obtain ⟨v,hv,rfl⟩:=List.mem_map.1 h
    simp only [List.cons_append,if_pos]
    exact q5w a deep v r hv
 | .two x a b,deep,u,r,h=>by
  simp only [Tr.ways] at h
  simp only [Tr.lay]
  split at h
  ·rename_i h6
   rw [if_pos h6]
   obtain ⟨p,hp,hpq⟩:=List.mem_flatMap.1 h
   obtain ⟨q,hq,rfl⟩:=List.mem_map.1 hpq
   obtain ⟨s1,e1⟩:=q5w a deep p (q++r) hp
   obtain ⟨s2,e2⟩:=q5w b deep q r hq
   rw [List.append_assoc,e1]
   simp only [e2]
   exact ⟨_,rfl⟩
  ·rename_i h6
   rw [if_neg h6]
   rcases List.mem_append.1 h with h | h
   ·obtain ⟨v,hv,rfl⟩:=List.mem_map.1 h
    simp only [List.cons_append,if_pos]
    exact q5w a deep v r hv
   ·obtain ⟨v,hv,rfl⟩:=List.mem_map.1 h
    simp only [List.cons_append]
    rw [if_neg (by decide)]
    exact q5w b deep v r hv
theorem q4l:∀ (t:Tr) (deep:Nat) (ws r:List Int) (s:List UInt8),q1z ws→t.lay deep ws = .ok (s,r)→∃ u∈t.ways,ws=u++r
 | .leaf x,deep,ws,r,s,_,h=>by
  refine ⟨[],by simp [Tr.ways],?_⟩
  simp only [Tr.lay] at h
  split at h
  ·cases h;rfl
  ·split at h
   ·cases h;rfl
   ·cases h;rfl
 | .one x a,deep,ws,r,s,h0,h=>by
  simp only [Tr.lay] at h
  simp only [Tr.ways]
  split at h
  ·rename_i h7
   rw [if_pos h7]
   exact q4l a _ ws r s h0 h
  ·rename_i h7
   rw [if_neg h7]
   match ws,h0,h with
   | [],_,h=>cases h
   | c::ws,h0,h=>
    simp only at h
    split at h
    ·rename_i h1
     subst h1
     obtain ⟨u,hu,e⟩:=q4l a deep ws r s (fun d hd=>h0 d (by simp [hd])) h
     exact ⟨1::u,List.mem_append.2 (.inr (List.mem_map.2 ⟨u,hu,rfl⟩)),by rw [e];rfl⟩
    ·rename_i h1
     have hc:c=0:=by have:=h0 c (by simp);omega
     subst hc
     cases hf:a.flat with
     | none=>rw [hf] at h;cases h
     | some v=>
      rw [hf] at h
      cases h
      refine ⟨[0],List.mem_append.2 (.inl ?_),rfl⟩
      rw [if_pos (by rw [Tr.isFlat,hf];rfl)]
      simp
 | .two x a b,deep,ws,r,s,h0,h=>by
  simp only [Tr.lay] at h
  simp only [Tr.ways]
  split at h
  ·rename_i h6
   rw [if_pos h6]
   cases ha:a.lay deep ws with
   | error e=>rw [ha] at h;cases h
   | ok p=>
    obtain ⟨s1,ws1⟩:=p
    rw [ha] at h
    simp only at h
    cases hb:b.lay deep ws1 with
    | error e=>rw [hb] at h;cases h
    | ok q=>
     obtain ⟨s2,ws2⟩:=q
     rw [hb] at h
     cases h
     obtain ⟨u,hu,e1⟩:=q4l a deep ws ws1 s1 h0 ha
     obtain ⟨v,hv,e2⟩:=q4l b deep ws1 r s2 (fun d hd=>h0 d (by rw [e1];simp [hd])) hb
     exact ⟨u++v,List.mem_flatMap.2 ⟨u,hu,List.mem_map.2 ⟨v,hv,rfl⟩⟩,by rw [e1,e2,List.append_assoc]⟩
  ·rename_i h6
   rw [if_neg h6]
   match ws,h0,h with
   | [],_,h=>cases h
   | c::ws,h0,h=>
    simp only at h
    split at h
    ·rename_i h1
     subst h1
     obtain ⟨u,hu,e⟩:=q4l a deep ws r s (fun d hd=>h0 d (by simp [hd])) h
     exact ⟨0::u,List.mem_append.2 (.inl (List.mem_map.2 ⟨u,hu,rfl⟩)),by rw [e];rfl⟩
    ·rename_i h1
     have hc:c=1:=by have:=h0 c (by simp);omega
     subst hc
     obtain ⟨u,hu,e⟩:=q4l b deep ws r s (fun d hd=>h0 d (by simp [hd])) h
     exact ⟨1::u,List.mem_append.2 (.inr (List.mem_map.2 ⟨u,hu,rfl⟩)),by rw [e];rfl⟩
def Tr.show (t:Tr) (ws:List Int):Except Int (List UInt8):=
 if ws.all (fun c=>c == 0 || c == 1)=true then match t.lay 0 ws with
  | .error e=>.error e
  | .ok (s,[])=>.ok s
  | .ok (_,_::_)=>.error 2
 else .error 1
theorem k8l {ws:List Int}:ws.all (fun c=>c == 0 || c == 1)=true↔q1z ws:=by
 simp [q1z]
theorem j4m (t:Tr) (ws:List Int):(∃ s,t.show ws = .ok s)↔ws∈t.ways:=by
 constructor
 ·rintro ⟨s,h⟩
  unfold Tr.show at h
  split at h
  ·rename_i h0
   cases hl:t.lay 0 ws with
   | error e=>rw [hl] at h;cases h
   | ok p=>
    obtain ⟨u,r⟩:=p
    rw [hl] at h
    cases r with
    | cons c r=>cases h
    | nil=>
     obtain ⟨v,hv,e⟩:=q4l t 0 ws [] u (k8l.1 h0) hl
     rw [List.append_nil] at e
     rw [e];exact hv
  ·cases h
 ·intro h
  obtain ⟨s,hs⟩:=q5w t 0 ws [] h
  rw [List.append_nil] at hs
  refine ⟨s,?_⟩
  unfold Tr.show
  rw [if_pos (k8l.2 (q6y t ws h)),hs]
def q2i:List Int→List Int→Prop
 | a::al,b::bs=>if a=b then q2i al bs else a<b
 | _,_=>False
theorem z2q:∀ (u v r s:List Int),q2i u v→q2i (u++r) (v++s)
 | a::al,b::bs,r,s,h=>by
  simp only [List.cons_append,q2i] at h ⊢
  split
  ·rename_i e;rw [if_pos e] at h;exact z2q al bs r s h
  ·rename_i e;rw [if_neg e] at h;exact h
theorem z4k:∀ (u r s:List Int),q2i r s→q2i (u++r) (u++s)
 | [],r,s,h=>h
 | a::u,r,s,h=>by simp only [List.cons_append,q2i,if_pos];exact z4k u r s h
theorem q9p {α β:Type} {R:β→β→Prop} (f:α→List β):∀ l:List α,(∀ x∈l,(f x).Pairwise R)→l.Pairwise (fun x y=>∀ p∈f x,∀ q∈f y,R p q)→(l.flatMap f).Pairwise R
 | [],_,_=>List.Pairwise.nil
 | x::l,h1,h2=>by
  rw [List.flatMap_cons]
  rw [List.pairwise_cons] at h2
  refine List.pairwise_append.2 ⟨h1 x (by simp),q9p f l (fun y hy=>h1 y (by simp [hy])) h2.2,?_⟩
  intro p hp q hq
  obtain ⟨y,hy,hq⟩:=List.mem_flatMap.1 hq
  exact h2.1 y hy p hp q hq
theorem z0c:∀ t:Tr,t.ways.Pairwise q2i
 | .leaf _=>by simp [Tr.ways]
 | .one x a=>by
  simp only [Tr.ways]
  have ih:=z0c a
  split
  ·exact ih
  ·refine List.pairwise_append.2 ⟨?_,?_,?_⟩
   ·split<;>simp
   ·exact List.pairwise_map.2 (ih.imp fun h=>by simp only [q2i,if_pos];exact h)
   ·intro p hp q hq
    split at hp
    ·simp at hp
     subst hp
     obtain ⟨v,_,rfl⟩:=List.mem_map.1 hq
     simp [q2i]
    ·simp at hp
 | .two x a b=>by
  simp only [Tr.ways]
  have ia:=z0c a
  have ib:=z0c b
  split
  ·refine q9p _ _ ?_ ?_
   ·intro u _
    exact List.pairwise_map.2 (ib.imp fun h=>z4k u _ _ h)
   ·refine ia.imp ?_
    intro u v h p hp q hq
    obtain ⟨r,_,rfl⟩:=List.mem_map.1 hp
    obtain ⟨s,_,rfl⟩:=List.mem_map.1 hq
    exact z2q u v r s h
  ·refine List.pairwise_append.2 ⟨?_,?_,?_⟩
   ·exact List.pairwise_map.2 (ia.imp fun h=>by simp only [q2i,if_pos];exact h)
   ·exact List.pairwise_map.2 (ib.imp fun h=>by simp only [q2i,if_pos];exact h)
   ·intro p hp q hq
    obtain ⟨u,_,rfl⟩:=List.mem_map.1 hp
    obtain ⟨v,_,rfl⟩:=List.mem_map.1 hq
    simp [q2i]
theorem j6g {x:Nd} (h:q0r x=0) (h1:x.op=1):∀ b∈x.tx.data.toList,b≠10:=by
 obtain ⟨_,_,_,_,h5,_⟩:=q1r h
 have hw:=h5 h1
 simp only [isW,Bool.and_eq_true,List.all_eq_true] at hw
 intro b hb hc
 have:=hw.2 b hb
 subst hc
 simp [q4u] at this
end Go.Proofs.YtchdplceopegoaaGreatDoor
