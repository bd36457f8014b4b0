/- Texts as one: SynL, SynS, DocP, FlatP, WayP. -/
/- Texts as one: LayP, LayQ, TreF, LayR, SynK. -/
import Derived.Test.YtchdplceopegoaaGreatDoorPs00
namespace Go.Proofs.YtchdplceopegoaaGreatDoor
open Go
theorem k3i (l:Nat) (t:Tn):(brx l t).length≤t.tx.length+2:=by
 unfold brx
 split
 ·simp
 ·omega
theorem v2p:∀ ks:List Tn,(∀ t∈ks,t.tx.length+4≤16*t.ns.length)→(cmx ks).length≤16*(ks.flatMap (·.ns)).length
 | [],_=>by simp [cmx]
 | [t],h=>by
  have:=h t (by simp)
  simp [cmx];omega
 | t::u::r,h=>by
  have h1:=h t (by simp)
  have h2:=v2p (u::r) (fun x hx=>h x (by simp [hx]))
  rw [cmx,List.flatMap_cons,List.length_append,List.length_append]
  simp only [List.length_cons]
  omega
theorem q1u {s:ByteArray} (h:q0x s=true):(btL s).length≤8:=by
 unfold q0x at h
 simp only [Bool.and_eq_true,decide_eq_true_eq] at h
 rw [q0b]
 exact h.1.1.2
theorem j5r:∀ F:Fo,F.ok→F.exs→∀ t∈F.trs,t.tx.length+4≤16*t.ns.length
 | .nil,_,_,t,ht=>by cases ht
 | .cons x k n,hok,hex,t,ht=>by
  have hexk:k.exs:=fun y hy=>hex y (by simp [Fo.nodes,hy])
  have hexn:n.exs:=fun y hy=>hex y (by simp [Fo.nodes,hy])
  have ihk:=j5r k hok.2.1 hexk
  rw [Fo.trs] at ht
  rcases List.mem_cons.1 ht with rfl | ht
  ·have hlen:k.trs.length=kdT x:=by rw [q3e];exact hok.1
   have hc:=v2p k.trs ihk
   rcases q2e (hex x (by simp [Fo.nodes])) with ⟨ho,htx,hn0,hn1,hk⟩ | ⟨ho,hnm,hn0,hk⟩ | ⟨ho,hnm,hn0,hn1,hk⟩ | ⟨ho,htx,hn0,hn1,hk⟩ | ⟨ho,htx,hn0,hk⟩ | ⟨ho,htx,hn0,hk⟩
   ·have:=q9c 5 x.n.toNat (by omega)
    simp [q0m,q2w,ho];omega
   ·have:=q1u hnm
    simp only [q0m,q2w,ho]
    simp at this ⊢;omega
   ·have:=q1u hnm
    simp only [q0m,q2w,ho]
    simp at this hc ⊢;omega
   ·simp only [q0m,q2w,ho]
    simp at hc ⊢;omega
   ·obtain ⟨a,b,hab⟩:=v9o (hlen.trans hk)
    rw [hab] at ihk ⊢
    have h1:=ihk a (by simp)
    have h2:=ihk b (by simp)
    have h3:=k3i 0 a
    have h4:=k3i 1 b
    simp [q0m,q2w,ho,two2];omega
   ·obtain ⟨a,b,hab⟩:=v9o (hlen.trans hk)
    rw [hab] at ihk ⊢
    have h1:=ihk a (by simp)
    have h2:=ihk b (by simp)
    have h3:=k3i 1 a
    have h4:=k3i 2 b
    simp [q0m,q2w,ho,two2];omega
  ·exact j5r n hok.2.2 hexn t ht
def Fo.tk:Nat→Fo→Fo
 | 0,_=>.nil
 | _+1,.nil=>.nil
 | k+1,.cons x a n=>.cons x a (Fo.tk k n)
def Fo.dp:Nat→Fo→Fo
 | 0,f=>f
 | _+1,.nil=>.nil
 | k+1,.cons _ _ n=>Fo.dp k n
theorem k1o:∀ f g:Fo,Fo.tk f.len (f.app g)=f
 | .nil,g=>by cases g<;>rfl
 | .cons x k n,g=>by simp only [Fo.len,Fo.app,Fo.tk,k1o n g]
theorem k1m:∀ f g:Fo,Fo.dp f.len (f.app g)=g
 | .nil,g=>by cases g<;>rfl
 | .cons x k n,g=>by simp only [Fo.len,Fo.app,Fo.dp,k1m n g]
theorem z0s:∀ f:Fo,f.app .nil=f
 | .nil=>rfl
 | .cons x k n=>by simp only [Fo.app,z0s n]
def k8y:List Td→Fo
 | []=>.nil
 | x::r=>.cons x (Fo.tk (kdT x) (k8y r)) (Fo.dp (kdT x) (k8y r))
theorem z5y:∀ (F:Fo),F.ok→∀ r,k8y (F.nodes++r)=F.app (k8y r)
 | .nil,_,r=>rfl
 | .cons x k n,h,r=>by
  have e1:=z5y n h.2.2 r
  have e2:=z5y k h.2.1 (n.nodes++r)
  rw [Fo.nodes,List.cons_append,List.append_assoc,k8y,e2,e1,←h.1,k1o,k1m]
  rfl
theorem k5t (F:Fo) (h:F.ok):k8y F.nodes=F:=by
 have:=z5y F h []
 rw [List.append_nil] at this
 rw [this]
 exact z0s F
theorem q2g {ds:List Td} (h:q0c ds=0):(∃ x,ds=[x]∧x.op=9∧x.n=0∧q2u x.tx=0)∨
  (∃ (x:Td) (F:Fo),ds=x::F.nodes∧F.ok∧F.exs∧F.len=1∧((x.op=7∧q0x x.tx=true∧x.n=0)∨(x.op=8∧x.tx=⟨#[]⟩∧x.n=0))):=by
 obtain ⟨_,hn,he,ht⟩:=q2l h
 cases ds with
 | nil=>rw [z2f [] 0 0 (by simp)] at he;cases he
 | cons x r=>
  have hx:=hn x (by simp)
  simp only [j5h,Bool.and_eq_true,decide_eq_true_eq,List.all_eq_true] at ht
  rw [z1v,List.drop_zero,q4x,Option.map_map,Option.map_eq_some_iff] at he
  obtain ⟨j,hj,hj2⟩:=he
  simp only [Function.comp_apply,List.length_cons] at hj2
  have hjl:j=r.length:=by omega
  rw [Nat.add_zero,hjl] at hj
  obtain ⟨F,f1,f2,f3⟩:=v6c r.length r (kdT x) r.length (Nat.le_refl _) hj
  rw [List.take_length] at f3
  have hex:F.exs:=fun y hy=>by
   rw [f3] at hy
   exact ⟨hn y (by simp [hy]),ht.2 y hy⟩
  have hem:∀ s:ByteArray,¬ 0<s.size→s=⟨#[]⟩:=fun s hs=>by
   apply ByteArray.ext
   apply Array.toList_inj.1
   exact List.eq_nil_of_length_eq_zero (by have:=q0b s;simp only [btL] at this;omega)
  unfold q0n at hx
  split at hx
  ·cases hx
  ·rename_i h1
   split at hx
   ·cases hx
   ·split at hx
    ·cases hx
    ·rename_i h3
     have ho:x.op=7∨x.op=8∨x.op=9:=by omega
     rcases ho with ho | ho | ho
     ·have hk1:kdT x=1:=by unfold kdT;rw [ho];rfl
      rw [if_neg (by omega)] at hx
      split at hx
      ·cases hx
      ·rename_i h4
       refine .inr ⟨x,F,by rw [f3],f1,hex,by rw [f2,hk1],.inl ⟨ho,?_,by omega⟩⟩
       cases hnm:q0x x.tx with
       | true=>rfl
       | false=>exact absurd ⟨by rw [ho];rfl,hnm⟩ h4
     ·have hk1:kdT x=1:=by unfold kdT;rw [ho];rfl
      exact .inr ⟨x,F,by rw [f3],f1,hex,by rw [f2,hk1],.inr ⟨ho,hem _ (fun hh=>h3 (.inr ⟨by rw [ho];rfl,hh⟩)),by omega⟩⟩
     ·have hk0:kdT x=0:=by unfold kdT;rw [ho];rfl
      rw [if_pos ho] at hx
      have hF:F = .nil:=by
       cases F with
       | nil=>rfl
       | cons y k n=>rw [hk0] at f2;simp [Fo.len] at f2
      rw [hF] at f3
      exact .inl ⟨x,by rw [←f3];rfl,ho,by omega,hx⟩
def hdT (ks:List Tn):List UInt8:=match ks with
 | t::_=>t.tx
 | []=>[]
def hdK (ks:List Tn):List Wd:=match ks with
 | t::_=>t.tk
 | []=>[]
def stX (x:Td) (ks:List Tn):List UInt8:=
 if x.op=7 then [108,101,116,32]++btL x.tx++[32,61,32]++hdT ks++[59] else if x.op=8 then hdT ks++[59] else if x.tx.size=0 then [35] else [35,32]++btL x.tx
def stK (x:Td) (ks:List Tn):List Wd:=
 if x.op=7 then [108,101,116]::btL x.tx::[61]::(hdK ks++[[59]]) else if x.op=8 then hdK ks++[[59]] else [if x.tx.size=0 then [35] else [35,32]++btL x.tx]
def q3c (ds:List Td):List UInt8:=match k8y ds with
 | .nil=>[]
 | .cons x k _=>stX x k.trs
def q6c (ds:List Td):List Wd:=match k8y ds with
 | .nil=>[]
 | .cons x k _=>stK x k.trs
theorem v3z {x:Td} {F:Fo} (h:F.ok) (hl:F.len=kdT x):k8y (x::F.nodes) = .cons x F .nil:=by
 have h1:=k1o F .nil
 have h2:=k1m F .nil
 rw [z0s] at h1 h2
 rw [k8y,k5t F h,←hl,h1,h2]
theorem q6u {x:Td} {F:Fo} (h:F.ok) (hl:F.len=kdT x):q3c (x::F.nodes)=stX x F.trs∧q6c (x::F.nodes)=stK x F.trs:=by
 rw [q3c,q6c,v3z h hl]
 exact ⟨rfl,rfl⟩
def q2d (ps:List (List Td)):List UInt8:=ps.flatMap fun t=>q3c t++[10]
theorem z5g (t:List Td) (r:List (List Td)):q2d (t::r)=q3c t++[10]++q2d r:=by simp [q2d]
theorem k6z (r:List (List Td)) (t:List Td):q2d (r++[t])=q2d r++(q3c t++[10]):=by simp [q2d]
end Go.Proofs.YtchdplceopegoaaGreatDoor
namespace Go.Proofs.YtchdplceopegoaaGreatDoor
structure Nd where
 op:Int
 tx:ByteArray
 n:Int
def pts (op:Int):Nat:=if op=6∨op=9 then 2 else if op=7∨op=8 then 1 else 0
theorem v3s (op:Int):pts op≤2:=by unfold pts;split<;>(try split)<;>omega
def cnt:List Nd→Nat→Option Nat
 | _,0=>some 0
 | [],_+1=>none
 | x::r,m+1=>(cnt r (pts x.op+m)).map (· + 1)
theorem q7g (ds:List Nd):cnt ds 0=some 0:=by cases ds<;>rfl
theorem z0m (m:Nat):cnt [] (m+1)=none:=rfl
theorem q3u (x:Nd) (r:List Nd) (m:Nat):cnt (x::r) (m+1)=(cnt r (pts x.op+m)).map (· + 1):=rfl
theorem k9t:∀ (ds:List Nd) (m k:Nat),cnt ds m=some k→m≤k∧k≤ds.length
 | ds,0,k,h=>by rw [q7g] at h;cases h;simp
 | [],m+1,k,h=>by rw [z0m] at h;cases h
 | x::r,m+1,k,h=>by
  rw [q3u,Option.map_eq_some_iff] at h
  obtain ⟨j,h1,rfl⟩:=h
  have:=k9t r _ j h1
  simp
  omega
theorem k9s:∀ (ds:List Nd) (a b:Nat),cnt ds (a+b)=(cnt ds a).bind fun k=>(cnt (ds.drop k) b).map (k + ·)
 | ds,0,b=>by
  rw [q7g]
  simp
 | [],a+1,b=>by rw [show a+1+b=(a+b)+1 by omega,z0m,z0m];rfl
 | x::r,a+1,b=>by
  rw [show a+1+b=(a+b)+1 by omega,q3u,q3u,show pts x.op+(a+b)=(pts x.op+a)+b by omega,k9s r _ b]
  cases cnt r (pts x.op+a) with
  | none=>rfl
  | some k=>
   simp only [Option.bind_some,Option.map_some,List.drop_succ_cons]
   cases cnt (r.drop k) b with
   | none=>rfl
   | some j=>simp;omega
theorem k9u:∀ (ds:List Nd) (m k i:Nat),cnt ds m=some k→i<k→∃ m',cnt (ds.drop i) (m'+1)=some (k - i)
 | ds,0,k,i,h,hi=>by rw [q7g] at h;cases h;omega
 | [],m+1,k,i,h,hi=>by rw [z0m] at h;cases h
 | x::r,m+1,k,i,h,hi=>by
  cases i with
  | zero=>exact ⟨m,h⟩
  | succ i=>
   rw [q3u,Option.map_eq_some_iff] at h
   obtain ⟨j,h1,rfl⟩:=h
   obtain ⟨m',h2⟩:=k9u r _ j i h1 (by omega)
   exact ⟨m',by rw [List.drop_succ_cons,h2];congr 1;omega⟩
def q1k (ds:List Nd) (i m:Nat):Option Nat:=(cnt (ds.drop i) m).map (i + ·)
theorem k6f (ds:List Nd) (i:Nat):q1k ds i 0=some i:=by simp [q1k,q7g]
theorem j0l (ds:List Nd) (i m:Nat) (h:ds.length≤i):q1k ds i (m+1)=none:=by
 rw [q1k,List.drop_eq_nil_of_le h,z0m];rfl
theorem k6d (ds:List Nd) (i m:Nat) (h:i<ds.length):q1k ds i (m+1)=q1k ds (i+1) (pts ds[i].op+m):=by
 rw [q1k,List.drop_eq_getElem_cons h,q3u,q1k]
 cases cnt (ds.drop (i+1)) (pts ds[i].op+m) with
 | none=>rfl
 | some k=>simp;omega
theorem j8e {ds:List Nd} {i m j:Nat} (h:q1k ds i m=some j):i+m≤j∧(m=0∨j≤ds.length):=by
 rw [q1k,Option.map_eq_some_iff] at h
 obtain ⟨k,h1,rfl⟩:=h
 have h2:=k9t _ _ _ h1
 rw [List.length_drop] at h2
 omega
theorem j0k {ds:List Nd} {i:Nat} (h:q1k ds 0 1=some ds.length) (hi:i<ds.length):∃ j,q1k ds i 1=some j∧i<j∧j≤ds.length:=by
 rw [q1k,Option.map_eq_some_iff] at h
 obtain ⟨k,h1,h2⟩:=h
 have hk:k=ds.length:=by omega
 subst hk
 obtain ⟨m',h3⟩:=k9u _ _ _ i h1 hi
 rw [List.drop_zero,Nat.add_comm m' 1,k9s] at h3
 cases h4:cnt (ds.drop i) 1 with
 | none=>rw [h4] at h3;cases h3
 | some j=>
  have h5:q1k ds i 1=some (i+j):=by rw [q1k,h4];rfl
  have h6:=j8e h5
  exact ⟨i+j,h5,by omega,by omega⟩
def q4u (b:UInt8):Bool:=decide (32≤b.toNat) && decide (b.toNat≤126)
def isW (s:ByteArray):Bool:=decide (1≤s.size) && decide (s.size≤20) && s.data.toList.all q4u
def q0r (x:Nd):Int:=
 if x.op<1∨9<x.op then 1
 else if (x.op≠1∧x.tx.size≠0)∨(x.op≠7∧x.n≠0) then 2
 else if x.op=1∧isW x.tx=false then 5
 else if x.op=7∧(x.n<0∨8<x.n) then 1 else 0
def q7x:List Nd→Int
 | []=>0
 | x::r=>if q0r x=0 then q7x r else q0r x
def q2n (ds:List Nd):Int:=
 if 400<ds.length then 3 else if q7x ds=0 then (if q1k ds 0 1=some ds.length then 0 else 2) else q7x ds
theorem z0q:∀ (ds:List Nd),(∀ x∈ds,q0r x=0)→q7x ds=0
 | [],_=>rfl
 | x::r,h=>by rw [q7x,if_pos (h x (by simp)),z0q r fun y hy=>h y (by simp [hy])]
theorem z3a:∀ (ds:List Nd),q7x ds=0→∀ x∈ds,q0r x=0
 | [],_=>by simp
 | x::r,h=>by
  rw [q7x] at h
  split at h
  ·rename_i h0
   intro y hy
   rcases List.mem_cons.1 hy with rfl | hy
   ·exact h0
   ·exact z3a r h y hy
  ·rename_i h0
   exact absurd h h0
theorem z8q:∀ (ds:List Nd) (k:Nat) (h:k<ds.length),(∀ x∈ds.take k,q0r x=0)→q0r ds[k]≠0→q7x ds=q0r ds[k]
 | x::r,0,_,_,h=>by
  have h':q0r x≠0:=h
  rw [q7x,if_neg h'];rfl
 | x::r,k+1,hk,ha,h=>by
  rw [q7x,if_pos (ha x (by simp)),z8q r k (by simpa using hk) (fun y hy=>ha y (by simp [hy])) h]
  rfl
theorem q4y {ds:List Nd} (h:q2n ds=0):ds.length≤400∧(∀ x∈ds,q0r x=0)∧q1k ds 0 1=some ds.length:=by
 unfold q2n at h
 split at h
 ·cases h
 ·rename_i h1
  split at h
  ·rename_i h2
   split at h
   ·rename_i h3
    exact ⟨by omega,z3a ds h2,h3⟩
   ·cases h
  ·rename_i h2
   exact absurd h h2
theorem v5w {ds:List Nd} (h1:ds.length≤400) (h2:∀ x∈ds,q0r x=0) (h3:q1k ds 0 1=some ds.length):q2n ds=0:=by
 rw [q2n,if_neg (by omega),if_pos (z0q ds h2),if_pos h3]
inductive Tr where
 | leaf (x:Nd)
 | one (x:Nd) (a:Tr)
 | two (x:Nd) (a b:Tr)
def Tr.nodes:Tr→List Nd
 | .leaf x=>[x]
 | .one x a=>x::a.nodes
 | .two x a b=>x::(a.nodes++b.nodes)
def Tr.Wf:Tr→Prop
 | .leaf x=>q0r x=0∧pts x.op=0
 | .one x a=>q0r x=0∧pts x.op=1∧a.Wf
 | .two x a b=>q0r x=0∧pts x.op=2∧a.Wf∧b.Wf
theorem y2n:∀ (ds:List Nd) (m k:Nat),(∀ x∈ds,q0r x=0)→cnt ds m=some k→∃ ts:List Tr,ts.length=m∧(∀ t∈ts,t.Wf)∧ds.take k=(ts.map Tr.nodes).flatten
 | ds,0,k,_,h=>by rw [q7g] at h;cases h;exact ⟨[],rfl,by simp,by simp⟩
 | [],m+1,k,_,h=>by rw [z0m] at h;cases h
 | x::r,m+1,k,hn,h=>by
  rw [q3u,Option.map_eq_some_iff] at h
  obtain ⟨j,h1,rfl⟩:=h
  obtain ⟨ts,e1,e2,e3⟩:=y2n r _ j (fun y hy=>hn y (by simp [hy])) h1
  have hx:=hn x (by simp)
  have h012:pts x.op=0∨pts x.op=1∨pts x.op=2:=by have:=v3s x.op;omega
  rcases h012 with h0 | h0 | h0
  ·exact ⟨.leaf x::ts,by simp [e1,h0],by intro t ht;rcases List.mem_cons.1 ht with rfl | ht;exact ⟨hx,h0⟩;exact e2 t ht,by simp [Tr.nodes,e3]⟩
  ·match ts,e1,e2,e3 with
   | [],e1,_,_=>simp at e1;omega
   | a::ts,e1,e2,e3=>
    refine ⟨.one x a::ts,by simp at e1 ⊢;omega,?_,by simp [Tr.nodes,e3]⟩
    intro t ht
    rcases List.mem_cons.1 ht with rfl | ht
    ·exact ⟨hx,h0,e2 a (by simp)⟩
    ·exact e2 t (by simp [ht])
  ·match ts,e1,e2,e3 with
   | [],e1,_,_=>simp at e1;omega
   | [a],e1,_,_=>simp at e1;omega
   | a::b::ts,e1,e2,e3=>
    refine ⟨.two x a b::ts,by simp at e1 ⊢;omega,?_,by simp [Tr.nodes,e3]⟩
    intro t ht
    rcases List.mem_cons.1 ht with rfl | ht
    ·exact ⟨hx,h0,e2 a (by simp),e2 b (by simp)⟩
    ·exact e2 t (by simp [ht])
theorem z2b:∀ (t:Tr) (r:List Nd) (m:Nat),t.Wf→cnt (t.nodes++r) (m+1)=(cnt r m).map (t.nodes.length + ·)
 | .leaf x,r,m,h=>by
  simp only [Tr.nodes,List.cons_append,List.nil_append,q3u,h.2,Nat.zero_add,List.length_cons,List.length_nil]
  cases cnt r m<;>simp [Nat.add_comm]
 | .one x a,r,m,h=>by
  simp only [Tr.nodes,List.cons_append,q3u,h.2.1,Nat.add_comm 1 m,z2b a r m h.2.2,List.length_cons]
  cases cnt r m<;>simp;omega
 | .two x a b,r,m,h=>by
  simp only [Tr.nodes,List.cons_append,List.append_assoc,q3u,h.2.1,show 2+m=(m+1)+1 by omega,z2b a (b.nodes++r) (m+1) h.2.2.1,z2b b r m h.2.2.2,List.length_cons,List.length_append]
  cases cnt r m<;>simp;omega
theorem Tr.pos:∀ t:Tr,0<t.nodes.length
 | .leaf _=>by simp [Tr.nodes]
 | .one _ _=>by simp [Tr.nodes]
 | .two _ _ _=>by simp [Tr.nodes]
theorem k6e {ds:List Nd} {i:Nat} {t:Tr} {r:List Nd} (h:t.Wf) (hd:ds.drop i=t.nodes++r):q1k ds i 1=some (i+t.nodes.length):=by
 rw [q1k,hd,z2b t r 0 h,q7g];rfl
theorem j5j {ds:List Nd} {i j:Nat} (hn:∀ x∈ds,q0r x=0) (h:q1k ds i 1=some j):∃ t:Tr,t.Wf∧ds.drop i=t.nodes++ds.drop j∧j=i+t.nodes.length:=by
 rw [q1k,Option.map_eq_some_iff] at h
 obtain ⟨k,h1,rfl⟩:=h
 obtain ⟨ts,e1,e2,e3⟩:=y2n _ _ _ (fun x hx=>hn x (List.mem_of_mem_drop hx)) h1
 match ts,e1,e2,e3 with
 | [t],_,e2,e3=>
  have e4:(ds.drop i).take k=t.nodes:=by simpa using e3
  have e5:=k9t _ _ _ h1
  refine ⟨t,e2 t (by simp),?_,?_⟩
  ·rw [←e4,←List.drop_drop,List.take_append_drop]
  ·rw [←e4,List.length_take];omega
theorem z6g {ds:List Nd} (h:q2n ds=0):∃ t:Tr,t.Wf∧ds=t.nodes:=by
 obtain ⟨_,h2,h3⟩:=q4y h
 obtain ⟨t,ht,e1,e2⟩:=j5j h2 h3
 refine ⟨t,ht,?_⟩
 rw [List.drop_zero,List.drop_length,List.append_nil] at e1
 exact e1
theorem q9z {t:Tr} (h:t.Wf) (hl:t.nodes.length≤400):q2n t.nodes=0:=by
 refine v5w hl ?_ ?_
 ·clear hl
  induction t with
  | leaf x=>intro y hy;simp [Tr.nodes] at hy;subst hy;exact h.1
  | one x a ih=>
   intro y hy
   rcases List.mem_cons.1 hy with rfl | hy
   ·exact h.1
   ·exact ih h.2.2 y hy
  | two x a b ia ib=>
   intro y hy
   rcases List.mem_cons.1 hy with rfl | hy
   ·exact h.1
   ·rcases List.mem_append.1 hy with hy | hy
    ·exact ia h.2.2.1 y hy
    ·exact ib h.2.2.2 y hy
 ·have:=k6e (ds:=t.nodes) (i:=0) (r:=[]) h (by simp)
  simpa using this
theorem q1r {x:Nd} (h:q0r x=0):1≤x.op∧x.op≤9∧(x.op=1∨x.tx.size=0)∧(x.op=7∨x.n=0)∧(x.op=1→isW x.tx=true)∧(x.op=7→0≤x.n∧x.n≤8):=by
 unfold q0r at h
 split at h
 ·cases h
 split at h
 ·cases h
 split at h
 ·cases h
 split at h
 ·cases h
 rename_i h1 h2 h3 h4
 refine ⟨by omega,by omega,by omega,by omega,?_,by omega⟩
 intro h5
 cases h6:isW x.tx with
 | true=>rfl
 | false=>exact absurd ⟨h5,h6⟩ h3
theorem q3x {s:ByteArray} (h:isW s=true):1≤s.size∧s.size≤20:=by
 simp [isW] at h
 omega
theorem q0y (s:ByteArray):s.data.toList.length=s.size:=(Lib.size_eq s).symm
theorem q4r {x:Nd} (h:q0r x=0) (hp:pts x.op=0):x.op=1∨x.op=2∨x.op=3∨x.op=4∨x.op=5:=by
 have:=q1r h
 unfold pts at hp
 split at hp
 ·cases hp
 split at hp
 ·cases hp
 omega
theorem z1n {x:Nd} (hp:pts x.op=1):x.op=7∨x.op=8:=by
 unfold pts at hp
 split at hp
 ·cases hp
 split at hp
 ·omega
 ·cases hp
theorem z0b {x:Nd} (hp:pts x.op=2):x.op=6∨x.op=9:=by
 unfold pts at hp
 split at hp
 ·omega
 split at hp<;>cases hp
theorem z8f {a b:ByteArray} (h:a.data.toList=b.data.toList):a=b:=by
 cases a;cases b
 simp only [ByteArray.mk.injEq]
 exact Array.toList_inj.1 h
theorem z9y {a:ByteArray} (h:a.size=0):a=⟨#[]⟩:=z8f (by
 have:=q0y a
 rw [h] at this
 rw [List.eq_nil_of_length_eq_zero this])
def Tr.flat:Tr→Option (List UInt8)
 | .leaf x=>if x.op=1 then some x.tx.data.toList else if x.op=2 then some [32] else if x.op=4 then none else some []
 | .one _ a=>a.flat
 | .two x a b=>if x.op=6 then (match a.flat,b.flat with | some s,some t=>some (s++t) | _,_=>none) else a.flat
def Tr.line (t:Tr):ByteArray:=⟨(t.flat.getD []).toArray⟩
def Tr.isFlat (t:Tr):Bool:=t.flat.isSome
theorem z9d (t:Tr):t.line.data.toList=t.flat.getD []:=by simp [Tr.line]
theorem z9e (t:Tr):t.line.size=(t.flat.getD []).length:=by rw [←q0y,z9d]
theorem z3e:∀ t:Tr,t.Wf→(t.flat.getD []).length≤20*t.nodes.length
 | .leaf x,h=>by
  obtain ⟨_,_,_,_,h5,_⟩:=q1r h.1
  simp only [Tr.flat,Tr.nodes]
  split
  ·rename_i h1
   have:=q3x (h5 h1)
   have e:=q0y x.tx
   simp only [Option.getD_some,List.length_cons,List.length_nil]
   omega
  ·repeat' split
   all_goals simp
 | .one x a,h=>by
  have:=z3e a h.2.2
  simp only [Tr.flat,Tr.nodes,List.length_cons]
  omega
 | .two x a b,h=>by
  have h1:=z3e a h.2.2.1
  have h2:=z3e b h.2.2.2
  simp only [Tr.flat,Tr.nodes,List.length_cons,List.length_append]
  split
  ·cases ha:a.flat with
   | none=>simp
   | some s=>
    cases hb:b.flat with
    | none=>simp
    | some t=>
     rw [ha] at h1
     rw [hb] at h2
     simp only [Option.getD_some] at h1 h2 ⊢
     rw [List.length_append]
     omega
  ·omega
theorem q6k:∀ (t:Tr) (s:List UInt8),t.Wf→t.flat=some s→∀ b∈s,b≠10
 | .leaf x,s,h,e=>by
  obtain ⟨_,_,_,_,h5,_⟩:=q1r h.1
  simp only [Tr.flat] at e
  split at e
  ·rename_i h1
   cases e
   have hw:=h5 h1
   simp only [isW,Bool.and_eq_true,List.all_eq_true] at hw
   intro b hb hc
   have:=hw.2 b hb
   subst hc
   simp [q4u] at this
  ·split at e
   ·cases e;simp
   ·split at e
    ·cases e
    ·cases e;simp
 | .one x a,s,h,e=>q6k a s h.2.2 e
 | .two x a b,s,h,e=>by
  simp only [Tr.flat] at e
  split at e
  ·cases ha:a.flat with
   | none=>rw [ha] at e;cases e
   | some u=>
    cases hb:b.flat with
    | none=>rw [ha,hb] at e;cases e
    | some v=>
     rw [ha,hb] at e
     cases e
     intro c hc
     rcases List.mem_append.1 hc with hc | hc
     ·exact q6k a u h.2.2.1 ha c hc
     ·exact q6k b v h.2.2.2 hb c hc
  ·exact q6k a s h.2.2.1 e
def Tr.lay:Tr→Nat→List Int→Except Int (List UInt8 × List Int)
 | .leaf x,deep,ws=>if x.op=1 then .ok (x.tx.data.toList,ws) else if x.op=5 then .ok ([],ws) else .ok (10::List.replicate deep 32,ws)
 | .one x a,deep,ws=>
  if x.op=7 then a.lay (deep+x.n.toNat) ws
  else match ws with
   | []=>.error 2
   | c::ws=>if c=1 then a.lay deep ws else match a.flat with
    | none=>.error 4
    | some s=>.ok (s,ws)
 | .two x a b,deep,ws=>
  if x.op=6 then match a.lay deep ws with
   | .error e=>.error e
   | .ok (s,ws1)=>match b.lay deep ws1 with
    | .error e=>.error e
    | .ok (t,ws2)=>.ok (s++t,ws2)
  else match ws with
   | []=>.error 2
   | c::ws=>if c=0 then a.lay deep ws else b.lay deep ws
def Tr.ways:Tr→List (List Int)
 | .leaf _=>[[]]
 | .one x a=>if x.op=7 then a.ways else (if a.isFlat=true then [[0]] else [])++a.ways.map (1::·)
 | .two x a b=>if x.op=6 then a.ways.flatMap fun u=>b.ways.map (u++·) else a.ways.map (0::·)++b.ways.map (1::·)
def q1z (ws:List Int):Prop:=∀ c∈ws,c=0∨c=1
theorem z3w:∀ t:Tr,t.ways≠[]
 | .leaf _=>by simp [Tr.ways]
 | .one x a=>by
  simp only [Tr.ways]
  split
  ·exact z3w a
  ·have:=z3w a
   simp [this]
 | .two x a b=>by
  have h1:=z3w a
  have h2:=z3w b
  simp only [Tr.ways]
  split
  ·obtain ⟨u,us,e⟩:=List.exists_cons_of_ne_nil h1
   rw [e]
   simp [h2]
  ·simp [h1]
theorem q6y:∀ (t:Tr) (u:List Int),u∈t.ways→q1z u
 | .leaf _,u,h=>by simp [Tr.ways] at h;subst h;simp [q1z]
 | .one x a,u,h=>by
  simp only [Tr.ways] at h
  split at h
  ·exact q6y a u h
  ·rcases List.mem_append.1 h with h | h
   ·split at h
    ·simp at h;subst h;simp [q1z]
    ·simp at h
   ·obtain ⟨v,hv,rfl⟩:=List.mem_map.1 h
    have:=q6y a v hv
    intro c hc
    rcases List.mem_cons.1 hc with rfl | hc
    ·exact .inr rfl
    ·exact this c hc
 | .two x a b,u,h=>by
  simp only [Tr.ways] at h
  split at h
  ·obtain ⟨p,hp,hpq⟩:=List.mem_flatMap.1 h
   obtain ⟨q,hq,rfl⟩:=List.mem_map.1 hpq
   have h1:=q6y a p hp
   have h2:=q6y b q hq
   intro c hc
   rcases List.mem_append.1 hc with hc | hc
   ·exact h1 c hc
   ·exact h2 c hc
  ·rcases List.mem_append.1 h with h | h
   ·obtain ⟨v,hv,rfl⟩:=List.mem_map.1 h
    have:=q6y a v hv
    intro c hc
    rcases List.mem_cons.1 hc with rfl | hc
    ·exact .inl rfl
    ·exact this c hc
   ·obtain ⟨v,hv,rfl⟩:=List.mem_map.1 h
    have:=q6y b v hv
    intro c hc
    rcases List.mem_cons.1 hc with rfl | hc
    ·exact .inr rfl
    ·exact this c hc
theorem q5w:∀ (t:Tr) (deep:Nat) (u r:List Int),u∈t.ways→∃ s,t.lay deep (u++r) = .ok (s,r)
 | .leaf x,deep,u,r,h=>by
  simp [Tr.ways] at h
  subst h
  simp only [Tr.lay,List.nil_append]
  split
  ·exact ⟨_,rfl⟩
  ·split
   ·exact ⟨_,rfl⟩
   ·exact ⟨_,rfl⟩
 | .one x a,deep,u,r,h=>by
  simp only [Tr.ways] at h
  simp only [Tr.lay]
  split at h
  ·rename_i h7
   rw [if_pos h7]
   exact q5w a _ u r h
  ·rename_i h7
   rw [if_neg h7]
   rcases List.mem_append.1 h with h | h
   ·split at h
    ·rename_i hf
     simp at h
     subst h
     simp only [List.cons_append,List.nil_append]
     rw [if_neg (by decide)]
     rw [Tr.isFlat] at hf
     cases hfl:a.flat with
     | none=>rw [hfl] at hf;cases hf
     | some s=>exact ⟨s,rfl⟩
    ·simp at h
   ·obtain ⟨v,hv,rfl⟩:=List.mem_map.1 h
    simp only [List.cons_append,if_pos]
    exact q5w a deep v r hv
 | .two x a b,deep,u,r,h=>by
  simp only [Tr.ways] at h
  simp only [Tr.lay]
  split at h
  ·rename_i h6
   rw [if_pos h6]
   obtain ⟨p,hp,hpq⟩:=List.mem_flatMap.1 h
   obtain ⟨q,hq,rfl⟩:=List.mem_map.1 hpq
   obtain ⟨s1,e1⟩:=q5w a deep p (q++r) hp
   obtain ⟨s2,e2⟩:=q5w b deep q r hq
   rw [List.append_assoc,e1]
   simp only [e2]
   exact ⟨_,rfl⟩
  ·rename_i h6
   rw [if_neg h6]
   rcases List.mem_append.1 h with h | h
   ·obtain ⟨v,hv,rfl⟩:=List.mem_map.1 h
    simp only [List.cons_append,if_pos]
    exact q5w a deep v r hv
   ·obtain ⟨v,hv,rfl⟩:=List.mem_map.1 h
    simp only [List.cons_append]
    rw [if_neg (by decide)]
    exact q5w b deep v r hv
theorem q4l:∀ (t:Tr) (deep:Nat) (ws r:List Int) (s:List UInt8),q1z ws→t.lay deep ws = .ok (s,r)→∃ u∈t.ways,ws=u++r
 | .leaf x,deep,ws,r,s,_,h=>by
  refine ⟨[],by simp [Tr.ways],?_⟩
  simp only [Tr.lay] at h
  split at h
  ·cases h;rfl
  ·split at h
   ·cases h;rfl
   ·cases h;rfl
 | .one x a,deep,ws,r,s,h0,h=>by
  simp only [Tr.lay] at h
  simp only [Tr.ways]
  split at h
  ·rename_i h7
   rw [if_pos h7]
   exact q4l a _ ws r s h0 h
  ·rename_i h7
   rw [if_neg h7]
   match ws,h0,h with
   | [],_,h=>cases h
   | c::ws,h0,h=>
    simp only at h
    split at h
    ·rename_i h1
     subst h1
     obtain ⟨u,hu,e⟩:=q4l a deep ws r s (fun d hd=>h0 d (by simp [hd])) h
     exact ⟨1::u,List.mem_append.2 (.inr (List.mem_map.2 ⟨u,hu,rfl⟩)),by rw [e];rfl⟩
    ·rename_i h1
     have hc:c=0:=by have:=h0 c (by simp);omega
     subst hc
     cases hf:a.flat with
     | none=>rw [hf] at h;cases h
     | some v=>
      rw [hf] at h
      cases h
      refine ⟨[0],List.mem_append.2 (.inl ?_),rfl⟩
      rw [if_pos (by rw [Tr.isFlat,hf];rfl)]
      simp
 | .two x a b,deep,ws,r,s,h0,h=>by
  simp only [Tr.lay] at h
  simp only [Tr.ways]
  split at h
  ·rename_i h6
   rw [if_pos h6]
   cases ha:a.lay deep ws with
   | error e=>rw [ha] at h;cases h
   | ok p=>
    obtain ⟨s1,ws1⟩:=p
    rw [ha] at h
    simp only at h
    cases hb:b.lay deep ws1 with
    | error e=>rw [hb] at h;cases h
    | ok q=>
     obtain ⟨s2,ws2⟩:=q
     rw [hb] at h
     cases h
     obtain ⟨u,hu,e1⟩:=q4l a deep ws ws1 s1 h0 ha
     obtain ⟨v,hv,e2⟩:=q4l b deep ws1 r s2 (fun d hd=>h0 d (by rw [e1];simp [hd])) hb
     exact ⟨u++v,List.mem_flatMap.2 ⟨u,hu,List.mem_map.2 ⟨v,hv,rfl⟩⟩,by rw [e1,e2,List.append_assoc]⟩
  ·rename_i h6
   rw [if_neg h6]
   match ws,h0,h with
   | [],_,h=>cases h
   | c::ws,h0,h=>
    simp only at h
    split at h
    ·rename_i h1
     subst h1
     obtain ⟨u,hu,e⟩:=q4l a deep ws r s (fun d hd=>h0 d (by simp [hd])) h
     exact ⟨0::u,List.mem_append.2 (.inl (List.mem_map.2 ⟨u,hu,rfl⟩)),by rw [e];rfl⟩
    ·rename_i h1
     have hc:c=1:=by have:=h0 c (by simp);omega
     subst hc
     obtain ⟨u,hu,e⟩:=q4l b deep ws r s (fun d hd=>h0 d (by simp [hd])) h
     exact ⟨1::u,List.mem_append.2 (.inr (List.mem_map.2 ⟨u,hu,rfl⟩)),by rw [e];rfl⟩
def Tr.show (t:Tr) (ws:List Int):Except Int (List UInt8):=
 if ws.all (fun c=>c == 0 || c == 1)=true then match t.lay 0 ws with
  | .error e=>.error e
  | .ok (s,[])=>.ok s
  | .ok (_,_::_)=>.error 2
 else .error 1
theorem k8l {ws:List Int}:ws.all (fun c=>c == 0 || c == 1)=true↔q1z ws:=by
 simp [q1z]
theorem j4m (t:Tr) (ws:List Int):(∃ s,t.show ws = .ok s)↔ws∈t.ways:=by
 constructor
 ·rintro ⟨s,h⟩
  unfold Tr.show at h
  split at h
  ·rename_i h0
   cases hl:t.lay 0 ws with
   | error e=>rw [hl] at h;cases h
   | ok p=>
    obtain ⟨u,r⟩:=p
    rw [hl] at h
    cases r with
    | cons c r=>cases h
    | nil=>
     obtain ⟨v,hv,e⟩:=q4l t 0 ws [] u (k8l.1 h0) hl
     rw [List.append_nil] at e
     rw [e];exact hv
  ·cases h
 ·intro h
  obtain ⟨s,hs⟩:=q5w t 0 ws [] h
  rw [List.append_nil] at hs
  refine ⟨s,?_⟩
  unfold Tr.show
  rw [if_pos (k8l.2 (q6y t ws h)),hs]
def q2i:List Int→List Int→Prop
 | a::al,b::bs=>if a=b then q2i al bs else a<b
 | _,_=>False
theorem z2q:∀ (u v r s:List Int),q2i u v→q2i (u++r) (v++s)
 | a::al,b::bs,r,s,h=>by
  simp only [List.cons_append,q2i] at h ⊢
  split
  ·rename_i e;rw [if_pos e] at h;exact z2q al bs r s h
  ·rename_i e;rw [if_neg e] at h;exact h
theorem z4k:∀ (u r s:List Int),q2i r s→q2i (u++r) (u++s)
 | [],r,s,h=>h
 | a::u,r,s,h=>by simp only [List.cons_append,q2i,if_pos];exact z4k u r s h
theorem q9p {α β:Type} {R:β→β→Prop} (f:α→List β):∀ l:List α,(∀ x∈l,(f x).Pairwise R)→l.Pairwise (fun x y=>∀ p∈f x,∀ q∈f y,R p q)→(l.flatMap f).Pairwise R
 | [],_,_=>List.Pairwise.nil
 | x::l,h1,h2=>by
  rw [List.flatMap_cons]
  rw [List.pairwise_cons] at h2
  refine List.pairwise_append.2 ⟨h1 x (by simp),q9p f l (fun y hy=>h1 y (by simp [hy])) h2.2,?_⟩
  intro p hp q hq
  obtain ⟨y,hy,hq⟩:=List.mem_flatMap.1 hq
  exact h2.1 y hy p hp q hq
theorem z0c:∀ t:Tr,t.ways.Pairwise q2i
 | .leaf _=>by simp [Tr.ways]
 | .one x a=>by
  simp only [Tr.ways]
  have ih:=z0c a
  split
  ·exact ih
  ·refine List.pairwise_append.2 ⟨?_,?_,?_⟩
   ·split<;>simp
   ·exact List.pairwise_map.2 (ih.imp fun h=>by simp only [q2i,if_pos];exact h)
   ·intro p hp q hq
    split at hp
    ·simp at hp
     subst hp
     obtain ⟨v,_,rfl⟩:=List.mem_map.1 hq
     simp [q2i]
    ·simp at hp
 | .two x a b=>by
  simp only [Tr.ways]
  have ia:=z0c a
  have ib:=z0c b
  split
  ·refine q9p _ _ ?_ ?_
   ·intro u _
    exact List.pairwise_map.2 (ib.imp fun h=>z4k u _ _ h)
   ·refine ia.imp ?_
    intro u v h p hp q hq
    obtain ⟨r,_,rfl⟩:=List.mem_map.1 hp
    obtain ⟨s,_,rfl⟩:=List.mem_map.1 hq
    exact z2q u v r s h
  ·refine List.pairwise_append.2 ⟨?_,?_,?_⟩
   ·exact List.pairwise_map.2 (ia.imp fun h=>by simp only [q2i,if_pos];exact h)
   ·exact List.pairwise_map.2 (ib.imp fun h=>by simp only [q2i,if_pos];exact h)
   ·intro p hp q hq
    obtain ⟨u,_,rfl⟩:=List.mem_map.1 hp
    obtain ⟨v,_,rfl⟩:=List.mem_map.1 hq
    simp [q2i]
theorem j6g {x:Nd} (h:q0r x=0) (h1:x.op=1):∀ b∈x.tx.data.toList,b≠10:=by
 obtain ⟨_,_,_,_,h5,_⟩:=q1r h
 have hw:=h5 h1
 simp only [isW,Bool.and_eq_true,List.all_eq_true] at hw
 intro b hb hc
 have:=hw.2 b hb
 subst hc
 simp [q4u] at this
end Go.Proofs.YtchdplceopegoaaGreatDoor
namespace Go.Proofs.YtchdplceopegoaaGreatDoor
open Go
abbrev wdD (s:List UInt8):Tr:=.leaf ⟨1,wbS s,0⟩
abbrev blD:Tr:=.leaf ⟨2,⟨#[]⟩,0⟩
abbrev sfD:Tr:=.leaf ⟨3,⟨#[]⟩,0⟩
abbrev twD (a b:Tr):Tr:=.two ⟨6,⟨#[]⟩,0⟩ a b
abbrev dpD (a:Tr):Tr:=.one ⟨7,⟨#[]⟩,2⟩ a
abbrev grD (a:Tr):Tr:=.one ⟨8,⟨#[]⟩,0⟩ a
def inD (l:Nat) (x:Td) (d:Tr):Tr:=if prc x<l then twD (wdD [40]) (twD d (wdD [41])) else d
def kdD:List (Td × Tr)→Tr
 | []=>wdD []
 | p::r=>match r with
  | []=>p.2
  | _::_=>twD (twD p.2 (wdD [44])) (twD blD (kdD r))
def tw2 (f:Td→Tr→Td→Tr→Tr):List (Td × Tr)→Tr
 | [a,b]=>f a.1 a.2 b.1 b.2
 | _=>wdD []
def q2c (op cl:List UInt8) (ks:List (Td × Tr)):Tr:=if ks.length=0 then wdD (op++cl) else grD (twD (wdD op) (twD (dpD (twD sfD (kdD ks))) (twD sfD (wdD cl))))
def q0l (x:Td) (ks:List (Td × Tr)):Tr:=
 if x.op=1 then wdD (q3y x.n.toNat)
 else if x.op=2 then wdD (btL x.tx)
 else if x.op=3 then q2c (btL x.tx++[40]) [41] ks
 else if x.op=4 then q2c [91] [93] ks
 else if x.op=5 then tw2 (fun x a y b=>grD (twD (inD 0 x a) (dpD (twD blD (twD (wdD [43,32]) (inD 1 y b)))))) ks
 else tw2 (fun x a y b=>grD (twD (inD 1 x a) (dpD (twD blD (twD (wdD [42,32]) (inD 2 y b)))))) ks
def Fo.dcs:Fo→List (Td × Tr)
 | .nil=>[]
 | .cons x k n=>(x,q0l x k.dcs)::n.dcs
theorem q8c:∀ F:Fo,F.dcs.length=F.len
 | .nil=>rfl
 | .cons _ _ n=>by simp [Fo.dcs,Fo.len,q8c n]
def stD (x:Td) (d:Tr):Tr:=
 if x.op=7 then grD (twD (wdD ([108,101,116,32]++btL x.tx++[32,61])) (dpD (twD blD (twD d (wdD [59]))))) else twD d (wdD [59])
theorem z3c (s:List UInt8):(wdD s).flat=some s:=rfl
theorem q5l {a b:Tr} {s t:List UInt8} (ha:a.flat=some s) (hb:b.flat=some t):(twD a b).flat=some (s++t):=by
 simp only [Tr.flat,if_true,ha,hb]
theorem j8j (a:Tr):(dpD a).flat=a.flat:=rfl
theorem j8k (a:Tr):(grD a).flat=a.flat:=rfl
theorem j8i:blD.flat=some [32]:=rfl
theorem y0v:sfD.flat=some []:=rfl
def Mt (p:Td × Tr) (t:Tn):Prop:=p.1=t.x∧p.2.flat=some t.tx
theorem j8l {p:Td × Tr} {t:Tn} (h:Mt p t) (l:Nat):(inD l p.1 p.2).flat=some (brx l t):=by
 unfold inD brx
 rw [h.1]
 split
 ·rw [q5l (z3c _) (q5l h.2 (z3c _))];rfl
 ·exact h.2
inductive Mts:List (Td × Tr)→List Tn→Prop where
 | nil:Mts [] []
 | cons {p t ps ts}:Mt p t→Mts ps ts→Mts (p::ps) (t::ts)
theorem y0u:∀ {ps:List (Td × Tr)} {ts:List Tn},Mts ps ts→ps≠[]→(kdD ps).flat=some (cmx ts)
 | _,_,.cons h .nil,_=>by simp only [kdD,cmx,List.append_nil];exact h.2
 | _,_,.cons (ps:=p::ps) (ts:=t::ts) h (.cons h2 h3),_=>by
  have ih:=y0u (Mts.cons h2 h3) (by simp)
  show (twD (twD _ (wdD [44])) (twD blD (kdD (p::ps)))).flat=_
  rw [q5l (q5l h.2 (z3c _)) (q5l j8i ih)]
  simp [cmx]
theorem j0v {ps:List (Td × Tr)} {ts:List Tn} (h:Mts ps ts) (op cl:List UInt8):(q2c op cl ps).flat=some (op++cmx ts++cl):=by
 unfold q2c
 split
 ·rename_i h0
  cases h with
  | nil=>rw [z3c];simp [cmx]
  | cons=>simp at h0
 ·rename_i h0
  have hne:ps≠[]:=fun e=>h0 (by rw [e];rfl)
  rw [j8k,q5l (z3c _) (q5l (by rw [j8j];exact q5l y0v (y0u h hne)) (q5l y0v (z3c _)))]
  simp
theorem y4z {x:Td} {ps:List (Td × Tr)} {ts:List Tn} (h:Mts ps ts) (hx:exN x) (hk:ps.length=kdT x):(q0l x ps).flat=some (q2w x ts):=by
 have two:kdT x=2→∃ a b c d,ps=[a,b]∧ts=[c,d]∧Mt a c∧Mt b d:=fun e=>by
  rw [e] at hk
  cases h with
  | nil=>simp at hk
  | cons h1 h2=>cases h2 with
   | nil=>simp at hk
   | cons h3 h4=>cases h4 with
    | nil=>exact ⟨_,_,_,_,rfl,rfl,h1,h3⟩
    | cons=>simp at hk
 rcases q2e hx with ⟨ho,_⟩ | ⟨ho,_⟩ | ⟨ho,_⟩ | ⟨ho,_⟩ | ⟨ho,_,_,h2⟩ | ⟨ho,_,_,h2⟩
 ·rw [show q0l x ps=wdD (q3y x.n.toNat) by simp [q0l,ho],show q2w x ts=q3y x.n.toNat by simp [q2w,ho]];rfl
 ·rw [show q0l x ps=wdD (btL x.tx) by simp [q0l,ho],show q2w x ts=btL x.tx by simp [q2w,ho]];rfl
 ·rw [show q0l x ps=q2c (btL x.tx++[40]) [41] ps by simp [q0l,ho],show q2w x ts=btL x.tx++40::(cmx ts++[41]) by simp [q2w,ho],j0v h];simp
 ·rw [show q0l x ps=q2c [91] [93] ps by simp [q0l,ho],show q2w x ts=91::(cmx ts++[93]) by simp [q2w,ho],j0v h];simp
 ·obtain ⟨a,b,c,d,rfl,rfl,h3,h4⟩:=two h2
  rw [show q0l x [a,b]=grD (twD (inD 0 a.1 a.2) (dpD (twD blD (twD (wdD [43,32]) (inD 1 b.1 b.2))))) by simp [q0l,tw2,ho],show q2w x [c,d]=brx 0 c++32::43::32::brx 1 d by simp [q2w,two2,ho]]
  rw [j8k,q5l (j8l h3 0) (by rw [j8j];exact q5l j8i (q5l (z3c _) (j8l h4 1)))]
  rfl
 ·obtain ⟨a,b,c,d,rfl,rfl,h3,h4⟩:=two h2
  rw [show q0l x [a,b]=grD (twD (inD 1 a.1 a.2) (dpD (twD blD (twD (wdD [42,32]) (inD 2 b.1 b.2))))) by simp [q0l,tw2,ho],show q2w x [c,d]=brx 1 c++32::42::32::brx 2 d by simp [q2w,two2,ho]]
  rw [j8k,q5l (j8l h3 1) (by rw [j8j];exact q5l j8i (q5l (z3c _) (j8l h4 2)))]
  rfl
theorem z6c:∀ F:Fo,F.ok→F.exs→Mts F.dcs F.trs
 | .nil,_,_=>.nil
 | .cons x k n,hok,hex=>by
  have h1:=z6c k hok.2.1 fun y hy=>hex y (by simp [Fo.nodes,hy])
  have h2:=z6c n hok.2.2 fun y hy=>hex y (by simp [Fo.nodes,hy])
  exact .cons ⟨rfl,y4z h1 (hex x (by simp [Fo.nodes])) (by rw [q8c];exact hok.1)⟩ h2
def dnB (c:UInt8):Bool:=c != 32 && c != 10
def Tr.noE:Tr→Prop
 | .leaf x=>x.op≠4
 | .one _ a=>a.noE
 | .two x a b=>x.op=6∧a.noE∧b.noE
theorem q6n:∀ (t:Tr) (s:List UInt8),t.noE→t.Wf→t.flat=some s→∀ (deep:Nat) (ws ws':List Int) (r:List UInt8),t.lay deep ws = .ok (r,ws')→r.filter dnB=s.filter dnB
 | .leaf x,s,hn,hw,hf,deep,ws,ws',r,h=>by
  simp only [Tr.flat] at hf
  simp only [Tr.lay] at h
  have hrep:(10::List.replicate deep (32:UInt8)).filter dnB=[]:=by
   rw [List.filter_eq_nil_iff]
   intro c hc
   rcases List.mem_cons.1 hc with rfl | hc
   ·decide
   ·rw [List.eq_of_mem_replicate hc];decide
  split at hf
  ·rename_i h1
   rw [if_pos h1] at h
   cases hf;cases h;rfl
  ·rename_i h1
   rw [if_neg h1] at h
   split at hf
   ·rename_i h2
    rw [if_neg (by omega)] at h
    cases hf;cases h
    rw [hrep];rfl
   ·split at hf
    ·cases hf
    ·cases hf
     split at h
     ·cases h;rfl
     ·cases h
      rw [hrep];rfl
 | .one x a,s,hn,hw,hf,deep,ws,ws',r,h=>by
  have hf':a.flat=some s:=hf
  simp only [Tr.lay] at h
  split at h
  ·exact q6n a s hn hw.2.2 hf' _ _ _ _ h
  ·cases ws with
   | nil=>cases h
   | cons c ws=>
    simp only at h
    split at h
    ·exact q6n a s hn hw.2.2 hf' _ _ _ _ h
    ·rw [hf'] at h
     cases h;rfl
 | .two x a b,s,hn,hw,hf,deep,ws,ws',r,h=>by
  obtain ⟨h6,ha,hb⟩:=hn
  simp only [Tr.flat,if_pos h6] at hf
  simp only [Tr.lay,if_pos h6] at h
  cases ea:a.flat with
  | none=>rw [ea] at hf;cases hf
  | some s1=>
   cases eb:b.flat with
   | none=>rw [ea,eb] at hf;cases hf
   | some s2=>
    rw [ea,eb] at hf
    cases hf
    cases la:a.lay deep ws with
    | error e=>rw [la] at h;cases h
    | ok p=>
     obtain ⟨r1,ws1⟩:=p
     rw [la] at h
     simp only at h
     cases lb:b.lay deep ws1 with
     | error e=>rw [lb] at h;cases h
     | ok p2=>
      obtain ⟨r2,ws2⟩:=p2
      rw [lb] at h
      cases h
      rw [List.filter_append,List.filter_append,q6n a s1 ha hw.2.2.1 ea _ _ _ _ la,q6n b s2 hb hw.2.2.2 eb _ _ _ _ lb]
theorem j9i {c:UInt8} (h:q3g c=true):q4u c=true:=by
 simp only [q3g,Bool.and_eq_true,decide_eq_true_eq] at h
 simp only [q4u,Bool.and_eq_true,decide_eq_true_eq]
 omega
theorem j8h {c:UInt8} (h:q4c c=true):q4u c=true:=by
 simp only [q4c,Bool.and_eq_true,decide_eq_true_eq] at h
 simp only [q4u,Bool.and_eq_true,decide_eq_true_eq]
 omega
theorem z1y {s:List UInt8} (h1:1≤s.length) (h2:s.length≤20) (h3:∀ c∈s,q4u c=true):(wdD s).Wf:=by
 have e:(wbS s).size=s.length:=by rw [←q0b];rfl
 have hw:isW (wbS s)=true:=by
  simp only [isW,Bool.and_eq_true,decide_eq_true_eq,List.all_eq_true]
  exact ⟨⟨by omega,by omega⟩,h3⟩
 refine ⟨?_,rfl⟩
 simp only [q0r,hw]
 rfl
theorem v1p:blD.Wf:=⟨rfl,rfl⟩
theorem y3m:sfD.Wf:=⟨rfl,rfl⟩
theorem q5x {a b:Tr} (ha:a.Wf) (hb:b.Wf):(twD a b).Wf:=⟨rfl,rfl,ha,hb⟩
theorem v1q {a:Tr} (ha:a.Wf):(dpD a).Wf:=⟨rfl,rfl,ha⟩
theorem v1r {a:Tr} (ha:a.Wf):(grD a).Wf:=⟨rfl,rfl,ha⟩
theorem v1s {l:Nat} {x:Td} {d:Tr} (h:d.Wf):(inD l x d).Wf:=by
 unfold inD
 split
 ·exact q5x (z1y (by decide) (by decide) (by decide)) (q5x h (z1y (by decide) (by decide) (by decide)))
 ·exact h
theorem y3l:∀ ps:List (Td × Tr),(∀ p∈ps,p.2.Wf)→ps≠[]→(kdD ps).Wf
 | [p],h,_=>h p (by simp)
 | p::q::r,h,_=>q5x (q5x (h p (by simp)) (z1y (by decide) (by decide) (by decide))) (q5x v1p (y3l (q::r) (fun z hz=>h z (by simp at hz ⊢;right;exact hz)) (by simp)))
theorem j6c {op cl:List UInt8} {ps:List (Td × Tr)} (h:∀ p∈ps,p.2.Wf) (h1:1≤op.length) (h2:op.length+cl.length≤20) (h3:∀ c∈op,q4u c=true) (h4:1≤cl.length) (h5:∀ c∈cl,q4u c=true):(q2c op cl ps).Wf:=by
 unfold q2c
 split
 ·refine z1y (by simp;omega) (by simp;omega) fun c hc=>?_
  rcases List.mem_append.1 hc with hc | hc
  ·exact h3 c hc
  ·exact h5 c hc
 ·rename_i h0
  exact v1r (q5x (z1y h1 (by omega) h3) (q5x (v1q (q5x y3m (y3l ps h fun e=>h0 (by rw [e];rfl)))) (q5x y3m (z1y h4 (by omega) h5))))
theorem q9o {s:ByteArray} (h:q0x s=true):1≤(btL s).length∧(btL s).length≤8∧∀ c∈btL s,q4u c=true:=by
 have h8:=q1u h
 simp only [q0x,Bool.and_eq_true,decide_eq_true_eq,List.all_eq_true] at h
 exact ⟨by rw [q0b];exact h.1.1.1,h8,fun c hc=>j9i (h.2 c hc)⟩
theorem y6a {x:Td} {ps:List (Td × Tr)} (h:∀ p∈ps,p.2.Wf) (hx:exN x) (hk:ps.length=kdT x):(q0l x ps).Wf:=by
 have two:kdT x=2→∃ a b,ps=[a,b]∧a.2.Wf∧b.2.Wf:=fun e=>by
  rw [e] at hk
  match ps,hk with
  | [a,b],_=>exact ⟨a,b,rfl,h a (by simp),h b (by simp)⟩
 rcases q2e hx with ⟨ho,_,h0,h9,_⟩ | ⟨ho,hn,_⟩ | ⟨ho,hn,_⟩ | ⟨ho,_⟩ | ⟨ho,_,_,h2⟩ | ⟨ho,_,_,h2⟩
 ·rw [show q0l x ps=wdD (q3y x.n.toNat) by simp [q0l,ho]]
  have h1:=q9c 5 x.n.toNat (by omega)
  have h2:=List.length_pos_iff.2 (k1f x.n.toNat)
  exact z1y (by omega) (by omega) fun c hc=>j8h (z2d _ c hc)
 ·obtain ⟨n1,n2,n3⟩:=q9o hn
  rw [show q0l x ps=wdD (btL x.tx) by simp [q0l,ho]]
  exact z1y n1 (by omega) n3
 ·obtain ⟨n1,n2,n3⟩:=q9o hn
  rw [show q0l x ps=q2c (btL x.tx++[40]) [41] ps by simp [q0l,ho]]
  refine j6c h (by simp) (by rw [List.length_append];simp only [List.length_cons,List.length_nil];omega) (fun c hc=>?_) (by decide) (by decide)
  rcases List.mem_append.1 hc with hc | hc
  ·exact n3 c hc
  ·simp at hc;subst hc;decide
 ·rw [show q0l x ps=q2c [91] [93] ps by simp [q0l,ho]]
  exact j6c h (by decide) (by decide) (by decide) (by decide) (by decide)
 ·obtain ⟨a,b,rfl,h3,h4⟩:=two h2
  rw [show q0l x [a,b]=grD (twD (inD 0 a.1 a.2) (dpD (twD blD (twD (wdD [43,32]) (inD 1 b.1 b.2))))) by simp [q0l,tw2,ho]]
  exact v1r (q5x (v1s h3) (v1q (q5x v1p (q5x (z1y (by decide) (by decide) (by decide)) (v1s h4)))))
 ·obtain ⟨a,b,rfl,h3,h4⟩:=two h2
  rw [show q0l x [a,b]=grD (twD (inD 1 a.1 a.2) (dpD (twD blD (twD (wdD [42,32]) (inD 2 b.1 b.2))))) by simp [q0l,tw2,ho]]
  exact v1r (q5x (v1s h3) (v1q (q5x v1p (q5x (z1y (by decide) (by decide) (by decide)) (v1s h4)))))
theorem j0c:∀ F:Fo,F.ok→F.exs→∀ p∈F.dcs,p.2.Wf
 | .nil,_,_,p,hp=>by cases hp
 | .cons x k n,hok,hex,p,hp=>by
  have h1:=j0c k hok.2.1 fun y hy=>hex y (by simp [Fo.nodes,hy])
  have h2:=j0c n hok.2.2 fun y hy=>hex y (by simp [Fo.nodes,hy])
  rcases List.mem_cons.1 hp with rfl | hp
  ·exact y6a h1 (hex x (by simp [Fo.nodes])) (by rw [q8c];exact hok.1)
  ·exact h2 p hp
theorem j9u {l:Nat} {x:Td} {d:Tr} (h:d.noE):(inD l x d).noE:=by
 unfold inD
 split
 ·exact ⟨rfl,by show (1:Int)≠4;decide,rfl,h,by show (1:Int)≠4;decide⟩
 ·exact h
theorem y1u:∀ ps:List (Td × Tr),(∀ p∈ps,p.2.noE)→(kdD ps).noE
 | [],_=>by show (1:Int)≠4;decide
 | [p],h=>h p (by simp)
 | p::q::r,h=>⟨rfl,⟨rfl,h p (by simp),by show (1:Int)≠4;decide⟩,rfl,by show (2:Int)≠4;decide,y1u (q::r) (fun z hz=>h z (by simp at hz ⊢;right;exact hz))⟩
theorem j2y {op cl:List UInt8} {ps:List (Td × Tr)} (h:∀ p∈ps,p.2.noE):(q2c op cl ps).noE:=by
 unfold q2c
 split
 ·show (1:Int)≠4;decide
 ·exact ⟨rfl,by show (1:Int)≠4;decide,rfl,⟨rfl,by show (3:Int)≠4;decide,y1u ps h⟩,rfl,by show (3:Int)≠4;decide,by show (1:Int)≠4;decide⟩
theorem v3l {f:Td→Tr→Td→Tr→Tr} {ps:List (Td × Tr)} (h:∀ p∈ps,p.2.noE) (hf:∀ x a y b,a.noE→b.noE→(f x a y b).noE):(tw2 f ps).noE:=by
 unfold tw2
 split
 ·exact hf _ _ _ _ (h _ (by simp)) (h _ (by simp))
 ·show (1:Int)≠4;decide
theorem y5n {x:Td} {ps:List (Td × Tr)} (h:∀ p∈ps,p.2.noE):(q0l x ps).noE:=by
 have h1:(1:Int)≠4:=by decide
 have h2:(2:Int)≠4:=by decide
 unfold q0l
 split
 ·exact h1
 ·split
  ·exact h1
  ·split
   ·exact j2y h
   ·split
    ·exact j2y h
    ·split
     ·exact v3l h fun x a y b ha hb=>⟨rfl,j9u ha,rfl,h2,rfl,h1,j9u hb⟩
     ·exact v3l h fun x a y b ha hb=>⟨rfl,j9u ha,rfl,h2,rfl,h1,j9u hb⟩
theorem k1e:∀ F:Fo,∀ p∈F.dcs,p.2.noE
 | .nil,p,hp=>by cases hp
 | .cons x k n,p,hp=>by
  rcases List.mem_cons.1 hp with rfl | hp
  ·exact y5n (k1e k)
  ·exact k1e n p hp
def z4g (ps:List (Td × Tr)):Nat:=(ps.map fun p=>p.2.nodes.length+5).sum
theorem q3l (p:Td × Tr) (r:List (Td × Tr)):z4g (p::r)=p.2.nodes.length+5+z4g r:=by simp [z4g]
theorem j9w (l:Nat) (x:Td) (d:Tr):(inD l x d).nodes.length≤d.nodes.length+4:=by
 unfold inD
 split
 ·simp only [Tr.nodes,List.length_cons,List.length_append,List.length_nil];omega
 ·omega
theorem j9x:∀ ps:List (Td × Tr),(kdD ps).nodes.length≤z4g ps+1
 | []=>by simp [kdD,z4g,Tr.nodes]
 | [p]=>by simp only [kdD,q3l];omega
 | p::q::r=>by
  have ih:=j9x (q::r)
  show (twD (twD p.2 (wdD [44])) (twD blD (kdD (q::r)))).nodes.length≤_
  rw [q3l]
  simp only [Tr.nodes,List.length_cons,List.length_append,List.length_nil]
  omega
theorem y5o {x:Td} {ps:List (Td × Tr)}:(q0l x ps).nodes.length≤15+z4g ps:=by
 have hm:∀ op cl:List UInt8,(q2c op cl ps).nodes.length≤15+z4g ps:=fun op cl=>by
  have hk:=j9x ps
  unfold q2c
  split
  ·simp only [Tr.nodes,List.length_cons,List.length_nil];omega
  ·simp only [Tr.nodes,List.length_cons,List.length_append,List.length_nil]
   omega
 have ht:∀ f:Td→Tr→Td→Tr→Tr,(∀ x a y b,(f x a y b).nodes.length≤15+a.nodes.length+b.nodes.length)→(tw2 f ps).nodes.length≤15+z4g ps:=fun f hf=>by
  unfold tw2
  split
  ·rename_i a b
   have:=hf a.1 a.2 b.1 b.2
   rw [q3l,q3l]
   omega
  ·simp only [Tr.nodes,List.length_cons,List.length_nil];omega
 have hs:∀ (l m:Nat) (sg:List UInt8) (x:Td) (a:Tr) (y:Td) (b:Tr),(grD (twD (inD l x a) (dpD (twD blD (twD (wdD sg) (inD m y b)))))).nodes.length≤15+a.nodes.length+b.nodes.length:=fun l m sg x a y b=>by
  have h1:=j9w l x a
  have h2:=j9w m y b
  simp only [Tr.nodes,List.length_cons,List.length_append,List.length_nil]
  omega
 unfold q0l
 split
 ·simp only [Tr.nodes,List.length_cons,List.length_nil];omega
 ·split
  ·simp only [Tr.nodes,List.length_cons,List.length_nil];omega
  ·split
   ·exact hm _ _
   ·split
    ·exact hm _ _
    ·split
     ·exact ht _ (hs 0 1 [43,32])
     ·exact ht _ (hs 1 2 [42,32])
theorem z8i:∀ F:Fo,z4g F.dcs≤20*F.nodes.length
 | .nil=>by simp [Fo.dcs,z4g]
 | .cons x k n=>by
  have h1:=z8i k
  have h2:=z8i n
  have h3:=y5o (x:=x) (ps:=k.dcs)
  rw [Fo.dcs,q3l,Fo.nodes]
  simp only [List.length_cons,List.length_append]
  omega
def opT (t:List Td):Int:=match t with
 | []=>0
 | x::_=>x.op
theorem k2h {t:List Td} (h:0<t.length):opT t=t[0].op:=by
 cases t with
 | nil=>simp at h
 | cons x r=>rfl
def q5c (prev:Int) (k:Nat):List (List Td)→Nat × Int
 | []=>(0,0)
 | t::r=>if q0c t≠0 then (k,q0c t) else if opT t=9∧prev=9 then (k,2) else q5c (opT t) (k+1) r
def q0p (ps:List (List Td)):Nat × Int:=if 20<ps.length then (0,3) else q5c 0 0 ps
theorem z7p {t:List Td} (h:q0c t=0):0<t.length:=by
 rcases Nat.eq_zero_or_pos t.length with h0 | h0
 ·have:t=[]:=List.eq_nil_of_length_eq_zero h0
  subst this
  have:=(q2l h).2.2.1
  rw [z2f [] 0 0 (by simp)] at this
  cases this
 ·exact h0
def q6g (ps:List (List Td)) (k:Nat):Int:=if k=0 then 0 else opT (ps.getD (k - 1) [])
theorem z5f {ps:List (List Td)} {k:Nat} (h:k<ps.length):q6g ps (k+1)=opT ps[k]:=by
 simp [q6g,h]
theorem j4c {ps:List (List Td)} {k:Nat} {prev:Int} (h:k<ps.length) (he:q0c ps[k]≠0):q5c prev k (ps.drop k)=(k,q0c ps[k]):=by
 rw [List.drop_eq_getElem_cons h,q5c,if_pos he]
theorem j4d {ps:List (List Td)} {k:Nat} {prev:Int} (h:k<ps.length) (he:q0c ps[k]=0) (h2:opT ps[k]=9∧prev=9):q5c prev k (ps.drop k)=(k,2):=by
 rw [List.drop_eq_getElem_cons h,q5c,if_neg (by simp [he]),if_pos h2]
theorem k7b {ps:List (List Td)} {k:Nat} {prev:Int} (h:k<ps.length) (he:q0c ps[k]=0) (h2:¬ (opT ps[k]=9∧prev=9)):q5c prev k (ps.drop k)=q5c (q6g ps (k+1)) (k+1) (ps.drop (k+1)):=by
 rw [List.drop_eq_getElem_cons h,q5c,if_neg (by simp [he]),if_neg h2,z5f h]
def hdD (ps:List (Td × Tr)):Tr:=match ps with
 | p::_=>p.2
 | []=>wdD []
def q0s (t:List Td):Tr:=match k8y t with
 | .nil=>wdD []
 | .cons x k _=>stD x (hdD k.dcs)
theorem z2h {x:Td} {F:Fo} (h:F.ok) (hl:F.len=kdT x):q0s (x::F.nodes)=stD x (hdD F.dcs):=by
 rw [q0s,v3z h hl]
structure y4i (t:List Td):Prop where
 f:(q0s t).flat=some (q3c t)
 w:(q0s t).Wf
 e:(q0s t).noE
 n:(q0s t).nodes.length≤900
theorem v8m {F:Fo} (hl:F.len=1):∃ y k,F = .cons y k .nil:=by
 cases F with
 | nil=>cases hl
 | cons y k n=>cases n with
  | nil=>exact ⟨y,k,rfl⟩
  | cons _ _ _=>simp [Fo.len] at hl
theorem q7r {t:List Td} (h:q0c t=0) (h9:opT t≠9):∃ (x y:Td) (k:Fo),t=x::(Fo.cons y k .nil).nodes∧(Fo.cons y k .nil).ok∧(Fo.cons y k .nil).exs∧(Fo.cons y k .nil).len=kdT x∧((x.op=7∧q0x x.tx=true∧x.n=0)∨(x.op=8∧x.tx=⟨#[]⟩∧x.n=0)):=by
 rcases q2g h with ⟨x,rfl,ho,_⟩ | ⟨x,F,rfl,hok,hex,hl,hx⟩
 ·exact absurd ho h9
 ·obtain ⟨y,k,rfl⟩:=v8m hl
  refine ⟨x,y,k,rfl,hok,hex,?_,hx⟩
  rw [hl]
  unfold kdT
  rcases hx with ⟨ho,_⟩ | ⟨ho,_⟩<;>rw [ho]<;>rfl
theorem z8l {t:List Td} (h:q0c t=0) (h9:opT t≠9):y4i t:=by
 have hl40:=(q2l h).1
 obtain ⟨x,y,k,rfl,hok,hex,hk,hx⟩:=q7r h h9
 have hm:=z6c _ hok hex
 have hw:=j0c _ hok hex
 have he:=k1e (.cons y k .nil)
 have hn:=z8i (.cons y k .nil)
 have e0:q0s (x::(Fo.cons y k .nil).nodes)=stD x (q0l y k.dcs):=z2h hok hk
 have e1:q3c (x::(Fo.cons y k .nil).nodes)=stX x (Fo.cons y k .nil).trs:=(q6u hok hk).1
 have hf:(q0l y k.dcs).flat=some (q0m y k.trs).tx:=by
  cases hm with
  | cons h1 _=>exact h1.2
 have hw1:(q0l y k.dcs).Wf:=hw (y,q0l y k.dcs) (by simp [Fo.dcs])
 have he1:(q0l y k.dcs).noE:=he (y,q0l y k.dcs) (by simp [Fo.dcs])
 have hn1:(q0l y k.dcs).nodes.length+5≤20*(Fo.cons y k .nil).nodes.length:=by
  rw [Fo.dcs,q3l] at hn
  have:z4g Fo.nil.dcs=0:=rfl
  exact Nat.le_trans (Nat.le_add_right _ _) hn
 simp only [List.length_cons] at hl40
 generalize q0l y k.dcs=D at e0 hf hw1 he1 hn1
 have w59:(wdD [59]).Wf:=z1y (by decide) (by decide) (by decide)
 have n1:(1:Int)≠4:=by decide
 have n2:(2:Int)≠4:=by decide
 rcases hx with ⟨ho,hnm,_⟩ | ⟨ho,_,_⟩
 ·obtain ⟨m1,m2,m3⟩:=q9o hnm
  have e2:stD x D=grD (twD (wdD ([108,101,116,32]++btL x.tx++[32,61])) (dpD (twD blD (twD D (wdD [59]))))):=by rw [stD,if_pos ho]
  refine ⟨?_,?_,?_,?_⟩
  ·rw [e0,e1,e2,j8k,q5l (z3c _) (by rw [j8j];exact q5l j8i (q5l hf (z3c _)))]
   simp [stX,ho,hdT,Fo.trs]
  ·rw [e0,e2]
   refine v1r (q5x (z1y (by simp) (by simp only [List.length_append,List.length_cons,List.length_nil];omega) fun c hc=>?_) (v1q (q5x v1p (q5x hw1 w59))))
   rcases List.mem_append.1 hc with hc | hc
   ·rcases List.mem_append.1 hc with hc | hc
    ·simp at hc;rcases hc with rfl | rfl | rfl | rfl<;>decide
    ·exact m3 c hc
   ·simp at hc;rcases hc with rfl | rfl<;>decide
  ·rw [e0,e2];exact ⟨rfl,n1,rfl,n2,rfl,he1,n1⟩
  ·rw [e0,e2]
   simp only [Tr.nodes,List.length_cons,List.length_append,List.length_nil]
   omega
 ·have e2:stD x D=twD D (wdD [59]):=by rw [stD,if_neg (by omega)]
  refine ⟨?_,?_,?_,?_⟩
  ·rw [e0,e1,e2,q5l hf (z3c _)]
   simp [stX,ho,hdT,Fo.trs]
  ·rw [e0,e2];exact q5x hw1 w59
  ·rw [e0,e2];exact ⟨rfl,he1,n1⟩
  ·rw [e0,e2]
   simp only [Tr.nodes,List.length_cons,List.length_append,List.length_nil]
   omega
theorem j0h {t:List Td} (h:q0c t=0) (h9:opT t≠9) {ws:List Int} {r:List UInt8} (hs:(q0s t).show ws = .ok r):r.filter dnB=(q3c t).filter dnB:=by
 have hd:=z8l h h9
 unfold Tr.show at hs
 split at hs
 ·cases hl:(q0s t).lay 0 ws with
  | error e=>rw [hl] at hs;cases hs
  | ok p=>
   obtain ⟨r',ws'⟩:=p
   rw [hl] at hs
   have h1:=q6n _ _ hd.e hd.w hd.f 0 ws ws' r' hl
   cases ws' with
   | nil=>cases hs;exact h1
   | cons a b=>cases hs
 ·cases hs
def v6e (a b:UInt8):Bool:=(q3g a && q3g b) || (q4c a && q4c b)
def q5t (b:UInt8):Bool:=!q3g b && !q4c b
def k1i (s rest:List UInt8):Prop:=∀ a b,s.getLast? = some a→rest.head? = some b→v6e a b=false
theorem z4s {a b:UInt8} (h:q5t b=true):v6e a b=false:=by
 simp only [q5t,Bool.and_eq_true,Bool.not_eq_true'] at h
 simp [v6e,h.1,h.2]
theorem z8t {a b:UInt8} (h:q5t a=true):v6e a b=false:=by
 simp only [q5t,Bool.and_eq_true,Bool.not_eq_true'] at h
 simp [v6e,h.1,h.2]
theorem q1y {s:List UInt8} {b:UInt8} (h:q5t b=true) (r:List UInt8):k1i s (b::r):=fun _ c _ hc=>by
 simp only [List.head?_cons,Option.some.injEq] at hc
 subst hc
 exact z4s h
theorem q7i {a:UInt8} (h:q5t a=true) (s r:List UInt8):k1i (s++[a]) r:=fun c _ hc _=>by
 simp only [List.getLast?_append,List.getLast?_singleton,Option.some_or,Option.some.injEq] at hc
 subst hc
 exact z8t h
def Lx (s:List UInt8) (ws:List Wd):Prop:=∀ rest i,k1i s rest→(lxW (s++rest) i).map (·.2)=ws++(lxW rest (i+s.length)).map (·.2)∧lxF (s++rest) i=lxF rest (i+s.length)
theorem Lx.nil:Lx [] []:=fun rest i _=>by simp
theorem Lx.app {s t:List UInt8} {ws us:List Wd} (h1:Lx s ws) (h2:Lx t us) (h:k1i s t):Lx (s++t) (ws++us):=by
 intro rest i hr
 have hst:k1i s (t++rest):=by
  intro a b ha hb
  cases t with
  | nil=>
   rw [List.append_nil] at hr
   exact hr a b ha hb
  | cons c t=>exact h a b ha hb
 have htr:k1i t rest:=by
  intro a b ha hb
  refine hr a b ?_ hb
  rw [List.getLast?_append,ha];rfl
 obtain ⟨a1,a2⟩:=h1 (t++rest) i hst
 obtain ⟨b1,b2⟩:=h2 rest (i+s.length) htr
 rw [List.append_assoc,a1,a2,b1,b2,List.length_append,Nat.add_assoc]
 exact ⟨by simp,rfl⟩
theorem Lx.blank {c:UInt8} (h:spB c=true):Lx [c] []:=by
 intro rest i _
 rw [List.cons_append,List.nil_append,lxW,lxF,z9k rest i h]
 exact ⟨by simp [lxW],by simp [lxF]⟩
theorem Lx.tok {c:UInt8} {r:List UInt8} (hs:spB c=false) (h:∀ rest,k1i (c::r) rest→q4p (c::r++rest)=true∧q0o (c::r++rest)=(c::r).length) (ht:q1b (c::r)=c::r):Lx (c::r) [c::r]:=by
 intro rest i hr
 obtain ⟨h1,h2⟩:=h rest hr
 rw [List.cons_append] at h1 h2
 have ed:(c::(r++rest)).drop (q0o (c::(r++rest)))=rest:=by rw [h2,←List.cons_append,List.drop_left]
 have ew:tkW (c::(r++rest))=c::r:=by rw [tkW,h2,←List.cons_append,List.take_left,ht]
 rw [List.cons_append,lxW,lxF,z5b i hs h1,ed,ew,h2]
 exact ⟨rfl,rfl⟩
theorem k5l {p:UInt8→Bool}:∀ (r rest:List UInt8),(∀ x∈r,p x=true)→(∀ b,rest.head? = some b→p b=false)→(r++rest).takeWhile p=r
 | [],rest,_,h=>by
  cases rest with
  | nil=>rfl
  | cons b t=>rw [List.nil_append,List.takeWhile_cons,if_neg (by simp [h b rfl])]
 | a::r,rest,h,h2=>by
  rw [List.cons_append,List.takeWhile_cons,if_pos (h a (by simp)),k5l r rest (fun x hx=>h x (by simp [hx])) h2]
theorem k4c {s:List UInt8} (h:s≠[]):∃ a,s.getLast? = some a∧a∈s:=by
 refine ⟨s.getLast h,List.getLast?_eq_some_getLast h,List.getLast_mem h⟩
theorem j5n {p:UInt8→Bool} (hp:∀ x,p x=true→x≠32) {l:List UInt8} (h:∀ x∈l,p x=true):q1b l=l:=by
 rcases List.eq_nil_or_concat l with rfl | ⟨v,c,rfl⟩
 ·rfl
 ·rw [List.concat_eq_append] at h ⊢
  exact q1i v (hp c (h c (by simp)))
theorem y1n {c:UInt8} (h:q3g c=true):spB c=false:=by
 have h1:c≠32:=z9g h
 have h2:c≠10:=by rintro rfl;revert h;decide
 simp [spB,h1,h2]
theorem y0s {c:UInt8} (h:q4c c=true):spB c=false:=by
 have h1:c≠32:=z8p h
 have h2:c≠10:=by rintro rfl;revert h;decide
 simp [spB,h1,h2]
theorem Lx.name {w:Wd} (h:∀ x∈w,q3g x=true) (h0:w≠[]) (h8:w.length≤8):Lx w [w]:=by
 cases w with
 | nil=>exact absurd rfl h0
 | cons c r=>
  have hc:=h c (by simp)
  refine Lx.tok (y1n hc) (fun rest hr=>?_) (j5n (fun _=>z9g) h)
  obtain ⟨a,ha,hm⟩:=k4c (s:=c::r) (by simp)
  have hb:∀ b,rest.head? = some b→q3g b=false:=fun b hb=>by
   have:=hr a b ha hb
   simp only [v6e,h a hm,Bool.true_and,Bool.or_eq_false_iff] at this
   exact this.1
  have e:=k5l r rest (fun x hx=>h x (by simp [hx])) hb
  rw [List.cons_append]
  simp only [q4p,q0o,hc,if_true,e]
  simp only [List.length_cons] at h8 ⊢
  exact ⟨decide_eq_true h8,trivial⟩
theorem Lx.num (n:Nat) (hn:n≤999999):Lx (q3y n) [q3y n]:=by
 have hf:=z2d n
 have h6:=q9c 5 n (by omega)
 have hz:∀ c r,q3y n=c::r→(c != 48 || r.length == 0)=true:=fun c r e=>by
  rcases Nat.eq_zero_or_pos n with h | h
  ·subst h
   rw [q3y,dif_pos (by omega)] at e
   cases e;rfl
  ·obtain ⟨d,z,e2,hd⟩:=z8j n h
   rw [e,List.cons.injEq] at e2
   rw [e2.1];simp [hd]
 cases hd:q3y n with
 | nil=>exact absurd hd (k1f n)
 | cons c r=>
  rw [hd] at hf h6
  have hc:=hf c (by simp)
  have hlow:q3g c=false:=k1k hc
  refine Lx.tok (y0s hc) (fun rest hr=>?_) (j5n (fun _=>z8p) hf)
  obtain ⟨a,ha,hm⟩:=k4c (s:=c::r) (by simp)
  have hb:∀ b,rest.head? = some b→q4c b=false:=fun b hb=>by
   have:=hr a b ha hb
   simp only [v6e,hf a hm,Bool.true_and,Bool.or_eq_false_iff] at this
   exact this.2
  have e:=k5l r rest (fun x hx=>hf x (by simp [hx])) hb
  rw [List.cons_append]
  simp only [q4p,q0o,hc,hlow,if_true,Bool.false_eq_true,if_false,e]
  simp only [List.length_cons] at h6 ⊢
  exact ⟨by rw [decide_eq_true h6,hz c r hd];rfl,trivial⟩
theorem Lx.mark {c:UInt8} (h:v9q c=true):Lx [c] [[c]]:=by
 have hc:spB c=false∧q3g c=false∧q4c c=false∧(c == 35)=false∧c≠32:=by
  simp only [v9q,y1s,List.any_cons,List.any_nil,Bool.or_false,Bool.or_eq_true,beq_iff_eq] at h
  rcases h with h | h | h | h | h | h | h | h | h<;>(subst h;decide)
 obtain ⟨h1,h2,h3,h4,h5⟩:=hc
 refine Lx.tok h1 (fun rest _=>?_) (q1i [] h5)
 rw [List.cons_append]
 simp only [q4p,q0o,h2,h3,h4,Bool.false_eq_true,if_false]
 exact ⟨h,rfl⟩
theorem Lx.pre {c:UInt8} {t:List UInt8} {ws us:List Wd} (h1:Lx [c] ws) (hc:q5t c=true) (h2:Lx t us):Lx (c::t) (ws++us):=
 Lx.app h1 h2 (q7i hc [] t)
theorem Lx.post {c:UInt8} {s:List UInt8} {ws us:List Wd} (h1:Lx s ws) (hc:q5t c=true) (h2:Lx [c] us):Lx (s++[c]) (ws++us):=
 Lx.app h1 h2 (q1y hc [])
theorem k4j {t:Tn} (h:Lx t.tx t.tk) (l:Nat):Lx (brx l t) (brk l t):=by
 unfold brx brk
 split
 ·exact Lx.pre (Lx.mark (c:=40) rfl) rfl (Lx.post h rfl (Lx.mark (c:=41) rfl))
 ·exact h
theorem y1o:∀ ks:List Tn,(∀ t∈ks,Lx t.tx t.tk)→Lx (cmx ks) (cmk ks)
 | [],_=>Lx.nil
 | [t],h=>by simpa [cmx,cmk] using h t (by simp)
 | t::u::r,h=>by
  have ih:=y1o (u::r) fun x hx=>h x (by simp [hx])
  rw [cmx,cmk]
  have h3:Lx (44::32::cmx (u::r)) ([44]::cmk (u::r)):=by
   have:=Lx.pre (Lx.mark (c:=44) rfl) rfl (Lx.pre (Lx.blank (c:=32) rfl) rfl ih)
   simpa using this
  exact Lx.app (h t (by simp)) h3 (q1y rfl _)
theorem j2o:∀ F:Fo,F.ok→F.exs→∀ t∈F.trs,Lx t.tx t.tk
 | .nil,_,_,t,ht=>by cases ht
 | .cons x k n,hok,hex,t,ht=>by
  have hexk:k.exs:=fun y hy=>hex y (by simp [Fo.nodes,hy])
  have hexn:n.exs:=fun y hy=>hex y (by simp [Fo.nodes,hy])
  have ihk:=j2o k hok.2.1 hexk
  rw [Fo.trs] at ht
  rcases List.mem_cons.1 ht with rfl | ht
  ·have hlen:k.trs.length=kdT x:=by rw [q3e];exact hok.1
   have hc:=y1o k.trs ihk
   rcases q2e (hex x (by simp [Fo.nodes])) with ⟨ho,htx,hn0,hn1,hk⟩ | ⟨ho,hnm,hn0,hk⟩ | ⟨ho,hnm,hn0,hn1,hk⟩ | ⟨ho,htx,hn0,hn1,hk⟩ | ⟨ho,htx,hn0,hk⟩ | ⟨ho,htx,hn0,hk⟩
   ·have h1:(q0m x k.trs).tx=q3y x.n.toNat:=by simp [q0m,q2w,ho]
    have h2:(q0m x k.trs).tk=[q3y x.n.toNat]:=by simp [q0m,q2p,ho]
    rw [h1,h2]
    exact Lx.num _ (by omega)
   ·obtain ⟨c,z,e,_,_,h8,hall⟩:=q7n (w:=btL x.tx) hnm
    have h1:(q0m x k.trs).tx=btL x.tx:=by simp [q0m,q2w,ho]
    have h2:(q0m x k.trs).tk=[btL x.tx]:=by simp [q0m,q2p,ho]
    rw [h1,h2]
    exact Lx.name hall (by rw [e];simp) h8
   ·obtain ⟨c,z,e,_,_,h8,hall⟩:=q7n (w:=btL x.tx) hnm
    have h1:(q0m x k.trs).tx=btL x.tx++40::(cmx k.trs++[41]):=by simp [q0m,q2w,ho]
    have h2:(q0m x k.trs).tk=[btL x.tx]++([[40]]++(cmk k.trs++[[41]])):=by simp [q0m,q2p,ho]
    rw [h1,h2]
    exact Lx.app (Lx.name hall (by rw [e];simp) h8) (Lx.pre (Lx.mark (c:=40) rfl) rfl (Lx.post hc rfl (Lx.mark (c:=41) rfl))) (q1y rfl _)
   ·have h1:(q0m x k.trs).tx=91::(cmx k.trs++[93]):=by simp [q0m,q2w,ho]
    have h2:(q0m x k.trs).tk=[[91]]++(cmk k.trs++[[93]]):=by simp [q0m,q2p,ho]
    rw [h1,h2]
    exact Lx.pre (Lx.mark (c:=91) rfl) rfl (Lx.post hc rfl (Lx.mark (c:=93) rfl))
   ·obtain ⟨a,b,hab⟩:=v9o (hlen.trans hk)
    rw [hab] at ihk ⊢
    have h1:(q0m x [a,b]).tx=brx 0 a++32::43::32::brx 1 b:=by simp [q0m,q2w,two2,ho]
    have h2:(q0m x [a,b]).tk=brk 0 a++([]++([[43]]++([]++brk 1 b))):=by simp [q0m,q2p,two2,ho]
    rw [h1,h2]
    exact Lx.app (k4j (ihk a (by simp)) 0) (Lx.pre (Lx.blank (c:=32) rfl) rfl (Lx.pre (Lx.mark (c:=43) rfl) rfl (Lx.pre (Lx.blank (c:=32) rfl) rfl (k4j (ihk b (by simp)) 1)))) (q1y rfl _)
   ·obtain ⟨a,b,hab⟩:=v9o (hlen.trans hk)
    rw [hab] at ihk ⊢
    have h1:(q0m x [a,b]).tx=brx 1 a++32::42::32::brx 2 b:=by simp [q0m,q2w,two2,ho]
    have h2:(q0m x [a,b]).tk=brk 1 a++([]++([[42]]++([]++brk 2 b))):=by simp [q0m,q2p,two2,ho]
    rw [h1,h2]
    exact Lx.app (k4j (ihk a (by simp)) 1) (Lx.pre (Lx.blank (c:=32) rfl) rfl (Lx.pre (Lx.mark (c:=42) rfl) rfl (Lx.pre (Lx.blank (c:=32) rfl) rfl (k4j (ihk b (by simp)) 2)))) (q1y rfl _)
  ·exact j2o n hok.2.2 hexn t ht
end Go.Proofs.YtchdplceopegoaaGreatDoor
