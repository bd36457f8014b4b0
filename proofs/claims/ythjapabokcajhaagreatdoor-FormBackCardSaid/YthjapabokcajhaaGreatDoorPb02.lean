/- Texts as one: DocP, FlatP, WayP, LayP. -/
import Derived.Lib.Strings
import Derived.Test.YthjapabokcajhaaGreatDoorPb01
namespace Go.Proofs.YthjapabokcajhaaGreatDoor
structure Nd where
 op:Int
 tx:ByteArray
 n:Int
def pts (op:Int):Nat:=if op=6∨op=9 then 2 else if op=7∨op=8 then 1 else 0
theorem v2s (op:Int):pts op≤2:=by unfold pts;split<;>(try split)<;>omega
def cnt:List Nd→Nat→Option Nat
 | _,0=>some 0
 | [],_+1=>none
 | x::r,m+1=>(cnt r (pts x.op+m)).map (· + 1)
theorem q7d (ds:List Nd):cnt ds 0=some 0:=by cases ds<;>rfl
theorem z0d (m:Nat):cnt [] (m+1)=none:=rfl
theorem q3v (x:Nd) (r:List Nd) (m:Nat):cnt (x::r) (m+1)=(cnt r (pts x.op+m)).map (· + 1):=rfl
theorem k9e:∀ (ds:List Nd) (m k:Nat),cnt ds m=some k→m≤k∧k≤ds.length
 | ds,0,k,h=>by rw [q7d] at h;cases h;simp
 | [],m+1,k,h=>by rw [z0d] at h;cases h
 | x::r,m+1,k,h=>by
  rw [q3v,Option.map_eq_some_iff] at h
  obtain ⟨j,h1,rfl⟩:=h
  have:=k9e r _ j h1
  simp
  omega
theorem k9d:∀ (ds:List Nd) (a b:Nat),cnt ds (a+b)=(cnt ds a).bind fun k=>(cnt (ds.drop k) b).map (k + ·)
 | ds,0,b=>by
  rw [q7d]
  simp
 | [],a+1,b=>by rw [show a+1+b=(a+b)+1 by omega,z0d,z0d];rfl
 | x::r,a+1,b=>by
  rw [show a+1+b=(a+b)+1 by omega,q3v,q3v,show pts x.op+(a+b)=(pts x.op+a)+b by omega,k9d r _ b]
  cases cnt r (pts x.op+a) with
  | none=>rfl
  | some k=>
   simp only [Option.bind_some,Option.map_some,List.drop_succ_cons]
   cases cnt (r.drop k) b with
   | none=>rfl
   | some j=>simp;omega
theorem k9f:∀ (ds:List Nd) (m k i:Nat),cnt ds m=some k→i<k→∃ m',cnt (ds.drop i) (m'+1)=some (k - i)
 | ds,0,k,i,h,hi=>by rw [q7d] at h;cases h;omega
 | [],m+1,k,i,h,hi=>by rw [z0d] at h;cases h
 | x::r,m+1,k,i,h,hi=>by
  cases i with
  | zero=>exact ⟨m,h⟩
  | succ i=>
   rw [q3v,Option.map_eq_some_iff] at h
   obtain ⟨j,h1,rfl⟩:=h
   obtain ⟨m',h2⟩:=k9f r _ j i h1 (by omega)
   exact ⟨m',by rw [List.drop_succ_cons,h2];congr 1;omega⟩
def q1n (ds:List Nd) (i m:Nat):Option Nat:=(cnt (ds.drop i) m).map (i + ·)
theorem k5s (ds:List Nd) (i:Nat):q1n ds i 0=some i:=by simp [q1n,q7d]
theorem k9w (ds:List Nd) (i m:Nat) (h:ds.length≤i):q1n ds i (m+1)=none:=by
 rw [q1n,List.drop_eq_nil_of_le h,z0d];rfl
theorem k5q (ds:List Nd) (i m:Nat) (h:i<ds.length):q1n ds i (m+1)=q1n ds (i+1) (pts ds[i].op+m):=by
 rw [q1n,List.drop_eq_getElem_cons h,q3v,q1n]
 cases cnt (ds.drop (i+1)) (pts ds[i].op+m) with
 | none=>rfl
 | some k=>simp;omega
theorem j7h {ds:List Nd} {i m j:Nat} (h:q1n ds i m=some j):i+m≤j∧(m=0∨j≤ds.length):=by
 rw [q1n,Option.map_eq_some_iff] at h
 obtain ⟨k,h1,rfl⟩:=h
 have h2:=k9e _ _ _ h1
 rw [List.length_drop] at h2
 omega
theorem k9v {ds:List Nd} {i:Nat} (h:q1n ds 0 1=some ds.length) (hi:i<ds.length):∃ j,q1n ds i 1=some j∧i<j∧j≤ds.length:=by
 rw [q1n,Option.map_eq_some_iff] at h
 obtain ⟨k,h1,h2⟩:=h
 have hk:k=ds.length:=by omega
 subst hk
 obtain ⟨m',h3⟩:=k9f _ _ _ i h1 hi
 rw [List.drop_zero,Nat.add_comm m' 1,k9d] at h3
 cases h4:cnt (ds.drop i) 1 with
 | none=>rw [h4] at h3;cases h3
 | some j=>
  have h5:q1n ds i 1=some (i+j):=by rw [q1n,h4];rfl
  have h6:=j7h h5
  exact ⟨i+j,h5,by omega,by omega⟩
def q4y (b:UInt8):Bool:=decide (32≤b.toNat) && decide (b.toNat≤126)
def isW (s:ByteArray):Bool:=decide (1≤s.size) && decide (s.size≤20) && s.data.toList.all q4y
def q0u (x:Nd):Int:=
 if x.op<1∨9<x.op then 1
 else if (x.op≠1∧x.tx.size≠0)∨(x.op≠7∧x.n≠0) then 2
 else if x.op=1∧isW x.tx=false then 5
 else if x.op=7∧(x.n<0∨8<x.n) then 1 else 0
def q7t:List Nd→Int
 | []=>0
 | x::r=>if q0u x=0 then q7t r else q0u x
def q2n (ds:List Nd):Int:=
 if 400<ds.length then 3 else if q7t ds=0 then (if q1n ds 0 1=some ds.length then 0 else 2) else q7t ds
theorem z0h:∀ (ds:List Nd),(∀ x∈ds,q0u x=0)→q7t ds=0
 | [],_=>rfl
 | x::r,h=>by rw [q7t,if_pos (h x (by simp)),z0h r fun y hy=>h y (by simp [hy])]
theorem z2m:∀ (ds:List Nd),q7t ds=0→∀ x∈ds,q0u x=0
 | [],_=>by simp
 | x::r,h=>by
  rw [q7t] at h
  split at h
  ·rename_i h0
   intro y hy
   rcases List.mem_cons.1 hy with rfl | hy
   ·exact h0
   ·exact z2m r h y hy
  ·rename_i h0
   exact absurd h h0
theorem z8m:∀ (ds:List Nd) (k:Nat) (h:k<ds.length),(∀ x∈ds.take k,q0u x=0)→q0u ds[k]≠0→q7t ds=q0u ds[k]
 | x::r,0,_,_,h=>by
  have h':q0u x≠0:=h
  rw [q7t,if_neg h'];rfl
 | x::r,k+1,hk,ha,h=>by
  rw [q7t,if_pos (ha x (by simp)),z8m r k (by simpa using hk) (fun y hy=>ha y (by simp [hy])) h]
  rfl
theorem q5b {ds:List Nd} (h:q2n ds=0):ds.length≤400∧(∀ x∈ds,q0u x=0)∧q1n ds 0 1=some ds.length:=by
 unfold q2n at h
 split at h
 ·cases h
 ·rename_i h1
  split at h
  ·rename_i h2
   split at h
   ·rename_i h3
    exact ⟨by omega,z2m ds h2,h3⟩
   ·cases h
  ·rename_i h2
   exact absurd h h2
theorem v4p {ds:List Nd} (h1:ds.length≤400) (h2:∀ x∈ds,q0u x=0) (h3:q1n ds 0 1=some ds.length):q2n ds=0:=by
 rw [q2n,if_neg (by omega),if_pos (z0h ds h2),if_pos h3]
inductive Tr where
 | leaf (x:Nd)
 | one (x:Nd) (a:Tr)
 | two (x:Nd) (a b:Tr)
def Tr.nodes:Tr→List Nd
 | .leaf x=>[x]
 | .one x a=>x::a.nodes
 | .two x a b=>x::(a.nodes++b.nodes)
def Tr.Wf:Tr→Prop
 | .leaf x=>q0u x=0∧pts x.op=0
 | .one x a=>q0u x=0∧pts x.op=1∧a.Wf
 | .two x a b=>q0u x=0∧pts x.op=2∧a.Wf∧b.Wf
theorem y1k:∀ (ds:List Nd) (m k:Nat),(∀ x∈ds,q0u x=0)→cnt ds m=some k→∃ ts:List Tr,ts.length=m∧(∀ t∈ts,t.Wf)∧ds.take k=(ts.map Tr.nodes).flatten
 | ds,0,k,_,h=>by rw [q7d] at h;cases h;exact ⟨[],rfl,by simp,by simp⟩
 | [],m+1,k,_,h=>by rw [z0d] at h;cases h
 | x::r,m+1,k,hn,h=>by
  rw [q3v,Option.map_eq_some_iff] at h
  obtain ⟨j,h1,rfl⟩:=h
  obtain ⟨ts,e1,e2,e3⟩:=y1k r _ j (fun y hy=>hn y (by simp [hy])) h1
  have hx:=hn x (by simp)
  have h012:pts x.op=0∨pts x.op=1∨pts x.op=2:=by have:=v2s x.op;omega
  rcases h012 with h0 | h0 | h0
  ·exact ⟨.leaf x::ts,by simp [e1,h0],by intro t ht;rcases List.mem_cons.1 ht with rfl | ht;exact ⟨hx,h0⟩;exact e2 t ht,by simp [Tr.nodes,e3]⟩
  ·match ts,e1,e2,e3 with
   | [],e1,_,_=>simp at e1;omega
   | a::ts,e1,e2,e3=>
    refine ⟨.one x a::ts,by simp at e1 ⊢;omega,?_,by simp [Tr.nodes,e3]⟩
    intro t ht
    rcases List.mem_cons.1 ht with rfl | ht
    ·exact ⟨hx,h0,e2 a (by simp)⟩
    ·exact e2 t (by simp [ht])
  ·match ts,e1,e2,e3 with
   | [],e1,_,_=>simp at e1;omega
   | [a],e1,_,_=>simp at e1;omega
   | a::b::ts,e1,e2,e3=>
    refine ⟨.two x a b::ts,by simp at e1 ⊢;omega,?_,by simp [Tr.nodes,e3]⟩
    intro t ht
    rcases List.mem_cons.1 ht with rfl | ht
    ·exact ⟨hx,h0,e2 a (by simp),e2 b (by simp)⟩
    ·exact e2 t (by simp [ht])
theorem z1o:∀ (t:Tr) (r:List Nd) (m:Nat),t.Wf→cnt (t.nodes++r) (m+1)=(cnt r m).map (t.nodes.length + ·)
 | .leaf x,r,m,h=>by
  simp only [Tr.nodes,List.cons_append,List.nil_append,q3v,h.2,Nat.zero_add,List.length_cons,List.length_nil]
  cases cnt r m<;>simp [Nat.add_comm]
 | .one x a,r,m,h=>by
  simp only [Tr.nodes,List.cons_append,q3v,h.2.1,Nat.add_comm 1 m,z1o a r m h.2.2,List.length_cons]
  cases cnt r m<;>simp;omega
 | .two x a b,r,m,h=>by
  simp only [Tr.nodes,List.cons_append,List.append_assoc,q3v,h.2.1,show 2+m=(m+1)+1 by omega,z1o a (b.nodes++r) (m+1) h.2.2.1,z1o b r m h.2.2.2,List.length_cons,List.length_append]
  cases cnt r m<;>simp;omega
theorem Tr.pos:∀ t:Tr,0<t.nodes.length
 | .leaf _=>by simp [Tr.nodes]
 | .one _ _=>by simp [Tr.nodes]
 | .two _ _ _=>by simp [Tr.nodes]
theorem k5r {ds:List Nd} {i:Nat} {t:Tr} {r:List Nd} (h:t.Wf) (hd:ds.drop i=t.nodes++r):q1n ds i 1=some (i+t.nodes.length):=by
 rw [q1n,hd,z1o t r 0 h,q7d];rfl
theorem j4r {ds:List Nd} {i j:Nat} (hn:∀ x∈ds,q0u x=0) (h:q1n ds i 1=some j):∃ t:Tr,t.Wf∧ds.drop i=t.nodes++ds.drop j∧j=i+t.nodes.length:=by
 rw [q1n,Option.map_eq_some_iff] at h
 obtain ⟨k,h1,rfl⟩:=h
 obtain ⟨ts,e1,e2,e3⟩:=y1k _ _ _ (fun x hx=>hn x (List.mem_of_mem_drop hx)) h1
 match ts,e1,e2,e3 with
 | [t],_,e2,e3=>
  have e4:(ds.drop i).take k=t.nodes:=by simpa using e3
  have e5:=k9e _ _ _ h1
  refine ⟨t,e2 t (by simp),?_,?_⟩
  ·rw [←e4,←List.drop_drop,List.take_append_drop]
  ·rw [←e4,List.length_take];omega
theorem z6e {ds:List Nd} (h:q2n ds=0):∃ t:Tr,t.Wf∧ds=t.nodes:=by
 obtain ⟨_,h2,h3⟩:=q5b h
 obtain ⟨t,ht,e1,e2⟩:=j4r h2 h3
 refine ⟨t,ht,?_⟩
 rw [List.drop_zero,List.drop_length,List.append_nil] at e1
 exact e1
theorem q9r {t:Tr} (h:t.Wf) (hl:t.nodes.length≤400):q2n t.nodes=0:=by
 refine v4p hl ?_ ?_
 ·clear hl
  induction t with
  | leaf x=>intro y hy;simp [Tr.nodes] at hy;subst hy;exact h.1
  | one x a ih=>
   intro y hy
   rcases List.mem_cons.1 hy with rfl | hy
   ·exact h.1
   ·exact ih h.2.2 y hy
  | two x a b ia ib=>
   intro y hy
   rcases List.mem_cons.1 hy with rfl | hy
   ·exact h.1
   ·rcases List.mem_append.1 hy with hy | hy
    ·exact ia h.2.2.1 y hy
    ·exact ib h.2.2.2 y hy
 ·have:=k5r (ds:=t.nodes) (i:=0) (r:=[]) h (by simp)
  simpa using this
theorem q1w {x:Nd} (h:q0u x=0):1≤x.op∧x.op≤9∧(x.op=1∨x.tx.size=0)∧(x.op=7∨x.n=0)∧(x.op=1→isW x.tx=true)∧(x.op=7→0≤x.n∧x.n≤8):=by
 unfold q0u at h
 split at h
 ·cases h
 split at h
 ·cases h
 split at h
 ·cases h
 split at h
 ·cases h
 rename_i h1 h2 h3 h4
 refine ⟨by omega,by omega,by omega,by omega,?_,by omega⟩
 intro h5
 cases h6:isW x.tx with
 | true=>rfl
 | false=>exact absurd ⟨h5,h6⟩ h3
theorem q3y {s:ByteArray} (h:isW s=true):1≤s.size∧s.size≤20:=by
 simp [isW] at h
 omega
theorem q0x (s:ByteArray):s.data.toList.length=s.size:=(Lib.size_eq s).symm
theorem q4u {x:Nd} (h:q0u x=0) (hp:pts x.op=0):x.op=1∨x.op=2∨x.op=3∨x.op=4∨x.op=5:=by
 have:=q1w h
 unfold pts at hp
 split at hp
 ·cases hp
 split at hp
 ·cases hp
 omega
theorem z1b {x:Nd} (hp:pts x.op=1):x.op=7∨x.op=8:=by
 unfold pts at hp
 split at hp
 ·cases hp
 split at hp
 ·omega
 ·cases hp
theorem q9u {x:Nd} (hp:pts x.op=2):x.op=6∨x.op=9:=by
 unfold pts at hp
 split at hp
 ·omega
 split at hp<;>cases hp
theorem z8d {a b:ByteArray} (h:a.data.toList=b.data.toList):a=b:=by
 cases a;cases b
 simp only [ByteArray.mk.injEq]
 exact Array.toList_inj.1 h
theorem z9x {a:ByteArray} (h:a.size=0):a=⟨#[]⟩:=z8d (by
 have:=q0x a
 rw [h] at this
 rw [List.eq_nil_of_length_eq_zero this])
end Go.Proofs.YthjapabokcajhaaGreatDoor
namespace Go.Proofs.YthjapabokcajhaaGreatDoor
def Tr.flat:Tr→Option (List UInt8)
 | .leaf x=>if x.op=1 then some x.tx.data.toList else if x.op=2 then some [32] else if x.op=4 then none else some []
 | .one _ a=>a.flat
 | .two x a b=>if x.op=6 then (match a.flat,b.flat with | some s,some t=>some (s++t) | _,_=>none) else a.flat
def Tr.line (t:Tr):ByteArray:=⟨(t.flat.getD []).toArray⟩
def Tr.isFlat (t:Tr):Bool:=t.flat.isSome
theorem z9c (t:Tr):t.line.data.toList=t.flat.getD []:=by simp [Tr.line]
theorem z9d (t:Tr):t.line.size=(t.flat.getD []).length:=by rw [←q0x,z9c]
theorem z2q:∀ t:Tr,t.Wf→(t.flat.getD []).length≤20*t.nodes.length
 | .leaf x,h=>by
  obtain ⟨_,_,_,_,h5,_⟩:=q1w h.1
  simp only [Tr.flat,Tr.nodes]
  split
  ·rename_i h1
   have:=q3y (h5 h1)
   have e:=q0x x.tx
   simp only [Option.getD_some,List.length_cons,List.length_nil]
   omega
  ·repeat' split
   all_goals simp
 | .one x a,h=>by
  have:=z2q a h.2.2
  simp only [Tr.flat,Tr.nodes,List.length_cons]
  omega
 | .two x a b,h=>by
  have h1:=z2q a h.2.2.1
  have h2:=z2q b h.2.2.2
  simp only [Tr.flat,Tr.nodes,List.length_cons,List.length_append]
  split
  ·cases ha:a.flat with
   | none=>simp
   | some s=>
    cases hb:b.flat with
    | none=>simp
    | some t=>
     rw [ha] at h1
     rw [hb] at h2
     simp only [Option.getD_some] at h1 h2 ⊢
     rw [List.length_append]
     omega
  ·omega
theorem q5f:∀ (t:Tr) (s:List UInt8),t.Wf→t.flat=some s→∀ b∈s,b≠10
 | .leaf x,s,h,e=>by
  obtain ⟨_,_,_,_,h5,_⟩:=q1w h.1
  simp only [Tr.flat] at e
  split at e
  ·rename_i h1
   cases e
   have hw:=h5 h1
   simp only [isW,Bool.and_eq_true,List.all_eq_true] at hw
   intro b hb hc
   have:=hw.2 b hb
   subst hc
   simp [q4y] at this
  ·split at e
   ·cases e;simp
   ·split at e
    ·cases e
    ·cases e;simp
 | .one x a,s,h,e=>q5f a s h.2.2 e
 | .two x a b,s,h,e=>by
  simp only [Tr.flat] at e
  split at e
  ·cases ha:a.flat with
   | none=>rw [ha] at e;cases e
   | some u=>
    cases hb:b.flat with
    | none=>rw [ha,hb] at e;cases e
    | some v=>
     rw [ha,hb] at e
     cases e
     intro c hc
     rcases List.mem_append.1 hc with hc | hc
     ·exact q5f a u h.2.2.1 ha c hc
     ·exact q5f b v h.2.2.2 hb c hc
  ·exact q5f a s h.2.2.1 e
end Go.Proofs.YthjapabokcajhaaGreatDoor
namespace Go.Proofs.YthjapabokcajhaaGreatDoor
def Tr.lay:Tr→Nat→List Int→Except Int (List UInt8 × List Int)
 | .leaf x,deep,ws=>if x.op=1 then .ok (x.tx.data.toList,ws) else if x.op=5 then .ok ([],ws) else .ok (10::List.replicate deep 32,ws)
 | .one x a,deep,ws=>
  if x.op=7 then a.lay (deep+x.n.toNat) ws
  else match ws with
   | []=>.error 2
   | c::ws=>if c=1 then a.lay deep ws else match a.flat with
    | none=>.error 4
    | some s=>.ok (s,ws)
 | .two x a b,deep,ws=>
  if x.op=6 then match a.lay deep ws with
   | .error e=>.error e
   | .ok (s,ws1)=>match b.lay deep ws1 with
    | .error e=>.error e
    | .ok (t,ws2)=>.ok (s++t,ws2)
  else match ws with
   | []=>.error 2
   | c::ws=>if c=0 then a.lay deep ws else b.lay deep ws
def Tr.ways:Tr→List (List Int)
 | .leaf _=>[[]]
 | .one x a=>if x.op=7 then a.ways else (if a.isFlat=true then [[0]] else [])++a.ways.map (1::·)
 | .two x a b=>if x.op=6 then a.ways.flatMap fun u=>b.ways.map (u++·) else a.ways.map (0::·)++b.ways.map (1::·)
def q2b (ws:List Int):Prop:=∀ c∈ws,c=0∨c=1
theorem z3o:∀ t:Tr,t.ways≠[]
 | .leaf _=>by simp [Tr.ways]
 | .one x a=>by
  simp only [Tr.ways]
  split
  ·exact z3o a
  ·have:=z3o a
   simp [this]
 | .two x a b=>by
  have h1:=z3o a
  have h2:=z3o b
  simp only [Tr.ways]
  split
  ·obtain ⟨u,us,e⟩:=List.exists_cons_of_ne_nil h1
   rw [e]
   simp [h2]
  ·simp [h1]
theorem q6z:∀ (t:Tr) (u:List Int),u∈t.ways→q2b u
 | .leaf _,u,h=>by simp [Tr.ways] at h;subst h;simp [q2b]
 | .one x a,u,h=>by
  simp only [Tr.ways] at h
  split at h
  ·exact q6z a u h
  ·rcases List.mem_append.1 h with h | h
   ·split at h
    ·simp at h;subst h;simp [q2b]
    ·simp at h
   ·obtain ⟨v,hv,rfl⟩:=List.mem_map.1 h
    have:=q6z a v hv
    intro c hc
    rcases List.mem_cons.1 hc with rfl | hc
    ·exact .inr rfl
    ·exact this c hc
 | .two x a b,u,h=>by
  simp only [Tr.ways] at h
  split at h
  ·obtain ⟨p,hp,hpq⟩:=List.mem_flatMap.1 h
   obtain ⟨q,hq,rfl⟩:=List.mem_map.1 hpq
   have h1:=q6z a p hp
   have h2:=q6z b q hq
   intro c hc
   rcases List.mem_append.1 hc with hc | hc
   ·exact h1 c hc
   ·exact h2 c hc
  ·rcases List.mem_append.1 h with h | h
   ·obtain ⟨v,hv,rfl⟩:=List.mem_map.1 h
    have:=q6z a v hv
    intro c hc
    rcases List.mem_cons.1 hc with rfl | hc
    ·exact .inl rfl
    ·exact this c hc
   ·obtain ⟨v,hv,rfl⟩:=List.mem_map.1 h
    have:=q6z b v hv
    intro c hc
    rcases List.mem_cons.1 hc with rfl | hc
    ·exact .inr rfl
    ·exact this c hc
theorem q6b:∀ (t:Tr) (deep:Nat) (u r:List Int),u∈t.ways→∃ s,t.lay deep (u++r) = .ok (s,r)
 | .leaf x,deep,u,r,h=>by
  simp [Tr.ways] at h
  subst h
  simp only [Tr.lay,List.nil_append]
  split
  ·exact ⟨_,rfl⟩
  ·split
   ·exact ⟨_,rfl⟩
   ·exact ⟨_,rfl⟩
 | .one x a,deep,u,r,h=>by
  simp only [Tr.ways] at h
  simp only [Tr.lay]
  split at h
  ·rename_i h7
   rw [if_pos h7]
   exact q6b a _ u r h
  ·rename_i h7
   rw [if_neg h7]
   rcases List.mem_append.1 h with h | h
   ·split at h
    ·rename_i hf
     simp at h
     subst h
     simp only [List.cons_append,List.nil_append]
     rw [if_neg (by decide)]
     rw [Tr.isFlat] at hf
     cases hfl:a.flat with
     | none=>rw [hfl] at hf;cases hf
     | some s=>exact ⟨s,rfl⟩
    ·simp at h
   ·obtain ⟨v,hv,rfl⟩:=List.mem_map.1 h
    simp only [List.cons_append,if_pos]
    exact q6b a deep v r hv
 | .two x a b,deep,u,r,h=>by
  simp only [Tr.ways] at h
  simp only [Tr.lay]
  split at h
  ·rename_i h6
   rw [if_pos h6]
   obtain ⟨p,hp,hpq⟩:=List.mem_flatMap.1 h
   obtain ⟨q,hq,rfl⟩:=List.mem_map.1 hpq
   obtain ⟨s1,e1⟩:=q6b a deep p (q++r) hp
   obtain ⟨s2,e2⟩:=q6b b deep q r hq
   rw [List.append_assoc,e1]
   simp only [e2]
   exact ⟨_,rfl⟩
  ·rename_i h6
   rw [if_neg h6]
   rcases List.mem_append.1 h with h | h
   ·obtain ⟨v,hv,rfl⟩:=List.mem_map.1 h
    simp only [List.cons_append,if_pos]
    exact q6b a deep v r hv
   ·obtain ⟨v,hv,rfl⟩:=List.mem_map.1 h
    simp only [List.cons_append]
    rw [if_neg (by decide)]
    exact q6b b deep v r hv
theorem q4m:∀ (t:Tr) (deep:Nat) (ws r:List Int) (s:List UInt8),q2b ws→t.lay deep ws = .ok (s,r)→∃ u∈t.ways,ws=u++r
 | .leaf x,deep,ws,r,s,_,h=>by
  refine ⟨[],by simp [Tr.ways],?_⟩
  simp only [Tr.lay] at h
  split at h
  ·cases h;rfl
  ·split at h
   ·cases h;rfl
   ·cases h;rfl
 | .one x a,deep,ws,r,s,h0,h=>by
  simp only [Tr.lay] at h
  simp only [Tr.ways]
  split at h
  ·rename_i h7
   rw [if_pos h7]
   exact q4m a _ ws r s h0 h
  ·rename_i h7
   rw [if_neg h7]
   match ws,h0,h with
   | [],_,h=>cases h
   | c::ws,h0,h=>
    simp only at h
    split at h
    ·rename_i h1
     subst h1
     obtain ⟨u,hu,e⟩:=q4m a deep ws r s (fun d hd=>h0 d (by simp [hd])) h
     exact ⟨1::u,List.mem_append.2 (.inr (List.mem_map.2 ⟨u,hu,rfl⟩)),by rw [e];rfl⟩
    ·rename_i h1
     have hc:c=0:=by have:=h0 c (by simp);omega
     subst hc
     cases hf:a.flat with
     | none=>rw [hf] at h;cases h
     | some v=>
      rw [hf] at h
      cases h
      refine ⟨[0],List.mem_append.2 (.inl ?_),rfl⟩
      rw [if_pos (by rw [Tr.isFlat,hf];rfl)]
      simp
 | .two x a b,deep,ws,r,s,h0,h=>by
  simp only [Tr.lay] at h
  simp only [Tr.ways]
  split at h
  ·rename_i h6
   rw [if_pos h6]
   cases ha:a.lay deep ws with
   | error e=>rw [ha] at h;cases h
   | ok p=>
    obtain ⟨s1,ws1⟩:=p
    rw [ha] at h
    simp only at h
    cases hb:b.lay deep ws1 with
    | error e=>rw [hb] at h;cases h
    | ok q=>
     obtain ⟨s2,ws2⟩:=q
     rw [hb] at h
     cases h
     obtain ⟨u,hu,e1⟩:=q4m a deep ws ws1 s1 h0 ha
     obtain ⟨v,hv,e2⟩:=q4m b deep ws1 r s2 (fun d hd=>h0 d (by rw [e1];simp [hd])) hb
     exact ⟨u++v,List.mem_flatMap.2 ⟨u,hu,List.mem_map.2 ⟨v,hv,rfl⟩⟩,by rw [e1,e2,List.append_assoc]⟩
  ·rename_i h6
   rw [if_neg h6]
   match ws,h0,h with
   | [],_,h=>cases h
   | c::ws,h0,h=>
    simp only at h
    split at h
    ·rename_i h1
     subst h1
     obtain ⟨u,hu,e⟩:=q4m a deep ws r s (fun d hd=>h0 d (by simp [hd])) h
     exact ⟨0::u,List.mem_append.2 (.inl (List.mem_map.2 ⟨u,hu,rfl⟩)),by rw [e];rfl⟩
    ·rename_i h1
     have hc:c=1:=by have:=h0 c (by simp);omega
     subst hc
     obtain ⟨u,hu,e⟩:=q4m b deep ws r s (fun d hd=>h0 d (by simp [hd])) h
     exact ⟨1::u,List.mem_append.2 (.inr (List.mem_map.2 ⟨u,hu,rfl⟩)),by rw [e];rfl⟩
def Tr.show (t:Tr) (ws:List Int):Except Int (List UInt8):=
 if ws.all (fun c=>c == 0 || c == 1)=true then match t.lay 0 ws with
  | .error e=>.error e
  | .ok (s,[])=>.ok s
  | .ok (_,_::_)=>.error 2
 else .error 1
theorem k5b {ws:List Int}:ws.all (fun c=>c == 0 || c == 1)=true↔q2b ws:=by
 simp [q2b]
theorem z9w (t:Tr) (ws:List Int):(∃ s,t.show ws = .ok s)↔ws∈t.ways:=by
 constructor
 ·rintro ⟨s,h⟩
  unfold Tr.show at h
  split at h
  ·rename_i h0
   cases hl:t.lay 0 ws with
   | error e=>rw [hl] at h;cases h
   | ok p=>
    obtain ⟨u,r⟩:=p
    rw [hl] at h
    cases r with
    | cons c r=>cases h
    | nil=>
     obtain ⟨v,hv,e⟩:=q4m t 0 ws [] u (k5b.1 h0) hl
     rw [List.append_nil] at e
     rw [e];exact hv
  ·cases h
 ·intro h
  obtain ⟨s,hs⟩:=q6b t 0 ws [] h
  rw [List.append_nil] at hs
  refine ⟨s,?_⟩
  unfold Tr.show
  rw [if_pos (k5b.2 (q6z t ws h)),hs]
def q2j:List Int→List Int→Prop
 | a::al,b::bs=>if a=b then q2j al bs else a<b
 | _,_=>False
theorem z2b:∀ (u v r s:List Int),q2j u v→q2j (u++r) (v++s)
 | a::al,b::bs,r,s,h=>by
  simp only [List.cons_append,q2j] at h ⊢
  split
  ·rename_i e;rw [if_pos e] at h;exact z2b al bs r s h
  ·rename_i e;rw [if_neg e] at h;exact h
theorem z4e:∀ (u r s:List Int),q2j r s→q2j (u++r) (u++s)
 | [],r,s,h=>h
 | a::u,r,s,h=>by simp only [List.cons_append,q2j,if_pos];exact z4e u r s h
theorem q9g {α β:Type} {R:β→β→Prop} (f:α→List β):∀ l:List α,(∀ x∈l,(f x).Pairwise R)→l.Pairwise (fun x y=>∀ p∈f x,∀ q∈f y,R p q)→(l.flatMap f).Pairwise R
 | [],_,_=>List.Pairwise.nil
 | x::l,h1,h2=>by
  rw [List.flatMap_cons]
  rw [List.pairwise_cons] at h2
  refine List.pairwise_append.2 ⟨h1 x (by simp),q9g f l (fun y hy=>h1 y (by simp [hy])) h2.2,?_⟩
  intro p hp q hq
  obtain ⟨y,hy,hq⟩:=List.mem_flatMap.1 hq
  exact h2.1 y hy p hp q hq
theorem q9v:∀ t:Tr,t.ways.Pairwise q2j
 | .leaf _=>by simp [Tr.ways]
 | .one x a=>by
  simp only [Tr.ways]
  have ih:=q9v a
  split
  ·exact ih
  ·refine List.pairwise_append.2 ⟨?_,?_,?_⟩
   ·split<;>simp
   ·exact List.pairwise_map.2 (ih.imp fun h=>by simp only [q2j,if_pos];exact h)
   ·intro p hp q hq
    split at hp
    ·simp at hp
     subst hp
     obtain ⟨v,_,rfl⟩:=List.mem_map.1 hq
     simp [q2j]
    ·simp at hp
 | .two x a b=>by
  simp only [Tr.ways]
  have ia:=q9v a
  have ib:=q9v b
  split
  ·refine q9g _ _ ?_ ?_
   ·intro u _
    exact List.pairwise_map.2 (ib.imp fun h=>z4e u _ _ h)
   ·refine ia.imp ?_
    intro u v h p hp q hq
    obtain ⟨r,_,rfl⟩:=List.mem_map.1 hp
    obtain ⟨s,_,rfl⟩:=List.mem_map.1 hq
    exact z2b u v r s h
  ·refine List.pairwise_append.2 ⟨?_,?_,?_⟩
   ·exact List.pairwise_map.2 (ia.imp fun h=>by simp only [q2j,if_pos];exact h)
   ·exact List.pairwise_map.2 (ib.imp fun h=>by simp only [q2j,if_pos];exact h)
   ·intro p hp q hq
    obtain ⟨u,_,rfl⟩:=List.mem_map.1 hp
    obtain ⟨v,_,rfl⟩:=List.mem_map.1 hq
    simp [q2j]
theorem j5j {x:Nd} (h:q0u x=0) (h1:x.op=1):∀ b∈x.tx.data.toList,b≠10:=by
 obtain ⟨_,_,_,_,h5,_⟩:=q1w h
 have hw:=h5 h1
 simp only [isW,Bool.and_eq_true,List.all_eq_true] at hw
 intro b hb hc
 have:=hw.2 b hb
 subst hc
 simp [q4y] at this
end Go.Proofs.YthjapabokcajhaaGreatDoor
namespace Go.Proofs.YthjapabokcajhaaGreatDoor
open Go
abbrev wdD (s:List UInt8):Tr:=.leaf ⟨1,wbS s,0⟩
abbrev blD:Tr:=.leaf ⟨2,⟨#[]⟩,0⟩
abbrev sfD:Tr:=.leaf ⟨3,⟨#[]⟩,0⟩
abbrev twD (a b:Tr):Tr:=.two ⟨6,⟨#[]⟩,0⟩ a b
abbrev dpD (a:Tr):Tr:=.one ⟨7,⟨#[]⟩,2⟩ a
abbrev grD (a:Tr):Tr:=.one ⟨8,⟨#[]⟩,0⟩ a
def inD (l:Nat) (x:Td) (d:Tr):Tr:=if prc x<l then twD (wdD [40]) (twD d (wdD [41])) else d
def kdD:List (Td × Tr)→Tr
 | []=>wdD []
 | p::r=>match r with
  | []=>p.2
  | _::_=>twD (twD p.2 (wdD [44])) (twD blD (kdD r))
def tw2 (f:Td→Tr→Td→Tr→Tr):List (Td × Tr)→Tr
 | [a,b]=>f a.1 a.2 b.1 b.2
 | _=>wdD []
def q1i (op cl:List UInt8) (ks:List (Td × Tr)):Tr:=if ks.length=0 then wdD (op++cl) else grD (twD (wdD op) (twD (dpD (twD sfD (kdD ks))) (twD sfD (wdD cl))))
def q0e (x:Td) (ks:List (Td × Tr)):Tr:=
 if x.op=1 then wdD (q2y x.n.toNat)
 else if x.op=2 then wdD (btL x.tx)
 else if x.op=3 then q1i (btL x.tx++[40]) [41] ks
 else if x.op=4 then q1i [91] [93] ks
 else if x.op=5 then tw2 (fun x a y b=>grD (twD (inD 0 x a) (dpD (twD blD (twD (wdD [43,32]) (inD 1 y b)))))) ks
 else tw2 (fun x a y b=>grD (twD (inD 1 x a) (dpD (twD blD (twD (wdD [42,32]) (inD 2 y b)))))) ks
def Fo.dcs:Fo→List (Td × Tr)
 | .nil=>[]
 | .cons x k n=>(x,q0e x k.dcs)::n.dcs
theorem q3o:∀ F:Fo,F.dcs.length=F.len
 | .nil=>rfl
 | .cons _ _ n=>by simp [Fo.dcs,Fo.len,q3o n]
def stD (x:Td) (d:Tr):Tr:=
 if x.op=7 then grD (twD (wdD ([108,101,116,32]++btL x.tx++[32,61])) (dpD (twD blD (twD d (wdD [59]))))) else twD d (wdD [59])
theorem z2o (s:List UInt8):(wdD s).flat=some s:=rfl
theorem q5e {a b:Tr} {s t:List UInt8} (ha:a.flat=some s) (hb:b.flat=some t):(twD a b).flat=some (s++t):=by
 simp only [Tr.flat,if_true,ha,hb]
theorem j7n (a:Tr):(dpD a).flat=a.flat:=rfl
theorem j7o (a:Tr):(grD a).flat=a.flat:=rfl
theorem j7m:blD.flat=some [32]:=rfl
theorem v9y:sfD.flat=some []:=rfl
def Mt (p:Td × Tr) (t:Tn):Prop:=p.1=t.x∧p.2.flat=some t.tx
theorem j7p {p:Td × Tr} {t:Tn} (h:Mt p t) (l:Nat):(inD l p.1 p.2).flat=some (brx l t):=by
 unfold inD brx
 rw [h.1]
 split
 ·rw [q5e (z2o _) (q5e h.2 (z2o _))];rfl
 ·exact h.2
inductive Mts:List (Td × Tr)→List Tn→Prop where
 | nil:Mts [] []
 | cons {p t ps ts}:Mt p t→Mts ps ts→Mts (p::ps) (t::ts)
theorem v9w:∀ {ps:List (Td × Tr)} {ts:List Tn},Mts ps ts→ps≠[]→(kdD ps).flat=some (cmx ts)
 | _,_,.cons h .nil,_=>by simp only [kdD,cmx,List.append_nil];exact h.2
 | _,_,.cons (ps:=p::ps) (ts:=t::ts) h (.cons h2 h3),_=>by
  have ih:=v9w (Mts.cons h2 h3) (by simp)
  show (twD (twD _ (wdD [44])) (twD blD (kdD (p::ps)))).flat=_
  rw [q5e (q5e h.2 (z2o _)) (q5e j7m ih)]
  simp [cmx]
theorem j0e {ps:List (Td × Tr)} {ts:List Tn} (h:Mts ps ts) (op cl:List UInt8):(q1i op cl ps).flat=some (op++cmx ts++cl):=by
 unfold q1i
 split
 ·rename_i h0
  cases h with
  | nil=>rw [z2o];simp [cmx]
  | cons=>simp at h0
 ·rename_i h0
  have hne:ps≠[]:=fun e=>h0 (by rw [e];rfl)
  rw [j7o,q5e (z2o _) (q5e (by rw [j7n];exact q5e v9y (v9w h hne)) (q5e v9y (z2o _)))]
  simp
theorem v9x {x:Td} {ps:List (Td × Tr)} {ts:List Tn} (h:Mts ps ts) (hx:exN x) (hk:ps.length=kdT x):(q0e x ps).flat=some (k4v x ts):=by
 have two:kdT x=2→∃ a b c d,ps=[a,b]∧ts=[c,d]∧Mt a c∧Mt b d:=fun e=>by
  rw [e] at hk
  cases h with
  | nil=>simp at hk
  | cons h1 h2=>cases h2 with
   | nil=>simp at hk
   | cons h3 h4=>cases h4 with
    | nil=>exact ⟨_,_,_,_,rfl,rfl,h1,h3⟩
    | cons=>simp at hk
 rcases q2a hx with ⟨ho,_⟩ | ⟨ho,_⟩ | ⟨ho,_⟩ | ⟨ho,_⟩ | ⟨ho,_,_,h2⟩ | ⟨ho,_,_,h2⟩
 ·rw [show q0e x ps=wdD (q2y x.n.toNat) by simp [q0e,ho],show k4v x ts=q2y x.n.toNat by simp [k4v,ho]];rfl
 ·rw [show q0e x ps=wdD (btL x.tx) by simp [q0e,ho],show k4v x ts=btL x.tx by simp [k4v,ho]];rfl
 ·rw [show q0e x ps=q1i (btL x.tx++[40]) [41] ps by simp [q0e,ho],show k4v x ts=btL x.tx++40::(cmx ts++[41]) by simp [k4v,ho],j0e h];simp
 ·rw [show q0e x ps=q1i [91] [93] ps by simp [q0e,ho],show k4v x ts=91::(cmx ts++[93]) by simp [k4v,ho],j0e h];simp
 ·obtain ⟨a,b,c,d,rfl,rfl,h3,h4⟩:=two h2
  rw [show q0e x [a,b]=grD (twD (inD 0 a.1 a.2) (dpD (twD blD (twD (wdD [43,32]) (inD 1 b.1 b.2))))) by simp [q0e,tw2,ho],show k4v x [c,d]=brx 0 c++32::43::32::brx 1 d by simp [k4v,two2,ho]]
  rw [j7o,q5e (j7p h3 0) (by rw [j7n];exact q5e j7m (q5e (z2o _) (j7p h4 1)))]
  rfl
 ·obtain ⟨a,b,c,d,rfl,rfl,h3,h4⟩:=two h2
  rw [show q0e x [a,b]=grD (twD (inD 1 a.1 a.2) (dpD (twD blD (twD (wdD [42,32]) (inD 2 b.1 b.2))))) by simp [q0e,tw2,ho],show k4v x [c,d]=brx 1 c++32::42::32::brx 2 d by simp [k4v,two2,ho]]
  rw [j7o,q5e (j7p h3 1) (by rw [j7n];exact q5e j7m (q5e (z2o _) (j7p h4 2)))]
  rfl
theorem z1q:∀ F:Fo,F.ok→F.exs→Mts F.dcs F.trs
 | .nil,_,_=>.nil
 | .cons x k n,hok,hex=>by
  have h1:=z1q k hok.2.1 fun y hy=>hex y (by simp [Fo.nodes,hy])
  have h2:=z1q n hok.2.2 fun y hy=>hex y (by simp [Fo.nodes,hy])
  exact .cons ⟨rfl,v9x h1 (hex x (by simp [Fo.nodes])) (by rw [q3o];exact hok.1)⟩ h2
def dnB (c:UInt8):Bool:=c != 32 && c != 10
def Tr.noE:Tr→Prop
 | .leaf x=>x.op≠4
 | .one _ a=>a.noE
 | .two x a b=>x.op=6∧a.noE∧b.noE
theorem q6p:∀ (t:Tr) (s:List UInt8),t.noE→t.Wf→t.flat=some s→∀ (deep:Nat) (ws ws':List Int) (r:List UInt8),t.lay deep ws = .ok (r,ws')→r.filter dnB=s.filter dnB
 | .leaf x,s,hn,hw,hf,deep,ws,ws',r,h=>by
  simp only [Tr.flat] at hf
  simp only [Tr.lay] at h
  have hrep:(10::List.replicate deep (32:UInt8)).filter dnB=[]:=by
   rw [List.filter_eq_nil_iff]
   intro c hc
   rcases List.mem_cons.1 hc with rfl | hc
   ·decide
   ·rw [List.eq_of_mem_replicate hc];decide
  split at hf
  ·rename_i h1
   rw [if_pos h1] at h
   cases hf;cases h;rfl
  ·rename_i h1
   rw [if_neg h1] at h
   split at hf
   ·rename_i h2
    rw [if_neg (by omega)] at h
    cases hf;cases h
    rw [hrep];rfl
   ·split at hf
    ·cases hf
    ·cases hf
     split at h
     ·cases h;rfl
     ·cases h
      rw [hrep];rfl
 | .one x a,s,hn,hw,hf,deep,ws,ws',r,h=>by
  have hf':a.flat=some s:=hf
  simp only [Tr.lay] at h
  split at h
  ·exact q6p a s hn hw.2.2 hf' _ _ _ _ h
  ·cases ws with
   | nil=>cases h
   | cons c ws=>
    simp only at h
    split at h
    ·exact q6p a s hn hw.2.2 hf' _ _ _ _ h
    ·rw [hf'] at h
     cases h;rfl
 | .two x a b,s,hn,hw,hf,deep,ws,ws',r,h=>by
  obtain ⟨h6,ha,hb⟩:=hn
  simp only [Tr.flat,if_pos h6] at hf
  simp only [Tr.lay,if_pos h6] at h
  cases ea:a.flat with
  | none=>rw [ea] at hf;cases hf
  | some s1=>
   cases eb:b.flat with
   | none=>rw [ea,eb] at hf;cases hf
   | some s2=>
    rw [ea,eb] at hf
    cases hf
    cases la:a.lay deep ws with
    | error e=>rw [la] at h;cases h
    | ok p=>
     obtain ⟨r1,ws1⟩:=p
     rw [la] at h
     simp only at h
     cases lb:b.lay deep ws1 with
     | error e=>rw [lb] at h;cases h
     | ok p2=>
      obtain ⟨r2,ws2⟩:=p2
      rw [lb] at h
      cases h
      rw [List.filter_append,List.filter_append,q6p a s1 ha hw.2.2.1 ea _ _ _ _ la,q6p b s2 hb hw.2.2.2 eb _ _ _ _ lb]
end Go.Proofs.YthjapabokcajhaaGreatDoor
