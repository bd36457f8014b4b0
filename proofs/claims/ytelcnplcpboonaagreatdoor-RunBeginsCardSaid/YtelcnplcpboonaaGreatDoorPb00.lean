import Derived.Test.YtelcnplcpboonaaGreatDoorProg
import Derived.Below
import Derived.Lib.Strings
import Derived.WalkKit
import Derived.Outline
import Derived.WalkLawsBesides
import Derived.Lib.FrozenHead2
import Derived.Lib.OthersKept
import Derived.Lib.Slices
import Derived.Lib.Walk
import Derived.Laws.Externs
import Derived.Shelf.RegionOpenPlain
instance : Coe Int Go.Value := ⟨.int .i64⟩
instance : Coe Nat Go.Value := ⟨fun n => .int .i64 (n : Int)⟩
instance : Coe Nat Go.Addr := ⟨fun b => ⟨b, 0, none⟩⟩
instance (b o : Nat) : CoeDep (Nat × Nat) (b, o) Go.Addr := ⟨⟨b, o, none⟩⟩
instance : Coe Go.World Nat := ⟨fun w => w.heap.size⟩
namespace Go.Proofs.YtelcnplcpboonaaGreatDoor
theorem Zl {n : Nat} : n ≤ n := Nat.le_refl n
theorem Zb {n : Nat} {w : Go.World} : Go.RowKit.Below n w w := Go.RowKit.Below.refl n w
end Go.Proofs.YtelcnplcpboonaaGreatDoor
theorem Go.RowKit.Hid.o {p : Prop} (h : Go.RowKit.Hid p) : p := h
open Go.Proofs.Tryz
namespace Go.Proofs.YtelcnplcpboonaaGreatDoor
structure Nd where
 op:Int
 tx:ByteArray
 n:Int
def pts(op:Int):Nat:=if op=6\/op=9 then 2 else if op=7\/op=8 then 1 else 0
theorem v7h(op:Int):pts op<=2:=by unfold pts;split<;>(try split)<;>omega
def cnt:List Nd->Nat->Option Nat
 | _,0=>some 0
 | [],_+1=>none
 | x::r,m+1=>(cnt r (pts x.op+m)).map (· + 1)
theorem q7b(ds:List Nd):cnt ds 0=some 0:=by cases ds<;>rfl
theorem z0d(m:Nat):cnt [] (m+1)=none:=rfl
theorem q3v(x:Nd)(r:List Nd)(m:Nat):cnt (x::r) (m+1)=(cnt r (pts x.op+m)).map (· + 1):=rfl
theorem j2l:∀(ds:List Nd)(m k:Nat),cnt ds m=some k->m<=k/\k<=ds.length
 | ds,0,k,h=>by rw[q7b]at h;cases h;simp
 | [],m+1,k,h=>by rw[z0d]at h;cases h
 | x::r,m+1,k,h=>by
  rw[q3v,Option.map_eq_some_iff]at h;obtain⟨j,h1,rfl⟩:=h
  have:=j2l r _ j h1
  simp;omega
theorem j2k:∀(ds:List Nd)(a b:Nat),cnt ds (a+b)=(cnt ds a).bind fun k=>(cnt (ds.drop k) b).map (k+·)
 | ds,0,b=>by
  rw[q7b];simp
 | [],a+1,b=>by rw[show a+1+b=(a+b)+1 by omega,z0d,z0d];rfl
 | x::r,a+1,b=>by
  rw[show a+1+b=(a+b)+1 by omega,q3v,q3v,show pts x.op+(a+b)=(pts x.op+a)+b by omega,j2k r _ b];cases cnt r (pts x.op+a)with
  | none=>rfl
  | some k=>
   simp only[Option.bind_some,Option.map_some,List.drop_succ_cons];cases cnt (r.drop k) b with
   | none=>rfl
   | some j=>simp;omega
theorem j2m:∀(ds:List Nd)(m k i:Nat),cnt ds m=some k->i<k->∃m',cnt (ds.drop i) (m'+1)=some (k-i)
 | ds,0,k,i,h,hi=>by rw[q7b]at h;cases h;omega
 | [],m+1,k,i,h,hi=>by rw[z0d]at h;cases h
 | x::r,m+1,k,i,h,hi=>by
  cases i with
  | zero=>exact⟨m,h⟩
  | succ i=>
   rw[q3v,Option.map_eq_some_iff]at h;obtain⟨j,h1,rfl⟩:=h;obtain⟨m',h2⟩:=j2m r _ j i h1 (by omega);exact⟨m',by rw[List.drop_succ_cons,h2];congr 1;omega⟩
def q1l(ds:List Nd)(i m:Nat):Option Nat:=(cnt (ds.drop i) m).map (i+·)
theorem k8c(ds:List Nd)(i:Nat):q1l ds i 0=some i:=by simp[q1l,q7b]
theorem j3c(ds:List Nd)(i m:Nat)(h:ds.length<=i):q1l ds i (m+1)=none:=by
 rw[q1l,List.drop_eq_nil_of_le h,z0d];rfl
theorem k8a(ds:List Nd)(i m:Nat)(h:i<ds.length):q1l ds i (m+1)=q1l ds (i+1) (pts ds[i].op+m):=by
 rw[q1l,List.drop_eq_getElem_cons h,q3v,q1l];cases cnt (ds.drop (i+1)) (pts ds[i].op+m)with
 | none=>rfl
 | some k=>simp;omega
theorem v1k{ds:List Nd}{i m j:Nat}(h:q1l ds i m=some j):i+m<=j/\(m=0\/j<=ds.length):=by
 rw[q1l,Option.map_eq_some_iff]at h;obtain⟨k,A,rfl⟩:=h;have B:=j2l _ _ _ A;rw[List.length_drop]at B;omega
theorem j3b{ds:List Nd}{i:Nat}(h:q1l ds 0 1=some ds.length)(hi:i<ds.length):∃j,q1l ds i 1=some j/\i<j/\j<=ds.length:=by
 rw[q1l,Option.map_eq_some_iff]at h;obtain⟨k,D,H⟩:=h;have E:k=ds.length:=by omega
 subst E;obtain⟨G,A⟩:=j2m _ _ _ i D hi;rw[List.drop_zero,Nat.add_comm G 1,j2k]at A;cases B:cnt (ds.drop i) 1 with
 | none=>rw[B]at A;cases A
 | some j=>
  have C:q1l ds i 1=some (i+j):=by rw[q1l,B];rfl
  have I:=v1k C;exact⟨i+j,C,by omega,by omega⟩
def q4x(b:UInt8):Bool:=decide (32<=b.toNat)&&decide (b.toNat<=126)
def isW(s:ByteArray):Bool:=decide (1<=s.size)&&decide (s.size<=20)&&s.data.toList.all q4x
def q0r(x:Nd):Int:=
 if x.op<1\/9<x.op then 1
 else if(x.op≠1/\x.tx.size≠0)\/(x.op≠7/\x.n≠0)then 2
 else if x.op=1/\isW x.tx=false then 5
 else if x.op=7/\(x.n<0\/8<x.n)then 1 else 0
def q7o:List Nd->Int
 | []=>0
 | x::r=>if q0r x=0 then q7o r else q0r x
def q2o(ds:List Nd):Int:=
 if 400<ds.length then 3 else if q7o ds=0 then(if q1l ds 0 1=some ds.length then 0 else 2)else q7o ds
theorem z0h:∀(ds:List Nd),(∀x∈ds,q0r x=0)->q7o ds=0
 | [],_=>rfl
 | x::r,h=>by rw[q7o,if_pos (h x (by simp)),z0h r fun y hy=>h y (by simp[hy])]
theorem z2v:∀(ds:List Nd),q7o ds=0->∀x∈ds,q0r x=0
 | [],_=>by simp
 | x::r,h=>by
  rw[q7o]at h
  split at h
  ·rename_i h0;intro y hy;rcases List.mem_cons.1 hy with rfl|hy
   ·exact h0
   ·exact z2v r h y hy
  ·rename_i h0;exact absurd h h0
theorem z9h:∀(ds:List Nd)(k:Nat)(h:k<ds.length),(∀x∈ds.take k,q0r x=0)->q0r ds[k]≠0->q7o ds=q0r ds[k]
 | x::r,0,_,_,h=>by
  have h':q0r x≠0:=h;rw[q7o,if_neg h'];rfl
 | x::r,k+1,hk,ha,h=>by
  rw[q7o,if_pos (ha x (by simp)),z9h r k (by simpa using hk) (fun y hy=>ha y (by simp[hy])) h];rfl
theorem q5b{ds:List Nd}(h:q2o ds=0):ds.length<=400/\(∀x∈ds,q0r x=0)/\q1l ds 0 1=some ds.length:=by
 unfold q2o at h
 split at h
 ·cases h
 ·rename_i h1
  split at h
  ·rename_i h2
   split at h
   ·rename_i h3;exact⟨by omega,z2v ds h2,h3⟩
   ·cases h
  ·rename_i h2;exact absurd h h2
theorem v9g{ds:List Nd}(h1:ds.length<=400)(h2:∀x∈ds,q0r x=0)(h3:q1l ds 0 1=some ds.length):q2o ds=0:=by
 rw[q2o,if_neg (by omega),if_pos (z0h ds h2),if_pos h3]
inductive Tr where
 | leaf (x:Nd)
 | one (x:Nd) (a:Tr)
 | two (x:Nd) (a b:Tr)
def Tr.N:Tr->List Nd
 | .leaf x=>[x]
 | .one x a=>x::a.N
 | .two x a b=>x::(a.N++b.N)
def Tr.Wf:Tr->Prop
 | .leaf x=>q0r x=0/\pts x.op=0
 | .one x a=>q0r x=0/\pts x.op=1/\a.Wf
 | .two x a b=>q0r x=0/\pts x.op=2/\a.Wf/\b.Wf
theorem y6e:∀(ds:List Nd)(m k:Nat),(∀x∈ds,q0r x=0)->cnt ds m=some k->∃ts:List Tr,ts.length=m/\(∀t∈ts,t.Wf)/\ds.take k=(ts.map Tr.N).flatten
 | ds,0,k,_,h=>by rw[q7b]at h;cases h;exact⟨[],rfl,by simp,by simp⟩
 | [],m+1,k,_,h=>by rw[z0d]at h;cases h
 | x::r,m+1,k,hn,h=>by
  rw[q3v,Option.map_eq_some_iff]at h;obtain⟨j,h1,rfl⟩:=h;obtain⟨ts,e1,e2,e3⟩:=y6e r _ j (fun y hy=>hn y (by simp[hy])) h1;have hx:=hn x (by simp);have h012:pts x.op=0\/pts x.op=1\/pts x.op=2:=by have:=v7h x.op;omega
  rcases h012 with B|B|B
  ·exact⟨.leaf x::ts,by simp[e1,B],by intro t A;rcases List.mem_cons.1 A with rfl|A;exact⟨hx,B⟩;exact e2 t A,by simp[Tr.N,e3]⟩
  ·match ts,e1,e2,e3 with
   | [],e1,_,_=>simp at e1;omega
   | a::ts,e1,e2,e3=>
    refine⟨.one x a::ts,by simp at e1⊢;omega,?_,by simp[Tr.N,e3]⟩;intro t A;rcases List.mem_cons.1 A with rfl|A
    ·exact⟨hx,B,e2 a (by simp)⟩
    ·exact e2 t (by simp[A])
  ·match ts,e1,e2,e3 with
   | [],e1,_,_=>simp at e1;omega
   | [a],e1,_,_=>simp at e1;omega
   | a::b::ts,e1,e2,e3=>
    refine⟨.two x a b::ts,by simp at e1⊢;omega,?_,by simp[Tr.N,e3]⟩;intro t A;rcases List.mem_cons.1 A with rfl|A
    ·exact⟨hx,B,e2 a (by simp),e2 b (by simp)⟩
    ·exact e2 t (by simp[A])
theorem z1x:∀(t:Tr)(r:List Nd)(m:Nat),t.Wf->cnt (t.N++r) (m+1)=(cnt r m).map (t.N.length+·)
 | .leaf x,r,m,h=>by
  simp only[Tr.N,List.cons_append,List.nil_append,q3v,h.2,Nat.zero_add,List.length_cons,List.length_nil];cases cnt r m<;>simp[Nat.add_comm]
 | .one x a,r,m,h=>by
  simp only[Tr.N,List.cons_append,q3v,h.2.1,Nat.add_comm 1 m,z1x a r m h.2.2,List.length_cons];cases cnt r m<;>simp;omega
 | .two x a b,r,m,h=>by
  simp only[Tr.N,List.cons_append,List.append_assoc,q3v,h.2.1,show 2+m=(m+1)+1 by omega,z1x a (b.N++r) (m+1) h.2.2.1,z1x b r m h.2.2.2,List.length_cons,List.length_append];cases cnt r m<;>simp;omega
theorem Tr.pos:∀t:Tr,0<t.N.length
 | .leaf _=>by simp[Tr.N]
 | .one _ _=>by simp[Tr.N]
 | .two _ _ _=>by simp[Tr.N]
theorem k8b{ds:List Nd}{i:Nat}{t:Tr}{r:List Nd}(h:t.Wf)(hd:ds.drop i=t.N++r):q1l ds i 1=some (i+t.N.length):=by
 rw[q1l,hd,z1x t r 0 h,q7b];rfl
theorem j8j{ds:List Nd}{i j:Nat}(hn:∀x∈ds,q0r x=0)(h:q1l ds i 1=some j):∃t:Tr,t.Wf/\ds.drop i=t.N++ds.drop j/\j=i+t.N.length:=by
 rw[q1l,Option.map_eq_some_iff]at h;obtain⟨k,D,rfl⟩:=h;obtain⟨G,E,A,B⟩:=y6e _ _ _ (fun x hx=>hn x (List.mem_of_mem_drop hx)) D
 match G,E,A,B with
 | [t],_,A,B=>
  have C:(ds.drop i).take k=t.N:=by simpa using B
  have H:=j2l _ _ _ D;refine⟨t,A t (by simp),?_,?_⟩
  ·rw[<-C,<-List.drop_drop,List.take_append_drop]
  ·rw[<-C,List.length_take];omega
theorem z6s{ds:List Nd}(h:q2o ds=0):∃t:Tr,t.Wf/\ds=t.N:=by
 obtain⟨_,B,C⟩:=q5b h;obtain⟨t,D,A,E⟩:=j8j B C;refine⟨t,D,?_⟩;rw[List.drop_zero,List.drop_length,List.append_nil]at A;exact A
theorem q9n{t:Tr}(h:t.Wf)(hl:t.N.length<=400):q2o t.N=0:=by
 refine v9g hl ?_ ?_
 ·clear hl
  induction t with
  | leaf x=>intro y A;simp[Tr.N]at A;subst A;exact h.1
  | one x a ih=>
   intro y A;rcases List.mem_cons.1 A with rfl|A
   ·exact h.1
   ·exact ih h.2.2 y A
  | two x a b ia ib=>
   intro y A;rcases List.mem_cons.1 A with rfl|A
   ·exact h.1
   ·rcases List.mem_append.1 A with A|A
    ·exact ia h.2.2.1 y A
    ·exact ib h.2.2.2 y A
 ·have:=k8b (ds:=t.N) (i:=0) (r:=[]) h (by simp)
  simpa using this
theorem q1s{x:Nd}(h:q0r x=0):1<=x.op/\x.op<=9/\(x.op=1\/x.tx.size=0)/\(x.op=7\/x.n=0)/\(x.op=1->isW x.tx=true)/\(x.op=7->0<=x.n/\x.n<=8):=by
 unfold q0r at h
 split at h
 ·cases h
 split at h
 ·cases h
 split at h
 ·cases h
 split at h
 ·cases h
 rename_i h1 h2 h3 h4;refine⟨by omega,by omega,by omega,by omega,?_,by omega⟩;intro A;cases B:isW x.tx with
 | true=>rfl
 | false=>exact absurd ⟨A,B⟩ h3
theorem q3y{s:ByteArray}(h:isW s=true):1<=s.size/\s.size<=20:=by
 simp[isW]at h;omega
theorem q0y(s:ByteArray):s.data.toList.length=s.size:=(Lib.size_eq s).symm
theorem q4t{x:Nd}(h:q0r x=0)(hp:pts x.op=0):x.op=1\/x.op=2\/x.op=3\/x.op=4\/x.op=5:=by
 have:=q1s h
 unfold pts at hp
 split at hp
 ·cases hp
 split at hp
 ·cases hp
 omega
theorem z1g{x:Nd}(hp:pts x.op=1):x.op=7\/x.op=8:=by
 unfold pts at hp
 split at hp
 ·cases hp
 split at hp
 ·omega
 ·cases hp
theorem q9q{x:Nd}(hp:pts x.op=2):x.op=6\/x.op=9:=by
 unfold pts at hp
 split at hp
 ·omega
 split at hp<;>cases hp
theorem z8w{a b:ByteArray}(h:a.data.toList=b.data.toList):a=b:=by
 cases a;cases b;simp only[ByteArray.mk.injEq];exact Array.toList_inj.1 h
theorem k0x{a:ByteArray}(h:a.size=0):a=⟨#[]⟩:=z8w (by
 have:=q0y a
 rw[h]at this
 rw[List.eq_nil_of_length_eq_zero this])
end Go.Proofs.YtelcnplcpboonaaGreatDoor
namespace Go.Proofs.YtelcnplcpboonaaGreatDoor
open Go Go.RowKit
def q0s(n:Int):Value:=if n=0 then .nilIface else .iface 50 (.int .i64 n)
theorem q0q:q0s 0=.nilIface:=rfl
theorem z5e:q0s 1=.iface 50 (.int .i64 1):=rfl
theorem z9e:q0s 2=.iface 50 (.int .i64 2):=rfl
theorem k5e:q0s 3=.iface 50 (.int .i64 3):=rfl
theorem y4e:q0s 4=.iface 50 (.int .i64 4):=rfl
theorem v6d:q0s 5=.iface 50 (.int .i64 5):=rfl
theorem q0h{n:Int}(h:n≠0):q0s n=.iface 50 (.int .i64 n):=by simp[q0s,h]
theorem q0t{W w1:World}(hb:Below W W w1):(∀b o,b<W.heap.size->w1.cell? ⟨b,o,none⟩=W.cell? ⟨b,o,none⟩)/\(∀b o,b<W.heap.size->w1.frozen? ⟨b,o,none⟩=W.frozen? ⟨b,o,none⟩):=
 ⟨fun b o h=>hb.cell (p:=⟨b,o,none⟩) h,fun b o h=>hb.frozen (p:=⟨b,o,none⟩) h⟩
theorem ane{b o b' o':Nat}(h:b≠b'\/o≠o'):(⟨b,o,none⟩:Addr)≠⟨b',o',none⟩:=by
 intro e;simp at e;omega
theorem cso{W:World}{b o b' o':Nat}{v:Value}(h:b≠b'\/o≠o'):(W.setCell ⟨b,o,none⟩ v).cell? ⟨b',o',none⟩=W.cell? ⟨b',o',none⟩:=World.cell?_setCell_other (h:=ane h) ..
theorem css{W:World}{a:Addr}{v u:Value}(h:W.cell? a=some u):(W.setCell a v).cell? a=some v:=World.cell?_setCell_same (h:=h) ..
theorem csf{W:World}{a b:Addr}{v:Value}:(W.setCell a v).frozen? b=W.frozen? b:=World.frozen?_setCell ..
theorem q8i{n:Nat}{w w1 w2:World}{A:Obj}(h1:Below n w w1)(hn:n<=w.heap.size)(hb:Below (w1.alloc A).heap.size (w1.alloc A) w2):Below n w w2:=
 (h1.alloc (by have:=h1.size;omega) _).trans (hb.mono (by have:=h1.size;simp;omega))
theorem q0g{n:Nat}{w w1 w2:World}(h1:Below n w w1)(hn:n<=w.heap.size)(hb:Below w1 w1 w2):Below n w w2:=
 h1.trans (hb.mono (by have:=h1.size;omega))
theorem hid{p:Prop}(h:p):Hid p:=h
end Go.Proofs.YtelcnplcpboonaaGreatDoor
namespace Go.Proofs.YtelcnplcpboonaaGreatDoor
def Tr.flat:Tr->Option (List UInt8)
 | .leaf x=>if x.op=1 then some x.tx.data.toList else if x.op=2 then some [32]else if x.op=4 then none else some []
 | .one _ a=>a.flat
 | .two x a b=>if x.op=6 then(match a.flat,b.flat with|some s,some t=>some (s++t)|_,_=>none)else a.flat
def Tr.line(t:Tr):ByteArray:=⟨(t.flat.getD []).toArray⟩
def Tr.isFlat(t:Tr):Bool:=t.flat.isSome
theorem z9q(t:Tr):t.line.data.toList=t.flat.getD []:=by simp[Tr.line]
theorem z9r(t:Tr):t.line.size=(t.flat.getD []).length:=by rw[<-q0y,z9q]
theorem z2z:∀t:Tr,t.Wf->(t.flat.getD []).length<=20*t.N.length
 | .leaf x,h=>by
  obtain⟨_,_,_,_,h5,_⟩:=q1s h.1;simp only[Tr.flat,Tr.N]
  split
  ·rename_i h1
   have:=q3y (h5 h1)
   have e:=q0y x.tx;simp only[Option.getD_some,List.length_cons,List.length_nil];omega
  ·repeat' split
   all_goals simp
 | .one x a,h=>by
  have:=z2z a h.2.2
  simp only[Tr.flat,Tr.N,List.length_cons];omega
 | .two x a b,h=>by
  have h1:=z2z a h.2.2.1;have h2:=z2z b h.2.2.2;simp only[Tr.flat,Tr.N,List.length_cons,List.length_append]
  split
  ·cases ha:a.flat with
   | none=>simp
   | some s=>
    cases hb:b.flat with
    | none=>simp
    | some t=>
     rw[ha]at h1;rw[hb]at h2;simp only[Option.getD_some]at h1 h2⊢;rw[List.length_append];omega
  ·omega
theorem q5f:∀(t:Tr)(s:List UInt8),t.Wf->t.flat=some s->∀b∈s,b≠10
 | .leaf x,s,h,e=>by
  obtain⟨_,_,_,_,h5,_⟩:=q1s h.1;simp only[Tr.flat]at e
  split at e
  ·rename_i h1;cases e;have hw:=h5 h1;simp only[isW,Bool.and_eq_true,List.all_eq_true]at hw;intro b hb hc
   have:=hw.2 b hb
   subst hc;simp[q4x]at this
  ·split at e
   ·cases e;simp
   ·split at e
    ·cases e
    ·cases e;simp
 | .one x a,s,h,e=>q5f a s h.2.2 e
 | .two x a b,s,h,e=>by
  simp only[Tr.flat]at e
  split at e
  ·cases ha:a.flat with
   | none=>rw[ha]at e;cases e
   | some u=>
    cases hb:b.flat with
    | none=>rw[ha,hb]at e;cases e
    | some v=>
     rw[ha,hb]at e;cases e;intro c hc;rcases List.mem_append.1 hc with hc|hc
     ·exact q5f a u h.2.2.1 ha c hc
     ·exact q5f b v h.2.2.2 hb c hc
  ·exact q5f a s h.2.2.1 e
def Tr.lay:Tr->Nat->List Int->Except Int (List UInt8 × List Int)
 | .leaf x,deep,ws=>if x.op=1 then .ok (x.tx.data.toList,ws)else if x.op=5 then .ok ([],ws)else .ok (10::List.replicate deep 32,ws)
 | .one x a,deep,ws=>
  if x.op=7 then a.lay (deep+x.n.toNat) ws
  else match ws with
   | []=>.error 2
   | c::ws=>if c=1 then a.lay deep ws else match a.flat with
    | none=>.error 4
    | some s=>.ok (s,ws)
 | .two x a b,deep,ws=>
  if x.op=6 then match a.lay deep ws with
   | .error e=>.error e
   | .ok (s,ws1)=>match b.lay deep ws1 with
    | .error e=>.error e
    | .ok (t,ws2)=>.ok (s++t,ws2)
  else match ws with
   | []=>.error 2
   | c::ws=>if c=0 then a.lay deep ws else b.lay deep ws
def Tr.ways:Tr->List (List Int)
 | .leaf _=>[[]]
 | .one x a=>if x.op=7 then a.ways else(if a.isFlat=true then [[0]]else [])++a.ways.map (1::·)
 | .two x a b=>if x.op=6 then a.ways.flatMap fun u=>b.ways.map (u++·)else a.ways.map (0::·)++b.ways.map (1::·)
def q1y(ws:List Int):Prop:=∀c∈ws,c=0\/c=1
theorem z4b:∀t:Tr,t.ways≠[]
 | .leaf _=>by simp[Tr.ways]
 | .one x a=>by
  simp only[Tr.ways]
  split
  ·exact z4b a
  ·have:=z4b a
   simp[this]
 | .two x a b=>by
  have h1:=z4b a;have h2:=z4b b;simp only[Tr.ways]
  split
  ·obtain⟨u,us,e⟩:=List.exists_cons_of_ne_nil h1;rw[e];simp[h2]
  ·simp[h1]
theorem q6v:∀(t:Tr)(u:List Int),u∈t.ways->q1y u
 | .leaf _,u,h=>by simp[Tr.ways]at h;subst h;simp[q1y]
 | .one x a,u,h=>by
  simp only[Tr.ways]at h
  split at h
  ·exact q6v a u h
  ·rcases List.mem_append.1 h with h|h
   ·split at h
    ·simp at h;subst h;simp[q1y]
    ·simp at h
   ·obtain⟨v,hv,rfl⟩:=List.mem_map.1 h
    have:=q6v a v hv
    intro c hc;rcases List.mem_cons.1 hc with rfl|hc
    ·exact .inr rfl
    ·exact this c hc
 | .two x a b,u,h=>by
  simp only[Tr.ways]at h
  split at h
  ·obtain⟨p,hp,hpq⟩:=List.mem_flatMap.1 h;obtain⟨q,hq,rfl⟩:=List.mem_map.1 hpq;have h1:=q6v a p hp;have h2:=q6v b q hq;intro c hc;rcases List.mem_append.1 hc with hc|hc
   ·exact h1 c hc
   ·exact h2 c hc
  ·rcases List.mem_append.1 h with h|h
   ·obtain⟨v,hv,rfl⟩:=List.mem_map.1 h
    have:=q6v a v hv
    intro c hc;rcases List.mem_cons.1 hc with rfl|hc
    ·exact .inl rfl
    ·exact this c hc
   ·obtain⟨v,hv,rfl⟩:=List.mem_map.1 h
    have:=q6v b v hv
    intro c hc;rcases List.mem_cons.1 hc with rfl|hc
    ·exact .inr rfl
    ·exact this c hc
theorem q6b:∀(t:Tr)(deep:Nat)(u r:List Int),u∈t.ways->∃s,t.lay deep (u++r)=.ok (s,r)
 | .leaf x,deep,u,r,h=>by
  simp[Tr.ways]at h;subst h;simp only[Tr.lay,List.nil_append]
  split
  ·exact⟨_,rfl⟩
  ·split
   ·exact⟨_,rfl⟩
   ·exact⟨_,rfl⟩
 | .one x a,deep,u,r,h=>by
  simp only[Tr.ways]at h;simp only[Tr.lay]
  split at h
  ·rename_i h7;rw[if_pos h7];exact q6b a _ u r h
  ·rename_i h7;rw[if_neg h7];rcases List.mem_append.1 h with h|h
   ·split at h
    ·rename_i hf;simp at h;subst h;simp only[List.cons_append,List.nil_append];rw[if_neg (by decide)];rw[Tr.isFlat]at hf;cases hfl:a.flat with
     | none=>rw[hfl]at hf;cases hf
     | some s=>exact⟨s,rfl⟩
    ·simp at h
   ·obtain⟨v,hv,rfl⟩:=List.mem_map.1 h;simp only[List.cons_append,if_pos];exact q6b a deep v r hv
 | .two x a b,deep,u,r,h=>by
  simp only[Tr.ways]at h;simp only[Tr.lay]
  split at h
  ·rename_i h6;rw[if_pos h6];obtain⟨p,hp,hpq⟩:=List.mem_flatMap.1 h;obtain⟨q,hq,rfl⟩:=List.mem_map.1 hpq;obtain⟨s1,e1⟩:=q6b a deep p (q++r) hp;obtain⟨s2,e2⟩:=q6b b deep q r hq;rw[List.append_assoc,e1];simp only[e2];exact⟨_,rfl⟩
  ·rename_i h6;rw[if_neg h6];rcases List.mem_append.1 h with h|h
   ·obtain⟨v,hv,rfl⟩:=List.mem_map.1 h;simp only[List.cons_append,if_pos];exact q6b a deep v r hv
   ·obtain⟨v,hv,rfl⟩:=List.mem_map.1 h;simp only[List.cons_append];rw[if_neg (by decide)];exact q6b b deep v r hv
theorem q4p:∀(t:Tr)(deep:Nat)(ws r:List Int)(s:List UInt8),q1y ws->t.lay deep ws=.ok (s,r)->∃u∈t.ways,ws=u++r
 | .leaf x,deep,ws,r,s,_,h=>by
  refine⟨[],by simp[Tr.ways],?_⟩;simp only[Tr.lay]at h
  split at h
  ·cases h;rfl
  ·split at h
   ·cases h;rfl
   ·cases h;rfl
 | .one x a,deep,ws,r,s,h0,h=>by
  simp only[Tr.lay]at h;simp only[Tr.ways]
  split at h
  ·rename_i h7;rw[if_pos h7];exact q4p a _ ws r s h0 h
  ·rename_i h7;rw[if_neg h7]
   match ws,h0,h with
   | [],_,h=>cases h
   | c::ws,h0,h=>
    simp only at h
    split at h
    ·rename_i h1;subst h1;obtain⟨u,hu,e⟩:=q4p a deep ws r s (fun d hd=>h0 d (by simp[hd])) h;exact⟨1::u,List.mem_append.2 (.inr (List.mem_map.2 ⟨u,hu,rfl⟩)),by rw[e];rfl⟩
    ·rename_i h1;have hc:c=0:=by have:=h0 c (by simp);omega
     subst hc;cases D:a.flat with
     | none=>rw[D]at h;cases h
     | some v=>
      rw[D]at h;cases h;refine⟨[0],List.mem_append.2 (.inl ?_),rfl⟩;rw[if_pos (by rw[Tr.isFlat,D];rfl)];simp
 | .two x a b,deep,ws,r,s,h0,h=>by
  simp only[Tr.lay]at h;simp only[Tr.ways]
  split at h
  ·rename_i h6;rw[if_pos h6];cases B:a.lay deep ws with
   | error e=>rw[B]at h;cases h
   | ok p=>
    obtain⟨I,A⟩:=p;rw[B]at h;simp only at h;cases C:b.lay deep A with
    | error e=>rw[C]at h;cases h
    | ok q=>
     obtain⟨J,K⟩:=q;rw[C]at h;cases h;obtain⟨u,hu,E⟩:=q4p a deep ws A I h0 B;obtain⟨v,H,G⟩:=q4p b deep A r J (fun d hd=>h0 d (by rw[E];simp[hd])) C;exact⟨u++v,List.mem_flatMap.2 ⟨u,hu,List.mem_map.2 ⟨v,H,rfl⟩⟩,by rw[E,G,List.append_assoc]⟩
  ·rename_i h6;rw[if_neg h6]
   match ws,h0,h with
   | [],_,h=>cases h
   | c::ws,h0,h=>
    simp only at h
    split at h
    ·rename_i h1;subst h1;obtain⟨u,hu,e⟩:=q4p a deep ws r s (fun d hd=>h0 d (by simp[hd])) h;exact⟨0::u,List.mem_append.2 (.inl (List.mem_map.2 ⟨u,hu,rfl⟩)),by rw[e];rfl⟩
    ·rename_i h1;have hc:c=1:=by have:=h0 c (by simp);omega
     subst hc;obtain⟨u,hu,e⟩:=q4p b deep ws r s (fun d hd=>h0 d (by simp[hd])) h;exact⟨1::u,List.mem_append.2 (.inr (List.mem_map.2 ⟨u,hu,rfl⟩)),by rw[e];rfl⟩
def Tr.show(t:Tr)(ws:List Int):Except Int (List UInt8):=
 if ws.all (fun c=>c==0||c==1)=true then match t.lay 0 ws with
  | .error e=>.error e
  | .ok (s,[])=>.ok s
  | .ok (_,_::_)=>.error 2
 else .error 1
theorem k7m{ws:List Int}:ws.all (fun c=>c==0||c==1)=true↔q1y ws:=by
 simp[q1y]
theorem k0w(t:Tr)(ws:List Int):(∃s,t.show ws=.ok s)↔ws∈t.ways:=by
 constructor
 ·rintro⟨s,h⟩;unfold Tr.show at h
  split at h
  ·rename_i h0;cases A:t.lay 0 ws with
   | error e=>rw[A]at h;cases h
   | ok p=>
    obtain⟨u,r⟩:=p;rw[A]at h;cases r with
    | cons c r=>cases h
    | nil=>
     obtain⟨v,C,e⟩:=q4p t 0 ws [] u (k7m.1 h0) A;rw[List.append_nil]at e;rw[e];exact C
  ·cases h
 ·intro h;obtain⟨s,B⟩:=q6b t 0 ws [] h;rw[List.append_nil]at B;refine⟨s,?_⟩;unfold Tr.show;rw[if_pos (k7m.2 (q6v t ws h)),B]
def q2g:List Int->List Int->Prop
 | a::al,b::bs=>if a=b then q2g al bs else a<b
 | _,_=>False
theorem z2k:∀(u v r s:List Int),q2g u v->q2g (u++r) (v++s)
 | a::al,b::bs,r,s,h=>by
  simp only[List.cons_append,q2g]at h⊢
  split
  ·rename_i e;rw[if_pos e]at h;exact z2k al bs r s h
  ·rename_i e;rw[if_neg e]at h;exact h
theorem z4z:∀(u r s:List Int),q2g r s->q2g (u++r) (u++s)
 | [],r,s,h=>h
 | a::u,r,s,h=>by simp only[List.cons_append,q2g,if_pos];exact z4z u r s h
theorem q9b{α β:Type}{R:β->β->Prop}(f:α->List β):∀l:List α,(∀x∈l,(f x).Pairwise R)->l.Pairwise (fun x y=>∀p∈f x,∀q∈f y,R p q)->(l.flatMap f).Pairwise R
 | [],_,_=>List.Pairwise.nil
 | x::l,h1,h2=>by
  rw[List.flatMap_cons];rw[List.pairwise_cons]at h2;refine List.pairwise_append.2 ⟨h1 x (by simp),q9b f l (fun y hy=>h1 y (by simp[hy])) h2.2,?_⟩;intro p hp q hq;obtain⟨y,hy,hq⟩:=List.mem_flatMap.1 hq;exact h2.1 y hy p hp q hq
theorem q9s:∀t:Tr,t.ways.Pairwise q2g
 | .leaf _=>by simp[Tr.ways]
 | .one x a=>by
  simp only[Tr.ways];have ih:=q9s a
  split
  ·exact ih
  ·refine List.pairwise_append.2 ⟨?_,?_,?_⟩
   ·split<;>simp
   ·exact List.pairwise_map.2 (ih.imp fun h=>by simp only[q2g,if_pos];exact h)
   ·intro p hp q hq
    split at hp
    ·simp at hp;subst hp;obtain⟨v,_,rfl⟩:=List.mem_map.1 hq;simp[q2g]
    ·simp at hp
 | .two x a b=>by
  simp only[Tr.ways];have ia:=q9s a;have ib:=q9s b
  split
  ·refine q9b _ _ ?_ ?_
   ·intro u _;exact List.pairwise_map.2 (ib.imp fun h=>z4z u _ _ h)
   ·refine ia.imp ?_;intro u v h p hp q hq;obtain⟨r,_,rfl⟩:=List.mem_map.1 hp;obtain⟨s,_,rfl⟩:=List.mem_map.1 hq;exact z2k u v r s h
  ·refine List.pairwise_append.2 ⟨?_,?_,?_⟩
   ·exact List.pairwise_map.2 (ia.imp fun h=>by simp only[q2g,if_pos];exact h)
   ·exact List.pairwise_map.2 (ib.imp fun h=>by simp only[q2g,if_pos];exact h)
   ·intro p hp q hq;obtain⟨u,_,rfl⟩:=List.mem_map.1 hp;obtain⟨v,_,rfl⟩:=List.mem_map.1 hq;simp[q2g]
theorem j9c{x:Nd}(h:q0r x=0)(h1:x.op=1):∀b∈x.tx.data.toList,b≠10:=by
 obtain⟨_,_,_,_,B,_⟩:=q1s h;have A:=B h1;simp only[isW,Bool.and_eq_true,List.all_eq_true]at A;intro b C D
 have:=A.2 b C
 subst D;simp[q4x]at this
end Go.Proofs.YtelcnplcpboonaaGreatDoor
namespace Go.Proofs.YtelcnplcpboonaaGreatDoor
open Go Go.RowKit
set_option maxRecDepth 100000
set_option maxHeartbeats 1000000
structure q0j(B b:Nat)(w w':World):Prop where
 os:w'.os=w.os
 tape:w'.tape=w.tape
 output:w'.output=w.output
 size:w.heap.size<=w'.heap.size
 block:∀k,k<B->k≠b->w'.heap[k]?=w.heap[k]?
section
variable {B b:Nat} {w w' a:World}
theorem q0j.refl(B b:Nat)(w:World):q0j B b w w:=⟨rfl,rfl,rfl,Nat.le_refl _,fun _ _ _=>rfl⟩
theorem q0j.trans{c:World}(h:q0j B b a w)(k:q0j B b w c):q0j B b a c:=
 ⟨k.os.trans h.os,k.tape.trans h.tape,k.output.trans h.output,Nat.le_trans h.size k.size,fun i hi hb=>(k.block i hi hb).trans (h.block i hi hb)⟩
theorem q0j.drew(h:q0j B b a w):q0j B b a w.drew:=⟨h.os,h.tape,h.output,h.size,h.block⟩
theorem q0j.of(h:Below B w w'):q0j B b w w':=⟨h.os,h.tape,h.output,h.size,fun k hk _=>h.block k hk⟩
theorem q0j.W(h:q0j B b w w')(hB:B<=b):Below B w w':=⟨h.os,h.tape,h.output,h.size,fun k hk=>h.block k hk (by omega)⟩
theorem q0j.mono{B':Nat}(h:q0j B b w w')(hB:B'<=B):q0j B' b w w':=⟨h.os,h.tape,h.output,h.size,fun k hk=>h.block k (by omega)⟩
theorem q0j.alloc(h:q0j B b a w)(hB:B<=w.heap.size)(o:Obj):q0j B b a (w.alloc o):=
 h.trans (.of ((Below.refl B w).alloc hB o))
theorem q0j.setCell(h:q0j B b a w){p:Addr}(hp:p.block=b\/B<=p.block)(u:Value):q0j B b a (w.setCell p u):=
 h.trans ⟨rfl,rfl,rfl,by simp[World.setCell],fun k hk hb=>Below.heap_setCell _ _ _ _ (by omega)⟩
theorem q0j.grown{row:Option Nat}(h:q0j B b a w)(hg:w.grownBy w' row)(hB:B<=w.heap.size)(hr:∀k,row=some k->B<=k):q0j B b a w':=
 h.trans ⟨hg.os,hg.tape,hg.output,hg.size,fun k hk _=>hg.block k (by omega) (fun e=>by have:=hr k e.symm;omega)⟩
theorem q0j.cell(h:q0j B b w w'){p:Addr}(hp:p.block<B)(hb:p.block≠b):w'.cell? p=w.cell? p:=World.cell?_of_block (w:=w) (h.block p.block hp hb)
end
def XAt(T:TypeId)(B b:Nat)(p:Value)(bs R:List Value)(w:World):Prop:=
 ∃v,w.heap[b]?=some (.cells (p::v::R).toArray T (0,0))/\w.ownsRowF B 5 1 v bs.length bs/\v.ownBlock≠some b/\(bs=[]->v=.slice none 0 0)
def IsX(T:TypeId)(B b:Nat)(bs R:List Value)(w:World):Prop:=
 XAt T B b (.pointer none) bs R w\/XAt T B b (.pointer (some ⟨b,0,none⟩)) bs R w
section
variable {T:TypeId} {B b:Nat} {p:Value} {bs R:List Value} {w:World}
theorem XAt.cell0(h:XAt T B b p bs R w):w.cell? ⟨b,0,none⟩=some p:=by
 obtain⟨v,A,_⟩:=h;simp[World.cell?,A]
theorem XAt.cellR(h:XAt T B b p bs R w)(i:Nat):w.cell? ⟨b,i+2,none⟩=R[i]?:=by
 obtain⟨v,A,_⟩:=h;simp[World.cell?,A]
theorem XAt.shape(h:XAt T B b p bs R w):w.shape? b=some (T,R.length+2):=by
 obtain⟨v,A,_⟩:=h;simp[World.shape?,A]
theorem XAt.lt(h:XAt T B b p bs R w):b<w.heap.size:=by
 obtain⟨v,C,_⟩:=h;rcases Nat.lt_or_ge b w.heap.size with A|A
 ·exact A
 ·simp[Array.getElem?_eq_none A]at C
theorem XAt.used(h:XAt T B b p bs R w)(q:Value):XAt T B b q bs R (w.setCell ⟨b,0,none⟩ q):=by
 obtain⟨v,E,C,A,D⟩:=h;refine⟨v,?_,?_,A,D⟩
 ·simp[World.setCell,Array.getElem?_modify,E]
 ·exact C.kept (row:=some b) ⟨rfl,rfl,rfl,by simp[World.setCell],fun k _ hk=>Below.heap_setCell _ _ _ _ (fun e=>hk (by simp[e]))⟩ (Or.inr A)
theorem XAt.stored(h:XAt T B b p bs R w)(i:Nat)(q:Value):XAt T B b p bs (R.set i q) (w.setCell ⟨b,i+2,none⟩ q):=by
 obtain⟨v,E,C,A,D⟩:=h;refine⟨v,?_,?_,A,D⟩
 ·simp[World.setCell,Array.getElem?_modify,E]
 ·exact C.kept (row:=some b) ⟨rfl,rfl,rfl,by simp[World.setCell],fun k _ hk=>Below.heap_setCell _ _ _ _ (fun e=>hk (by simp[e]))⟩ (Or.inr A)
theorem XAt.frozen(h:XAt T B b p bs R w)(i:Nat):w.frozen? ⟨b,i,none⟩=false:=by
 obtain⟨v,A,_⟩:=h;simp[World.frozen?,A]
theorem XAt.put{v v':Value}{bs':List Value}(hb:w.heap[b]?=some (.cells (p::v::R).toArray T (0,0)))(A:w.ownsRowF B 5 1 v' bs'.length bs')(D:T≠5)(h0:bs'=[]->v'=.slice none 0 0):
  XAt T B b p bs' R (w.setCell ⟨b,1,none⟩ v'):=by
 have C:=Lib.ownBlock_neF A hb D;refine⟨v',?_,?_,C,h0⟩
 ·simp[World.setCell,Array.getElem?_modify,hb]
 ·exact A.kept (row:=some b) ⟨rfl,rfl,rfl,by simp[World.setCell],fun k _ hk=>Below.heap_setCell _ _ _ _ (fun e=>hk (by simp[e]))⟩ (Or.inr C)
theorem XAt.alloc(h:XAt T B b p bs R w)(o:Obj):XAt T B b p bs R (w.alloc o):=by
 have C:=h.lt;obtain⟨v,G,A,D,E⟩:=h;exact⟨v,(Lib.alloc_old w o b C).trans G,A.kept (World.grownBy_alloc w o none) (by cases H:v.ownBlock<;>simp),D,E⟩
theorem XAt.far{b':Nat}{w':World}{c:Array Value}{t:TypeId}{fz:Nat × Nat}(h:XAt T B b p bs R w)(hx:q0j w b' w w')(D:b≠b')(C:w.heap[b']?=some (.cells c t fz))(ht:t≠5):XAt T B b p bs R w':=by
 have E:=h.lt;obtain⟨v,I,A,G,H⟩:=h;refine⟨v,(hx.block b E D).trans I,A.kept (row:=some b') ⟨hx.os,hx.tape,hx.output,hx.size,fun k hk hkb=>hx.block k hk (fun e=>hkb (by rw[e]))⟩ (Or.inr ?_),G,H⟩;exact Lib.ownBlock_neF A C ht
theorem IsX.at(h:IsX T B b bs R w):∃p,XAt T B b p bs R w:=by
 rcases h with h|h
 ·exact⟨_,h⟩
 ·exact⟨_,h⟩
theorem IsX.lt(h:IsX T B b bs R w):b<w.heap.size:=h.at.elim fun _ h=>h.lt
theorem IsX.cellR(h:IsX T B b bs R w)(i:Nat):w.cell? ⟨b,i+2,none⟩=R[i]?:=h.at.elim fun _ h=>h.cellR i
theorem IsX.frozen(h:IsX T B b bs R w)(i:Nat):w.frozen? ⟨b,i,none⟩=false:=h.at.elim fun _ h=>h.frozen i
theorem IsX.alloc(h:IsX T B b bs R w)(o:Obj):IsX T B b bs R (w.alloc o):=h.imp (·.alloc o) (·.alloc o)
theorem IsX.stored(h:IsX T B b bs R w)(i:Nat)(q:Value):IsX T B b bs (R.set i q) (w.setCell ⟨b,i+2,none⟩ q):=h.imp (·.stored i q) (·.stored i q)
theorem IsX.drew(h:IsX T B b bs R w):IsX T B b bs R w.drew:=h
theorem IsX.far{b':Nat}{w':World}{c:Array Value}{t:TypeId}{fz:Nat × Nat}(h:IsX T B b bs R w)(hx:q0j w b' w w')(hbb:b≠b')(hb':w.heap[b']?=some (.cells c t fz))(ht:t≠5):IsX T B b bs R w':=h.imp (·.far hx hbb hb' ht) (·.far hx hbb hb' ht)
theorem IsX.fresh(T:TypeId)(w:World)(R:List Value):IsX T w.heap.size w.heap.size [] R (w.alloc (.cells (.pointer none::.slice none 0 0::R).toArray T)):=
 Or.inl ⟨.slice none 0 0,heap_alloc_new w _,World.ownsRowF_nil _ _ _ _,by simp[Value.ownBlock],fun _=>rfl⟩
theorem IsX.unused(T:TypeId)(B b:Nat)(w:World)(R:List Value)(h:w.heap[b]?=some (.cells (.pointer none::.slice none 0 0::R).toArray T (0,0))):IsX T B b [] R w:=
 Or.inl ⟨.slice none 0 0,h,World.ownsRowF_nil _ _ _ _,by simp[Value.ownBlock],fun _=>rfl⟩
end
theorem j9h:(prog.info? 5).map (fun i=>(i.zero,i.size,i.bytes))=some (some (.int .u8 0),1,1):=by kernel_rfl
theorem j9i:prog.cellsOf 5=1:=by kernel_rfl
theorem v5o:(prog.info? 38).map (·.size)=some 2:=by kernel_rfl
theorem z4e(b:Nat)(w:World)(h0:w.cell? ⟨b,0,none⟩=some (.pointer (some ⟨b,0,none⟩))):
  Calls prog 24 #[.pointer (some ⟨b,0,none⟩)] w fun e w'=>e=.returned (.tuple #[])/\w'=w:=by
 obtain⟨j,A,_⟩:=Option.map_eq_some_iff.1 v5o;go_in;go_wp2;rw[Lib.run_neq_ptr_same w _ Tryz.underlying35 A];go_wp2
 go_end0
 exact⟨rfl,rfl⟩
theorem z1j(T n b:Nat)(w:World)(hl:liesAt prog prog.depth T (n / prog.cellsOf T) 0 38 1=true)(h0:w.cell? ⟨b,0,none⟩=some (.pointer none))(B:w.shape? b=some (T,n))(hn:0<n)(H:w.frozen? ⟨b,0,none⟩=false):
  Calls prog 24 #[.pointer (some ⟨b,0,none⟩)] w fun e w'=>e=.returned (.tuple #[])/\w'=w.setCell ⟨b,0,none⟩ (.pointer (some ⟨b,0,none⟩)):=by
 obtain⟨j,D,A⟩:=Option.map_eq_some_iff.1 v5o;have G:Hid (liesAt prog prog.depth T (n / prog.cellsOf T) 0 38 1=true):=hl;have C:Hid (w.shape? b=some (T,n)):=B;have E:Hid (j.size≠0):=(show j.size≠0 by rw[A];decide);clear hl B A;go_in;go_wp2;rw[Lib.run_to_unsafe w ⟨b,0,none⟩ Tryz.underlying35 Tryz.underlying94 D E.o C.o hn];simp only[Result.andThen];rw[Oper.upon_value];go_wp2;rw[run_callFunc_extern func40 (by kernel_rfl) (by kernel_rfl) (by kernel_rfl) (e:=Extern.AbiNoEscape.same) (by kernel_rfl)];rw[Lib.run_noEscape];simp only[Result.andThen];rw[Oper.upon_value];go_wp2;rw[Lib.run_from_unsafe w ⟨b,0,none⟩ Tryz.underlying94 Tryz.underlying35 D C.o G.o];simp only[Result.andThen];rw[Oper.upon_value];go_wp2
 go_end0
 exact⟨rfl,rfl⟩
def q9v(T n:Nat):Prop:=liesAt prog prog.depth T (n / prog.cellsOf T) 0 38 1=true
theorem z0z(T B b:Nat)(bs R:List Value)(w:World)(hl:q9v T (R.length+2))(h:IsX T B b bs R w):
  Calls prog 24 #[.pointer (some ⟨b,0,none⟩)] w fun e w'=>e=.returned (.tuple #[])/\(XAt T B b (.pointer (some ⟨b,0,none⟩)) bs R w'/\q0j B b w w'/\Lib.OthersKept 5 (some b) w w'):=by
 rcases h with h|h
 ·refine(z1j T (R.length+2) b w hl h.cell0 h.shape (by omega) (h.frozen 0)).mono ?_;rintro e w'⟨rfl,rfl⟩;exact⟨rfl,h.used _,(q0j.refl B b w).setCell (p:=⟨b,0,none⟩) (.inl rfl) _,(Lib.OthersKept.refl _ _ w).setCell ⟨b,0,none⟩ rfl _⟩
 ·refine(z4e b w h.cell0).mono ?_;rintro e w'⟨rfl,rfl⟩;exact⟨rfl,h,q0j.refl B b _,Lib.OthersKept.refl _ _ _⟩
end Go.Proofs.YtelcnplcpboonaaGreatDoor
namespace Go.Proofs.YtelcnplcpboonaaGreatDoor
theorem q6q:∀(t t':Tr)(r r':List Nd),t.Wf->t'.Wf->t.N++r=t'.N++r'->t=t'/\r=r'
 | .leaf x,t',r,r',h,h',e=>by
  cases t' with
  | leaf y=>simp only[Tr.N,List.cons_append,List.nil_append,List.cons.injEq]at e;exact⟨by rw[e.1],e.2⟩
  | one y a=>
   simp only[Tr.N,List.cons_append,List.nil_append,List.cons.injEq]at e;have h1:=h.2;have h2:=h'.2.1;rw[e.1,h2]at h1;cases h1
  | two y a b=>
   simp only[Tr.N,List.cons_append,List.nil_append,List.cons.injEq]at e;have h1:=h.2;have h2:=h'.2.1;rw[e.1,h2]at h1;cases h1
 | .one x a,t',r,r',h,h',e=>by
  cases t' with
  | leaf y=>
   simp only[Tr.N,List.cons_append,List.nil_append,List.cons.injEq]at e;have h1:=h.2.1;have h2:=h'.2;rw[e.1,h2]at h1;cases h1
  | one y a'=>
   simp only[Tr.N,List.cons_append,List.cons.injEq]at e;obtain⟨e1,e2⟩:=q6q a a' r r' h.2.2 h'.2.2 e.2;exact⟨by rw[e.1,e1],e2⟩
  | two y a' b=>
   simp only[Tr.N,List.cons_append,List.cons.injEq]at e;have h1:=h.2.1;have h2:=h'.2.1;rw[e.1,h2]at h1;cases h1
 | .two x a b,t',r,r',h,h',e=>by
  cases t' with
  | leaf y=>
   simp only[Tr.N,List.cons_append,List.nil_append,List.cons.injEq]at e;have h1:=h.2.1;have h2:=h'.2;rw[e.1,h2]at h1;cases h1
  | one y a'=>
   simp only[Tr.N,List.cons_append,List.cons.injEq]at e;have h1:=h.2.1;have h2:=h'.2.1;rw[e.1,h2]at h1;cases h1
  | two y a' b'=>
   simp only[Tr.N,List.cons_append,List.append_assoc,List.cons.injEq]at e;obtain⟨e1,e2⟩:=q6q a a' _ _ h.2.2.1 h'.2.2.1 e.2;obtain⟨e3,e4⟩:=q6q b b' r r' h.2.2.2 h'.2.2.2 e2;exact⟨by rw[e.1,e1,e3],e4⟩
theorem j6a{t t':Tr}(h:t.Wf)(h':t'.Wf)(e:t.N=t'.N):t=t':=(q6q t t' [] [] h h' (by rw[e])).1
noncomputable def v6c(ds:List Nd)(h:q2o ds=0):Tr:=Classical.choose (z6s h)
theorem z0f{ds:List Nd}(h:q2o ds=0):(v6c ds h).Wf:=(Classical.choose_spec (z6s h)).1
theorem q4b{ds:List Nd}(h:q2o ds=0):ds=(v6c ds h).N:=(Classical.choose_spec (z6s h)).2
theorem z6r{ds:List Nd}(h:q2o ds=0){t:Tr}(ht:t.Wf)(e:ds=t.N):v6c ds h=t:=j6a (z0f h) ht ((q4b h).symm.trans e)
open Classical in
noncomputable def flS(ds:List Nd):ByteArray:=if h:q2o ds=0 then(v6c ds h).line else⟨#[]⟩
open Classical in
noncomputable def flB(ds:List Nd):Bool:=if h:q2o ds=0 then(v6c ds h).isFlat else false
theorem j3s{ds:List Nd}{t:Tr}(ht:t.Wf)(e:ds=t.N)(hl:ds.length<=400):q2o ds=0/\flS ds=t.line/\flB ds=t.isFlat:=by
 have h:q2o ds=0:=by rw[e];exact q9n ht (by rw[<-e];exact hl)
 refine⟨h,?_,?_⟩
 ·rw[flS,dif_pos h,z6r h ht e]
 ·rw[flB,dif_pos h,z6r h ht e]
theorem y4m{ds:List Nd}(h:q2o ds≠0):flS ds=⟨#[]⟩/\flB ds=false:=⟨by rw[flS,dif_neg h],by rw[flB,dif_neg h]⟩
theorem j5d{x:Nd}{a c:Tr}(h:x.op=6):Tr.line (.two x a c)=(if(a.isFlat&&c.isFlat)=true then a.line++c.line else⟨#[]⟩)/\Tr.isFlat (.two x a c)=(a.isFlat&&c.isFlat):=by
 unfold Tr.line Tr.isFlat;simp only[Tr.flat,if_pos h];cases A:a.flat with
 | none=>simp
 | some s=>
  cases B:c.flat with
  | none=>simp
  | some t=>exact⟨z8w (by simp),by simp⟩
end Go.Proofs.YtelcnplcpboonaaGreatDoor
namespace Go.Proofs.YtelcnplcpboonaaGreatDoor
open Go Go.RowKit
def q2z(w:World)(a:Option Addr)(ds:List Nd):Prop:=
 ∀i(h:i<ds.length),∃b o,a=some ⟨b,o,none⟩/\b<w.heap.size/\w.cell? ⟨b,o+i*3,none⟩=some (.int .i64 ds[i].op)/\w.cell? ⟨b,o+i*3+1,none⟩=some (.string ds[i].tx)/\w.cell? ⟨b,o+i*3+2,none⟩=some (.int .i64 ds[i].n)
theorem q2z.W{w w':World}{a:Option Addr}{ds:List Nd}(h:q2z w a ds)(hb:Below w w w'):q2z w' a ds:=by
 intro i G;obtain⟨b,o,e,A,C,D,E⟩:=h i G;obtain⟨B,_⟩:=q0t hb
 have:=hb.size
 exact⟨b,o,e,by omega,(B _ _ A).trans C,(B _ _ A).trans D,(B _ _ A).trans E⟩
abbrev g0g(x:Nd):Value:=.agg #[.int .i64 x.op,.string x.tx,.int .i64 x.n]
end Go.Proofs.YtelcnplcpboonaaGreatDoor
