import Derived.Test.YthcpdohdppkmkaaGreatDoorPu01
open Go.Proofs.Tryz
namespace Go.Proofs.YthcpdohdppkmkaaGreatDoor
open Go
def Fo.tk:Nat->Fo->Fo
 | 0,_=>.nil
 | _+1,.nil=>.nil
 | k+1,.cons x a n=>.cons x a (Fo.tk k n)
def Fo.dp:Nat->Fo->Fo
 | 0,f=>f
 | _+1,.nil=>.nil
 | k+1,.cons _ _ n=>Fo.dp k n
theorem k6f:∀f g:Fo,Fo.tk f.len (f.app g)=f
 | .nil,g=>by cases g<;>rfl
 | .cons x k n,g=>by simp only[Fo.len,Fo.app,Fo.tk,k6f n g]
theorem k6d:∀f g:Fo,Fo.dp f.len (f.app g)=g
 | .nil,g=>by cases g<;>rfl
 | .cons x k n,g=>by simp only[Fo.len,Fo.app,Fo.dp,k6d n g]
theorem z2h:∀f:Fo,f.app .nil=f
 | .nil=>rfl
 | .cons x k n=>by simp only[Fo.app,z2h n]
def j5y:List Td->Fo
 | []=>.nil
 | x::r=>.cons x (Fo.tk (kdT x) (j5y r)) (Fo.dp (kdT x) (j5y r))
theorem z8s:∀(F:Fo),F.ok->∀r,j5y (F.N++r)=F.app (j5y r)
 | .nil,_,r=>rfl
 | .cons x k n,h,r=>by
  have e1:=z8s n h.2.2 r;have e2:=z8s k h.2.1 (n.N++r);rw[Fo.N,List.cons_append,List.append_assoc,j5y,e2,e1,<-h.1,k6f,k6d];rfl
theorem j2e(F:Fo)(h:F.ok):j5y F.N=F:=by
 have:=z8s F h []
 rw[List.append_nil]at this;rw[this];exact z2h F
theorem q2v{ds:List Td}(h:q0d ds=0):(∃x,ds=[x]/\x.op=9/\x.n=0/\q3m x.tx=0)\/
  (∃(x:Td)(F:Fo),ds=x::F.N/\F.ok/\F.exs/\F.len=1/\((x.op=7/\q0z x.tx=true/\x.n=0)\/(x.op=8/\x.tx=⟨#[]⟩/\x.n=0))):=by
 obtain⟨_,hn,he,ht⟩:=q2o h;cases ds with
 | nil=>rw[z3w [] 0 0 (by simp)]at he;cases he
 | cons x r=>
  have hx:=hn x (by simp);simp only[v3b,Bool.and_eq_true,decide_eq_true_eq,List.all_eq_true]at ht;rw[z3l,List.drop_zero,q5w,Option.map_map,Option.map_eq_some_iff]at he;obtain⟨j,hj,hj2⟩:=he;simp only[Function.comp_apply,List.length_cons]at hj2;have hjl:j=r.length:=by omega
  rw[Nat.add_zero,hjl]at hj;obtain⟨F,f1,f2,f3⟩:=y5f r.length r (kdT x) r.length Zl hj;rw[List.take_length]at f3
  have hex:F.exs:=fun y hy=>by
   rw[f3]at hy;exact⟨hn y (by simp[hy]),ht.2 y hy⟩
  have hem:∀s:ByteArray,¬0<s.size->s=⟨#[]⟩:=fun s hs=>by
   apply ByteArray.ext;apply Array.toList_inj.1;exact List.eq_nil_of_length_eq_zero (by have:=q0b s;simp only[btL]at this;omega)
  unfold q0r at hx
  split at hx
  ·cases hx
  ·rename_i h1
   split at hx
   ·cases hx
   ·split at hx
    ·cases hx
    ·rename_i h3;have ho:x.op=7\/x.op=8\/x.op=9:=by omega
     rcases ho with ho|ho|ho
     ·have hk1:kdT x=1:=by unfold kdT;rw[ho];rfl
      rw[if_neg (by omega)]at hx
      split at hx
      ·cases hx
      ·rename_i h4;refine .inr ⟨x,F,by rw[f3],f1,hex,by rw[f2,hk1],.inl ⟨ho,?_,by omega⟩⟩;cases hnm:q0z x.tx with
       | true=>rfl
       | false=>exact absurd ⟨by rw[ho];rfl,hnm⟩ h4
     ·have hk1:kdT x=1:=by unfold kdT;rw[ho];rfl
      exact .inr ⟨x,F,by rw[f3],f1,hex,by rw[f2,hk1],.inr ⟨ho,hem _ (fun hh=>h3 (.inr ⟨by rw[ho];rfl,hh⟩)),by omega⟩⟩
     ·have hk0:kdT x=0:=by unfold kdT;rw[ho];rfl
      rw[if_pos ho]at hx
      have hF:F=.nil:=by
       cases F with
       | nil=>rfl
       | cons y k n=>rw[hk0]at f2;simp[Fo.len]at f2
      rw[hF]at f3;exact .inl ⟨x,by rw[<-f3];rfl,ho,by omega,hx⟩
def hdT(ks:List Tn):List UInt8:=match ks with
 | t::_=>t.tx
 | []=>[]
def hdK(ks:List Tn):List Wd:=match ks with
 | t::_=>t.tk
 | []=>[]
def stX(x:Td)(ks:List Tn):List UInt8:=
 if x.op=7 then [108,101,116,32]++btL x.tx++[32,61,32]++hdT ks++[59]else if x.op=8 then hdT ks++[59]else if x.tx.size=0 then [35]else [35,32]++btL x.tx
def stK(x:Td)(ks:List Tn):List Wd:=
 if x.op=7 then [108,101,116]::btL x.tx::[61]::(hdK ks++[[59]])else if x.op=8 then hdK ks++[[59]]else [if x.tx.size=0 then [35]else [35,32]++btL x.tx]
def q3g(ds:List Td):List UInt8:=match j5y ds with
 | .nil=>[]
 | .cons x k _=>stX x k.R
def q5l(ds:List Td):List Wd:=match j5y ds with
 | .nil=>[]
 | .cons x k _=>stK x k.R
theorem y2y{x:Td}{F:Fo}(h:F.ok)(hl:F.len=kdT x):j5y (x::F.N)=.cons x F .nil:=by
 have h1:=k6f F .nil;have h2:=k6d F .nil;rw[z2h]at h1 h2;rw[j5y,j2e F h,<-hl,h1,h2]
theorem q7a{x:Td}{F:Fo}(h:F.ok)(hl:F.len=kdT x):q3g (x::F.N)=stX x F.R/\q5l (x::F.N)=stK x F.R:=by
 rw[q3g,q5l,y2y h hl];exact⟨rfl,rfl⟩
def q1o(ps:List (List Td)):List UInt8:=ps.flatMap fun t=>q3g t++[10]
theorem z8c(t:List Td)(r:List (List Td)):q1o (t::r)=q3g t++[10]++q1o r:=by simp[q1o]
theorem j3n(r:List (List Td))(t:List Td):q1o (r++[t])=q1o r++(q3g t++[10]):=by simp[q1o]
end Go.Proofs.YthcpdohdppkmkaaGreatDoor
namespace Go.Proofs.YthcpdohdppkmkaaGreatDoor
structure Nd where
 op:Int
 tx:ByteArray
 n:Int
def pts(op:Int):Nat:=if op=6\/op=9 then 2 else if op=7\/op=8 then 1 else 0
theorem y2q(op:Int):pts op<=2:=by unfold pts;split<;>(try split)<;>omega
def cnt:List Nd->Nat->Option Nat
 | _,0=>some 0
 | [],_+1=>none
 | x::r,m+1=>(cnt r (pts x.op+m)).map (· + 1)
theorem q8k(ds:List Nd):cnt ds 0=some 0:=by cases ds<;>rfl
theorem z2b(m:Nat):cnt [] (m+1)=none:=rfl
theorem q4m(x:Nd)(r:List Nd)(m:Nat):cnt (x::r) (m+1)=(cnt r (pts x.op+m)).map (· + 1):=rfl
theorem j6z:∀(ds:List Nd)(m k:Nat),cnt ds m=some k->m<=k/\k<=ds.length
 | ds,0,k,h=>by rw[q8k]at h;cases h;simp
 | [],m+1,k,h=>by rw[z2b]at h;cases h
 | x::r,m+1,k,h=>by
  rw[q4m,Option.map_eq_some_iff]at h;obtain⟨j,h1,rfl⟩:=h
  have:=j6z r _ j h1
  simp;omega
theorem j6y:∀(ds:List Nd)(a b:Nat),cnt ds (a+b)=(cnt ds a).bind fun k=>(cnt (ds.drop k) b).map (k+·)
 | ds,0,b=>by
  rw[q8k];simp
 | [],a+1,b=>by rw[show a+1+b=(a+b)+1 by omega,z2b,z2b];rfl
 | x::r,a+1,b=>by
  rw[show a+1+b=(a+b)+1 by omega,q4m,q4m,show pts x.op+(a+b)=(pts x.op+a)+b by omega,j6y r _ b];cases cnt r (pts x.op+a)with
  | none=>rfl
  | some k=>
   simp only[Option.bind_some,Option.map_some,List.drop_succ_cons];cases cnt (r.drop k) b with
   | none=>rfl
   | some j=>simp;omega
theorem j7a:∀(ds:List Nd)(m k i:Nat),cnt ds m=some k->i<k->∃m',cnt (ds.drop i) (m'+1)=some (k-i)
 | ds,0,k,i,h,hi=>by rw[q8k]at h;cases h;omega
 | [],m+1,k,i,h,hi=>by rw[z2b]at h;cases h
 | x::r,m+1,k,i,h,hi=>by
  cases i with
  | zero=>exact⟨m,h⟩
  | succ i=>
   rw[q4m,Option.map_eq_some_iff]at h;obtain⟨j,h1,rfl⟩:=h;obtain⟨m',h2⟩:=j7a r _ j i h1 (by omega);exact⟨m',by rw[List.drop_succ_cons,h2];congr 1;omega⟩
def q1r(ds:List Nd)(i m:Nat):Option Nat:=(cnt (ds.drop i) m).map (i+·)
theorem j2r(ds:List Nd)(i:Nat):q1r ds i 0=some i:=by simp[q1r,q8k]
theorem j7q(ds:List Nd)(i m:Nat)(h:ds.length<=i):q1r ds i (m+1)=none:=by
 rw[q1r,List.drop_eq_nil_of_le h,z2b];rfl
theorem j2p(ds:List Nd)(i m:Nat)(h:i<ds.length):q1r ds i (m+1)=q1r ds (i+1) (pts ds[i].op+m):=by
 rw[q1r,List.drop_eq_getElem_cons h,q4m,q1r];cases cnt (ds.drop (i+1)) (pts ds[i].op+m)with
 | none=>rfl
 | some k=>simp;omega
theorem v6d{ds:List Nd}{i m j:Nat}(h:q1r ds i m=some j):i+m<=j/\(m=0\/j<=ds.length):=by
 rw[q1r,Option.map_eq_some_iff]at h;obtain⟨k,h1,rfl⟩:=h;have h2:=j6z _ _ _ h1;rw[List.length_drop]at h2;omega
theorem j7p{ds:List Nd}{i:Nat}(h:q1r ds 0 1=some ds.length)(hi:i<ds.length):∃j,q1r ds i 1=some j/\i<j/\j<=ds.length:=by
 rw[q1r,Option.map_eq_some_iff]at h;obtain⟨k,h1,h2⟩:=h;have hk:k=ds.length:=by omega
 subst hk;obtain⟨m',h3⟩:=j7a _ _ _ i h1 hi;rw[List.drop_zero,Nat.add_comm m' 1,j6y]at h3;cases h4:cnt (ds.drop i) 1 with
 | none=>rw[h4]at h3;cases h3
 | some j=>
  have h5:q1r ds i 1=some (i+j):=by rw[q1r,h4];rfl
  have h6:=v6d h5;exact⟨i+j,h5,by omega,by omega⟩
def q5s(b:UInt8):Bool:=decide (32<=b.toNat)&&decide (b.toNat<=126)
def isW(s:ByteArray):Bool:=decide (1<=s.size)&&decide (s.size<=20)&&s.data.toList.all q5s
def q0u(x:Nd):Int:=
 if x.op<1\/9<x.op then 1
 else if(x.op≠1/\x.tx.size≠0)\/(x.op≠7/\x.n≠0)then 2
 else if x.op=1/\isW x.tx=false then 5
 else if x.op=7/\(x.n<0\/8<x.n)then 1 else 0
def q9a:List Nd->Int
 | []=>0
 | x::r=>if q0u x=0 then q9a r else q0u x
def q3a(ds:List Nd):Int:=
 if 400<ds.length then 3 else if q9a ds=0 then(if q1r ds 0 1=some ds.length then 0 else 2)else q9a ds
theorem z2f:∀(ds:List Nd),(∀x∈ds,q0u x=0)->q9a ds=0
 | [],_=>rfl
 | x::r,h=>by rw[q9a,if_pos (h x (by simp)),z2f r fun y hy=>h y (by simp[hy])]
theorem z4v:∀(ds:List Nd),q9a ds=0->∀x∈ds,q0u x=0
 | [],_=>by simp
 | x::r,h=>by
  rw[q9a]at h
  split at h
  ·rename_i h0;intro y hy;rcases List.mem_cons.1 hy with rfl|hy
   ·exact h0
   ·exact z4v r h y hy
  ·rename_i h0;exact absurd h h0
theorem k2h:∀(ds:List Nd)(k:Nat)(h:k<ds.length),(∀x∈ds.take k,q0u x=0)->q0u ds[k]≠0->q9a ds=q0u ds[k]
 | x::r,0,_,_,h=>by
  have h':q0u x≠0:=h;rw[q9a,if_neg h'];rfl
 | x::r,k+1,hk,ha,h=>by
  rw[q9a,if_pos (ha x (by simp)),k2h r k (by simpa using hk) (fun y hy=>ha y (by simp[hy])) h];rfl
theorem q4c{ds:List Nd}(h:q3a ds=0):ds.length<=400/\(∀x∈ds,q0u x=0)/\q1r ds 0 1=some ds.length:=by
 unfold q3a at h
 split at h
 ·cases h
 ·rename_i h1
  split at h
  ·rename_i h2
   split at h
   ·rename_i h3;exact⟨by omega,z4v ds h2,h3⟩
   ·cases h
  ·rename_i h2;exact absurd h h2
theorem y4y{ds:List Nd}(h1:ds.length<=400)(h2:∀x∈ds,q0u x=0)(h3:q1r ds 0 1=some ds.length):q3a ds=0:=by
 rw[q3a,if_neg (by omega),if_pos (z2f ds h2),if_pos h3]
inductive Tr where
 | leaf (x:Nd)
 | one (x:Nd) (a:Tr)
 | two (x:Nd) (a b:Tr)
def Tr.N:Tr->List Nd
 | .leaf x=>[x]
 | .one x a=>x::a.N
 | .two x a b=>x::(a.N++b.N)
def Tr.Wf:Tr->Prop
 | .leaf x=>q0u x=0/\pts x.op=0
 | .one x a=>q0u x=0/\pts x.op=1/\a.Wf
 | .two x a b=>q0u x=0/\pts x.op=2/\a.Wf/\b.Wf
theorem g2i:∀(ds:List Nd)(m k:Nat),(∀x∈ds,q0u x=0)->cnt ds m=some k->∃ts:List Tr,ts.length=m/\(∀t∈ts,t.Wf)/\ds.take k=(ts.map Tr.N).flatten
 | ds,0,k,_,h=>by rw[q8k]at h;cases h;exact⟨[],rfl,by simp,by simp⟩
 | [],m+1,k,_,h=>by rw[z2b]at h;cases h
 | x::r,m+1,k,hn,h=>by
  rw[q4m,Option.map_eq_some_iff]at h;obtain⟨j,h1,rfl⟩:=h;obtain⟨ts,e1,e2,e3⟩:=g2i r _ j (fun y hy=>hn y (by simp[hy])) h1;have hx:=hn x (by simp);have h012:pts x.op=0\/pts x.op=1\/pts x.op=2:=by have:=y2q x.op;omega
  rcases h012 with h0|h0|h0
  ·exact⟨.leaf x::ts,by simp[e1,h0],by intro t ht;rcases List.mem_cons.1 ht with rfl|ht;exact⟨hx,h0⟩;exact e2 t ht,by simp[Tr.N,e3]⟩
  ·match ts,e1,e2,e3 with
   | [],e1,_,_=>simp at e1;omega
   | a::ts,e1,e2,e3=>
    refine⟨.one x a::ts,by simp at e1⊢;omega,?_,by simp[Tr.N,e3]⟩;intro t ht;rcases List.mem_cons.1 ht with rfl|ht
    ·exact⟨hx,h0,e2 a (by simp)⟩
    ·exact e2 t (by simp[ht])
  ·match ts,e1,e2,e3 with
   | [],e1,_,_=>simp at e1;omega
   | [a],e1,_,_=>simp at e1;omega
   | a::b::ts,e1,e2,e3=>
    refine⟨.two x a b::ts,by simp at e1⊢;omega,?_,by simp[Tr.N,e3]⟩;intro t ht;rcases List.mem_cons.1 ht with rfl|ht
    ·exact⟨hx,h0,e2 a (by simp),e2 b (by simp)⟩
    ·exact e2 t (by simp[ht])
theorem z3s:∀(t:Tr)(r:List Nd)(m:Nat),t.Wf->cnt (t.N++r) (m+1)=(cnt r m).map (t.N.length+·)
 | .leaf x,r,m,h=>by
  simp only[Tr.N,List.cons_append,List.nil_append,q4m,h.2,Nat.zero_add,List.length_cons,List.length_nil];cases cnt r m<;>simp[Nat.add_comm]
 | .one x a,r,m,h=>by
  simp only[Tr.N,List.cons_append,q4m,h.2.1,Nat.add_comm 1 m,z3s a r m h.2.2,List.length_cons];cases cnt r m<;>simp;omega
 | .two x a b,r,m,h=>by
  simp only[Tr.N,List.cons_append,List.append_assoc,q4m,h.2.1,show 2+m=(m+1)+1 by omega,z3s a (b.N++r) (m+1) h.2.2.1,z3s b r m h.2.2.2,List.length_cons,List.length_append];cases cnt r m<;>simp;omega
theorem Tr.pos:∀t:Tr,0<t.N.length
 | .leaf _=>by simp[Tr.N]
 | .one _ _=>by simp[Tr.N]
 | .two _ _ _=>by simp[Tr.N]
theorem j2q{ds:List Nd}{i:Nat}{t:Tr}{r:List Nd}(h:t.Wf)(hd:ds.drop i=t.N++r):q1r ds i 1=some (i+t.N.length):=by
 rw[q1r,hd,z3s t r 0 h,q8k];rfl
theorem v3d{ds:List Nd}{i j:Nat}(hn:∀x∈ds,q0u x=0)(h:q1r ds i 1=some j):∃t:Tr,t.Wf/\ds.drop i=t.N++ds.drop j/\j=i+t.N.length:=by
 rw[q1r,Option.map_eq_some_iff]at h;obtain⟨k,h1,rfl⟩:=h;obtain⟨ts,e1,e2,e3⟩:=g2i _ _ _ (fun x hx=>hn x (List.mem_of_mem_drop hx)) h1
 match ts,e1,e2,e3 with
 | [t],_,e2,e3=>
  have e4:(ds.drop i).take k=t.N:=by simpa using e3
  have e5:=j6z _ _ _ h1;refine⟨t,e2 t (by simp),?_,?_⟩
  ·rw[<-e4,<-List.drop_drop,List.take_append_drop]
  ·rw[<-e4,List.length_take];omega
theorem z8z{ds:List Nd}(h:q3a ds=0):∃t:Tr,t.Wf/\ds=t.N:=by
 obtain⟨_,h2,h3⟩:=q4c h;obtain⟨t,ht,e1,e2⟩:=v3d h2 h3;refine⟨t,ht,?_⟩;rw[List.drop_zero,List.drop_length,List.append_nil]at e1;exact e1
theorem z1k{t:Tr}(h:t.Wf)(hl:t.N.length<=400):q3a t.N=0:=by
 refine y4y hl ?_ ?_
 ·clear hl
  induction t with
  | leaf x=>intro y hy;simp[Tr.N]at hy;subst hy;exact h.1
  | one x a ih=>
   intro y hy;rcases List.mem_cons.1 hy with rfl|hy
   ·exact h.1
   ·exact ih h.2.2 y hy
  | two x a b ia ib=>
   intro y hy;rcases List.mem_cons.1 hy with rfl|hy
   ·exact h.1
   ·rcases List.mem_append.1 hy with hy|hy
    ·exact ia h.2.2.1 y hy
    ·exact ib h.2.2.2 y hy
 ·have:=j2q (ds:=t.N) (i:=0) (r:=[]) h (by simp)
  simpa using this
theorem q2b{x:Nd}(h:q0u x=0):1<=x.op/\x.op<=9/\(x.op=1\/x.tx.size=0)/\(x.op=7\/x.n=0)/\(x.op=1->isW x.tx=true)/\(x.op=7->0<=x.n/\x.n<=8):=by
 unfold q0u at h
 split at h
 ·cases h
 split at h
 ·cases h
 split at h
 ·cases h
 split at h
 ·cases h
 rename_i h1 h2 h3 h4;refine⟨by omega,by omega,by omega,by omega,?_,by omega⟩;intro h5;cases h6:isW x.tx with
 | true=>rfl
 | false=>exact absurd ⟨h5,h6⟩ h3
theorem q4q{s:ByteArray}(h:isW s=true):1<=s.size/\s.size<=20:=by
 simp[isW]at h;omega
theorem q1a(s:ByteArray):s.data.toList.length=s.size:=(Lib.size_eq s).symm
theorem q5o{x:Nd}(h:q0u x=0)(hp:pts x.op=0):x.op=1\/x.op=2\/x.op=3\/x.op=4\/x.op=5:=by
 have:=q2b h
 unfold pts at hp
 split at hp
 ·cases hp
 split at hp
 ·cases hp
 omega
theorem z3e{x:Nd}(hp:pts x.op=1):x.op=7\/x.op=8:=by
 unfold pts at hp
 split at hp
 ·cases hp
 split at hp
 ·omega
 ·cases hp
theorem z1m{x:Nd}(hp:pts x.op=2):x.op=6\/x.op=9:=by
 unfold pts at hp
 split at hp
 ·omega
 split at hp<;>cases hp
theorem k1x{a b:ByteArray}(h:a.data.toList=b.data.toList):a=b:=by
 cases a;cases b;simp only[ByteArray.mk.injEq];exact Array.toList_inj.1 h
theorem k4e{a:ByteArray}(h:a.size=0):a=⟨#[]⟩:=k1x (by
 have:=q1a a
 rw[h]at this
 rw[List.eq_nil_of_length_eq_zero this])
def Tr.flat:Tr->Option (List UInt8)
 | .leaf x=>if x.op=1 then some x.tx.data.toList else if x.op=2 then some [32]else if x.op=4 then none else some []
 | .one _ a=>a.flat
 | .two x a b=>if x.op=6 then(match a.flat,b.flat with|some s,some t=>some (s++t)|_,_=>none)else a.flat
def Tr.line(t:Tr):ByteArray:=⟨(t.flat.getD []).toArray⟩
def Tr.isFlat(t:Tr):Bool:=t.flat.isSome
theorem k2u(t:Tr):t.line.data.toList=t.flat.getD []:=by simp[Tr.line]
theorem k2v(t:Tr):t.line.size=(t.flat.getD []).length:=by rw[<-q1a,k2u]
theorem z4z:∀t:Tr,t.Wf->(t.flat.getD []).length<=20*t.N.length
 | .leaf x,h=>by
  obtain⟨_,_,_,_,h5,_⟩:=q2b h.1;simp only[Tr.flat,Tr.N]
  split
  ·rename_i h1
   have:=q4q (h5 h1)
   have e:=q1a x.tx;simp only[Option.getD_some,List.length_cons,List.length_nil];omega
  ·repeat' split
   all_goals simp
 | .one x a,h=>by
  have:=z4z a h.2.2
  simp only[Tr.flat,Tr.N,List.length_cons];omega
 | .two x a b,h=>by
  have h1:=z4z a h.2.2.1;have h2:=z4z b h.2.2.2;simp only[Tr.flat,Tr.N,List.length_cons,List.length_append]
  split
  ·cases ha:a.flat with
   | none=>simp
   | some s=>
    cases hb:b.flat with
    | none=>simp
    | some t=>
     rw[ha]at h1;rw[hb]at h2;simp only[Option.getD_some]at h1 h2⊢;rw[List.length_append];omega
  ·omega
theorem q6b:∀(t:Tr)(s:List UInt8),t.Wf->t.flat=some s->∀b∈s,b≠10
 | .leaf x,s,h,e=>by
  obtain⟨_,_,_,_,h5,_⟩:=q2b h.1;simp only[Tr.flat]at e
  split at e
  ·rename_i h1;cases e;have hw:=h5 h1;simp only[isW,Bool.and_eq_true,List.all_eq_true]at hw;intro b hb hc
   have:=hw.2 b hb
   subst hc;simp[q5s]at this
  ·split at e
   ·cases e;simp
   ·split at e
    ·cases e
    ·cases e;simp
 | .one x a,s,h,e=>q6b a s h.2.2 e
 | .two x a b,s,h,e=>by
  simp only[Tr.flat]at e
  split at e
  ·cases ha:a.flat with
   | none=>rw[ha]at e;cases e
   | some u=>
    cases hb:b.flat with
    | none=>rw[ha,hb]at e;cases e
    | some v=>
     rw[ha,hb]at e;cases e;intro c hc;rcases List.mem_append.1 hc with hc|hc
     ·exact q6b a u h.2.2.1 ha c hc
     ·exact q6b b v h.2.2.2 hb c hc
  ·exact q6b a s h.2.2.1 e
def Tr.lay:Tr->Nat->List Int->Except Int (List UInt8 × List Int)
 | .leaf x,deep,ws=>if x.op=1 then .ok (x.tx.data.toList,ws)else if x.op=5 then .ok ([],ws)else .ok (10::List.replicate deep 32,ws)
 | .one x a,deep,ws=>
  if x.op=7 then a.lay (deep+x.n.toNat) ws
  else match ws with
   | []=>.error 2
   | c::ws=>if c=1 then a.lay deep ws else match a.flat with
    | none=>.error 4
    | some s=>.ok (s,ws)
 | .two x a b,deep,ws=>
  if x.op=6 then match a.lay deep ws with
   | .error e=>.error e
   | .ok (s,ws1)=>match b.lay deep ws1 with
    | .error e=>.error e
    | .ok (t,ws2)=>.ok (s++t,ws2)
  else match ws with
   | []=>.error 2
   | c::ws=>if c=0 then a.lay deep ws else b.lay deep ws
def Tr.ways:Tr->List (List Int)
 | .leaf _=>[[]]
 | .one x a=>if x.op=7 then a.ways else(if a.isFlat=true then [[0]]else [])++a.ways.map (1::·)
 | .two x a b=>if x.op=6 then a.ways.flatMap fun u=>b.ways.map (u++·)else a.ways.map (0::·)++b.ways.map (1::·)
def q2k(ws:List Int):Prop:=∀c∈ws,c=0\/c=1
theorem z6c:∀t:Tr,t.ways≠[]
 | .leaf _=>by simp[Tr.ways]
 | .one x a=>by
  simp only[Tr.ways]
  split
  ·exact z6c a
  ·have:=z6c a
   simp[this]
 | .two x a b=>by
  have h1:=z6c a;have h2:=z6c b;simp only[Tr.ways]
  split
  ·obtain⟨u,us,e⟩:=List.exists_cons_of_ne_nil h1;rw[e];simp[h2]
  ·simp[h1]
theorem q8e:∀(t:Tr)(u:List Int),u∈t.ways->q2k u
 | .leaf _,u,h=>by simp[Tr.ways]at h;subst h;simp[q2k]
 | .one x a,u,h=>by
  simp only[Tr.ways]at h
  split at h
  ·exact q8e a u h
  ·rcases List.mem_append.1 h with h|h
   ·split at h
    ·simp at h;subst h;simp[q2k]
    ·simp at h
   ·obtain⟨v,hv,rfl⟩:=List.mem_map.1 h
    have:=q8e a v hv
    intro c hc;rcases List.mem_cons.1 hc with rfl|hc
    ·exact .inr rfl
    ·exact this c hc
 | .two x a b,u,h=>by
  simp only[Tr.ways]at h
  split at h
  ·obtain⟨p,hp,hpq⟩:=List.mem_flatMap.1 h;obtain⟨q,hq,rfl⟩:=List.mem_map.1 hpq;have h1:=q8e a p hp;have h2:=q8e b q hq;intro c hc;rcases List.mem_append.1 hc with hc|hc
   ·exact h1 c hc
   ·exact h2 c hc
  ·rcases List.mem_append.1 h with h|h
   ·obtain⟨v,hv,rfl⟩:=List.mem_map.1 h
    have:=q8e a v hv
    intro c hc;rcases List.mem_cons.1 hc with rfl|hc
    ·exact .inl rfl
    ·exact this c hc
   ·obtain⟨v,hv,rfl⟩:=List.mem_map.1 h
    have:=q8e b v hv
    intro c hc;rcases List.mem_cons.1 hc with rfl|hc
    ·exact .inr rfl
    ·exact this c hc
theorem q7e:∀(t:Tr)(deep:Nat)(u r:List Int),u∈t.ways->∃s,t.lay deep (u++r)=.ok (s,r)
 | .leaf x,deep,u,r,h=>by
  simp[Tr.ways]at h;subst h;simp only[Tr.lay,List.nil_append]
  split
  ·exact⟨_,rfl⟩
  ·split
   ·exact⟨_,rfl⟩
   ·exact⟨_,rfl⟩
 | .one x a,deep,u,r,h=>by
  simp only[Tr.ways]at h;simp only[Tr.lay]
  split at h
  ·rename_i h7;rw[if_pos h7];exact q7e a _ u r h
  ·rename_i h7;rw[if_neg h7];rcases List.mem_append.1 h with h|h
   ·split at h
    ·rename_i hf;simp at h;subst h;simp only[List.cons_append,List.nil_append];rw[if_neg (by decide)];rw[Tr.isFlat]at hf;cases hfl:a.flat with
     | none=>rw[hfl]at hf;cases hf
     | some s=>exact⟨s,rfl⟩
    ·simp at h
   ·obtain⟨v,hv,rfl⟩:=List.mem_map.1 h;simp only[List.cons_append,if_pos];exact q7e a deep v r hv
 | .two x a b,deep,u,r,h=>by
  simp only[Tr.ways]at h;simp only[Tr.lay]
  split at h
  ·rename_i h6;rw[if_pos h6];obtain⟨p,hp,hpq⟩:=List.mem_flatMap.1 h;obtain⟨q,hq,rfl⟩:=List.mem_map.1 hpq;obtain⟨s1,e1⟩:=q7e a deep p (q++r) hp;obtain⟨s2,e2⟩:=q7e b deep q r hq;rw[List.append_assoc,e1];simp only[e2];exact⟨_,rfl⟩
  ·rename_i h6;rw[if_neg h6];rcases List.mem_append.1 h with h|h
   ·obtain⟨v,hv,rfl⟩:=List.mem_map.1 h;simp only[List.cons_append,if_pos];exact q7e a deep v r hv
   ·obtain⟨v,hv,rfl⟩:=List.mem_map.1 h;simp only[List.cons_append];rw[if_neg (by decide)];exact q7e b deep v r hv
theorem q5h:∀(t:Tr)(deep:Nat)(ws r:List Int)(s:List UInt8),q2k ws->t.lay deep ws=.ok (s,r)->∃u∈t.ways,ws=u++r
 | .leaf x,deep,ws,r,s,_,h=>by
  refine⟨[],by simp[Tr.ways],?_⟩;simp only[Tr.lay]at h
  split at h
  ·cases h;rfl
  ·split at h
   ·cases h;rfl
   ·cases h;rfl
 | .one x a,deep,ws,r,s,h0,h=>by
  simp only[Tr.lay]at h;simp only[Tr.ways]
  split at h
  ·rename_i h7;rw[if_pos h7];exact q5h a _ ws r s h0 h
  ·rename_i h7;rw[if_neg h7]
   match ws,h0,h with
   | [],_,h=>cases h
   | c::ws,h0,h=>
    simp only at h
    split at h
    ·rename_i h1;subst h1;obtain⟨u,hu,e⟩:=q5h a deep ws r s (fun d hd=>h0 d (by simp[hd])) h;exact⟨1::u,List.mem_append.2 (.inr (List.mem_map.2 ⟨u,hu,rfl⟩)),by rw[e];rfl⟩
    ·rename_i h1;have hc:c=0:=by have:=h0 c (by simp);omega
     subst hc;cases hf:a.flat with
     | none=>rw[hf]at h;cases h
     | some v=>
      rw[hf]at h;cases h;refine⟨[0],List.mem_append.2 (.inl ?_),rfl⟩;rw[if_pos (by rw[Tr.isFlat,hf];rfl)];simp
 | .two x a b,deep,ws,r,s,h0,h=>by
  simp only[Tr.lay]at h;simp only[Tr.ways]
  split at h
  ·rename_i h6;rw[if_pos h6];cases ha:a.lay deep ws with
   | error e=>rw[ha]at h;cases h
   | ok p=>
    obtain⟨s1,ws1⟩:=p;rw[ha]at h;simp only at h;cases hb:b.lay deep ws1 with
    | error e=>rw[hb]at h;cases h
    | ok q=>
     obtain⟨s2,ws2⟩:=q;rw[hb]at h;cases h;obtain⟨u,hu,e1⟩:=q5h a deep ws ws1 s1 h0 ha;obtain⟨v,hv,e2⟩:=q5h b deep ws1 r s2 (fun d hd=>h0 d (by rw[e1];simp[hd])) hb;exact⟨u++v,List.mem_flatMap.2 ⟨u,hu,List.mem_map.2 ⟨v,hv,rfl⟩⟩,by rw[e1,e2,List.append_assoc]⟩
  ·rename_i h6;rw[if_neg h6]
   match ws,h0,h with
   | [],_,h=>cases h
   | c::ws,h0,h=>
    simp only at h
    split at h
    ·rename_i h1;subst h1;obtain⟨u,hu,e⟩:=q5h a deep ws r s (fun d hd=>h0 d (by simp[hd])) h;exact⟨0::u,List.mem_append.2 (.inl (List.mem_map.2 ⟨u,hu,rfl⟩)),by rw[e];rfl⟩
    ·rename_i h1;have hc:c=1:=by have:=h0 c (by simp);omega
     subst hc;obtain⟨u,hu,e⟩:=q5h b deep ws r s (fun d hd=>h0 d (by simp[hd])) h;exact⟨1::u,List.mem_append.2 (.inr (List.mem_map.2 ⟨u,hu,rfl⟩)),by rw[e];rfl⟩
def Tr.show(t:Tr)(ws:List Int):Except Int (List UInt8):=
 if ws.all (fun c=>c==0||c==1)=true then match t.lay 0 ws with
  | .error e=>.error e
  | .ok (s,[])=>.ok s
  | .ok (_,_::_)=>.error 2
 else .error 1
theorem j2b{ws:List Int}:ws.all (fun c=>c==0||c==1)=true↔q2k ws:=by
 simp[q2k]
theorem z5s(t:Tr)(ws:List Int):(∃s,t.show ws=.ok s)↔ws∈t.ways:=by
 constructor
 ·rintro⟨s,h⟩;unfold Tr.show at h
  split at h
  ·rename_i h0;cases hl:t.lay 0 ws with
   | error e=>rw[hl]at h;cases h
   | ok p=>
    obtain⟨u,r⟩:=p;rw[hl]at h;cases r with
    | cons c r=>cases h
    | nil=>
     obtain⟨v,hv,e⟩:=q5h t 0 ws [] u (j2b.1 h0) hl;rw[List.append_nil]at e;rw[e];exact hv
  ·cases h
 ·intro h;obtain⟨s,hs⟩:=q7e t 0 ws [] h;rw[List.append_nil]at hs;refine⟨s,?_⟩;unfold Tr.show;rw[if_pos (j2b.2 (q8e t ws h)),hs]
def q2t:List Int->List Int->Prop
 | a::al,b::bs=>if a=b then q2t al bs else a<b
 | _,_=>False
theorem z4j:∀(u v r s:List Int),q2t u v->q2t (u++r) (v++s)
 | a::al,b::bs,r,s,h=>by
  simp only[List.cons_append,q2t]at h⊢
  split
  ·rename_i e;rw[if_pos e]at h;exact z4j al bs r s h
  ·rename_i e;rw[if_neg e]at h;exact h
theorem z7a:∀(u r s:List Int),q2t r s->q2t (u++r) (u++s)
 | [],r,s,h=>h
 | a::u,r,s,h=>by simp only[List.cons_append,q2t,if_pos];exact z7a u r s h
theorem z0x{α β:Type}{R:β->β->Prop}(f:α->List β):∀l:List α,(∀x∈l,(f x).Pairwise R)->l.Pairwise (fun x y=>∀p∈f x,∀q∈f y,R p q)->(l.flatMap f).Pairwise R
 | [],_,_=>List.Pairwise.nil
 | x::l,h1,h2=>by
  rw[List.flatMap_cons];rw[List.pairwise_cons]at h2;refine List.pairwise_append.2 ⟨h1 x (by simp),z0x f l (fun y hy=>h1 y (by simp[hy])) h2.2,?_⟩;intro p hp q hq;obtain⟨y,hy,hq⟩:=List.mem_flatMap.1 hq;exact h2.1 y hy p hp q hq
theorem z1n:∀t:Tr,t.ways.Pairwise q2t
 | .leaf _=>by simp[Tr.ways]
 | .one x a=>by
  simp only[Tr.ways];have ih:=z1n a
  split
  ·exact ih
  ·refine List.pairwise_append.2 ⟨?_,?_,?_⟩
   ·split<;>simp
   ·exact List.pairwise_map.2 (ih.imp fun h=>by simp only[q2t,if_pos];exact h)
   ·intro p hp q hq
    split at hp
    ·simp at hp;subst hp;obtain⟨v,_,rfl⟩:=List.mem_map.1 hq;simp[q2t]
    ·simp at hp
 | .two x a b=>by
  simp only[Tr.ways];have ia:=z1n a;have ib:=z1n b
  split
  ·refine z0x _ _ ?_ ?_
   ·intro u _;exact List.pairwise_map.2 (ib.imp fun h=>z7a u _ _ h)
   ·refine ia.imp ?_;intro u v h p hp q hq;obtain⟨r,_,rfl⟩:=List.mem_map.1 hp;obtain⟨s,_,rfl⟩:=List.mem_map.1 hq;exact z4j u v r s h
  ·refine List.pairwise_append.2 ⟨?_,?_,?_⟩
   ·exact List.pairwise_map.2 (ia.imp fun h=>by simp only[q2t,if_pos];exact h)
   ·exact List.pairwise_map.2 (ib.imp fun h=>by simp only[q2t,if_pos];exact h)
   ·intro p hp q hq;obtain⟨u,_,rfl⟩:=List.mem_map.1 hp;obtain⟨v,_,rfl⟩:=List.mem_map.1 hq;simp[q2t]
theorem v4a{x:Nd}(h:q0u x=0)(h1:x.op=1):∀b∈x.tx.data.toList,b≠10:=by
 obtain⟨_,_,_,_,h5,_⟩:=q2b h;have hw:=h5 h1;simp only[isW,Bool.and_eq_true,List.all_eq_true]at hw;intro b hb hc
 have:=hw.2 b hb
 subst hc;simp[q5s]at this
end Go.Proofs.YthcpdohdppkmkaaGreatDoor
namespace Go.Proofs.YthcpdohdppkmkaaGreatDoor
open Go
abbrev wdD(s:List UInt8):Tr:=.leaf ⟨1,wbS s,0⟩
abbrev blD:Tr:=.leaf ⟨2,⟨#[]⟩,0⟩
abbrev sfD:Tr:=.leaf ⟨3,⟨#[]⟩,0⟩
abbrev twD(a b:Tr):Tr:=.two ⟨6,⟨#[]⟩,0⟩ a b
abbrev dpD(a:Tr):Tr:=.one ⟨7,⟨#[]⟩,2⟩ a
abbrev grD(a:Tr):Tr:=.one ⟨8,⟨#[]⟩,0⟩ a
def inD(l:Nat)(x:Td)(d:Tr):Tr:=if prc x<l then twD (wdD [40]) (twD d (wdD [41]))else d
def kdD:List (Td × Tr)->Tr
 | []=>wdD []
 | p::r=>match r with
  | []=>p.2
  | _::_=>twD (twD p.2 (wdD [44])) (twD blD (kdD r))
def tw2(f:Td->Tr->Td->Tr->Tr):List (Td × Tr)->Tr
 | [a,b]=>f a.1 a.2 b.1 b.2
 | _=>wdD []
def q1y(op cl:List UInt8)(ks:List (Td × Tr)):Tr:=if ks.length=0 then wdD (op++cl)else grD (twD (wdD op) (twD (dpD (twD sfD (kdD ks))) (twD sfD (wdD cl))))
def q0l(x:Td)(ks:List (Td × Tr)):Tr:=
 if x.op=1 then wdD (q3q x.n.toNat)
 else if x.op=2 then wdD (btL x.tx)
 else if x.op=3 then q1y (btL x.tx++[40]) [41] ks
 else if x.op=4 then q1y [91] [93] ks
 else if x.op=5 then tw2 (fun x a y b=>grD (twD (inD 0 x a) (dpD (twD blD (twD (wdD [43,32]) (inD 1 y b)))))) ks
 else tw2 (fun x a y b=>grD (twD (inD 1 x a) (dpD (twD blD (twD (wdD [42,32]) (inD 2 y b)))))) ks
def Fo.D:Fo->List (Td × Tr)
 | .nil=>[]
 | .cons x k n=>(x,q0l x k.D)::n.D
theorem q7p:∀F:Fo,F.D.length=F.len
 | .nil=>rfl
 | .cons _ _ n=>by simp[Fo.D,Fo.len,q7p n]
def stD(x:Td)(d:Tr):Tr:=
 if x.op=7 then grD (twD (wdD ([108,101,116,32]++btL x.tx++[32,61])) (dpD (twD blD (twD d (wdD [59])))))else twD d (wdD [59])
theorem z4x(s:List UInt8):(wdD s).flat=some s:=rfl
theorem q6a{a b:Tr}{s t:List UInt8}(ha:a.flat=some s)(hb:b.flat=some t):(twD a b).flat=some (s++t):=by
 simp only[Tr.flat,if_true,ha,hb]
theorem v6i(a:Tr):(dpD a).flat=a.flat:=rfl
theorem v6j(a:Tr):(grD a).flat=a.flat:=rfl
theorem v6h:blD.flat=some [32]:=rfl
theorem g0r:sfD.flat=some []:=rfl
def Mt(p:Td × Tr)(t:Tn):Prop:=p.1=t.x/\p.2.flat=some t.tx
theorem v6k{p:Td × Tr}{t:Tn}(h:Mt p t)(l:Nat):(inD l p.1 p.2).flat=some (brx l t):=by
 unfold inD brx;rw[h.1]
 split
 ·rw[q6a (z4x _) (q6a h.2 (z4x _))];rfl
 ·exact h.2
inductive Mts:List (Td × Tr)->List Tn->Prop where
 | nil:Mts [] []
 | cons {p t ps ts}:Mt p t->Mts ps ts->Mts (p::ps) (t::ts)
theorem g0p:∀{ps:List (Td × Tr)}{ts:List Tn},Mts ps ts->ps≠[]->(kdD ps).flat=some (cmx ts)
 | _,_,.cons h .nil,_=>by simp only[kdD,cmx,List.append_nil];exact h.2
 | _,_,.cons (ps:=p::ps) (ts:=t::ts) h (.cons h2 h3),_=>by
  have ih:=g0p (Mts.cons h2 h3) (by simp)
  show(twD (twD _ (wdD [44])) (twD blD (kdD (p::ps)))).flat=_
  rw[q6a (q6a h.2 (z4x _)) (q6a v6h ih)];simp[cmx]
theorem j8a{ps:List (Td × Tr)}{ts:List Tn}(h:Mts ps ts)(op cl:List UInt8):(q1y op cl ps).flat=some (op++cmx ts++cl):=by
 unfold q1y
 split
 ·rename_i h0;cases h with
  | nil=>rw[z4x];simp[cmx]
  | cons=>simp at h0
 ·rename_i h0;have hne:ps≠[]:=fun e=>h0 (by rw[e];rfl)
  rw[v6j,q6a (z4x _) (q6a (by rw[v6i];exact q6a g0r (g0p h hne)) (q6a g0r (z4x _)))];simp
theorem g0q{x:Td}{ps:List (Td × Tr)}{ts:List Tn}(h:Mts ps ts)(hx:exN x)(hk:ps.length=kdT x):(q0l x ps).flat=some (q3o x ts):=by
 have two:kdT x=2->∃a b c d,ps=[a,b]/\ts=[c,d]/\Mt a c/\Mt b d:=fun e=>by
  rw[e]at hk;cases h with
  | nil=>simp at hk
  | cons h1 h2=>cases h2 with
   | nil=>simp at hk
   | cons h3 h4=>cases h4 with
    | nil=>exact⟨_,_,_,_,rfl,rfl,h1,h3⟩
    | cons=>simp at hk
 rcases q2j hx with⟨ho,_⟩|⟨ho,_⟩|⟨ho,_⟩|⟨ho,_⟩|⟨ho,_,_,h2⟩|⟨ho,_,_,h2⟩
 ·rw[show q0l x ps=wdD (q3q x.n.toNat) by simp[q0l,ho],show q3o x ts=q3q x.n.toNat by simp[q3o,ho]];rfl
 ·rw[show q0l x ps=wdD (btL x.tx) by simp[q0l,ho],show q3o x ts=btL x.tx by simp[q3o,ho]];rfl
 ·rw[show q0l x ps=q1y (btL x.tx++[40]) [41] ps by simp[q0l,ho],show q3o x ts=btL x.tx++40::(cmx ts++[41]) by simp[q3o,ho],j8a h];simp
 ·rw[show q0l x ps=q1y [91] [93] ps by simp[q0l,ho],show q3o x ts=91::(cmx ts++[93]) by simp[q3o,ho],j8a h];simp
 ·obtain⟨a,b,c,d,rfl,rfl,h3,h4⟩:=two h2;rw[show q0l x [a,b]=grD (twD (inD 0 a.1 a.2) (dpD (twD blD (twD (wdD [43,32]) (inD 1 b.1 b.2))))) by simp[q0l,tw2,ho],show q3o x [c,d]=brx 0 c++32::43::32::brx 1 d by simp[q3o,two2,ho]];rw[v6j,q6a (v6k h3 0) (by rw[v6i];exact q6a v6h (q6a (z4x _) (v6k h4 1)))];rfl
 ·obtain⟨a,b,c,d,rfl,rfl,h3,h4⟩:=two h2;rw[show q0l x [a,b]=grD (twD (inD 1 a.1 a.2) (dpD (twD blD (twD (wdD [42,32]) (inD 2 b.1 b.2))))) by simp[q0l,tw2,ho],show q3o x [c,d]=brx 1 c++32::42::32::brx 2 d by simp[q3o,two2,ho]];rw[v6j,q6a (v6k h3 1) (by rw[v6i];exact q6a v6h (q6a (z4x _) (v6k h4 2)))];rfl
theorem z3u:∀F:Fo,F.ok->F.exs->Mts F.D F.R
 | .nil,_,_=>.nil
 | .cons x k n,hok,hex=>by
  have h1:=z3u k hok.2.1 fun y hy=>hex y (by simp[Fo.N,hy])
  have h2:=z3u n hok.2.2 fun y hy=>hex y (by simp[Fo.N,hy])
  exact .cons ⟨rfl,g0q h1 (hex x (by simp[Fo.N])) (by rw[q7p];exact hok.1)⟩ h2
def Tr.noE:Tr->Prop
 | .leaf x=>x.op≠4
 | .one _ a=>a.noE
 | .two x a b=>x.op=6/\a.noE/\b.noE
end Go.Proofs.YthcpdohdppkmkaaGreatDoor
