/- Texts as one: LexP, LexQ, LexB, FilP, TreP, SynP, SynR, SynT, SynL. -/
import Derived.Lib.Strings
import Derived.Lib.Join
namespace Go.Proofs.YthjapabokcajhaaGreatDoor
open Go
def q7n(c:UInt8):Bool:=decide (97<=c.toNat)&&decide (c.toNat<=122)
def j8a(c:UInt8):Bool:=decide (48<=c.toNat)&&decide (c.toNat<=57)
def prB(c:UInt8):Bool:=decide (32<=c.toNat)&&decide (c.toNat<=126)
end Go.Proofs.YthjapabokcajhaaGreatDoor
namespace Go.Proofs.YthjapabokcajhaaGreatDoor
open Go
abbrev btL(s:ByteArray):List UInt8:=s.data.toList
theorem q0h(s:ByteArray):(btL s).length=s.size:=(Lib.size_eq s).symm
theorem z2a{s:ByteArray}{k:Nat}(h:k<s.size):(btL s).drop k=s[k]::(btL s).drop (k+1):=by
 have hl:k<(btL s).length:=by rw[q0h];exact h
 rw[List.drop_eq_getElem_cons hl];rfl
theorem v0n(c:UInt8)(n:Nat)(hn:n<256):((c.toNat:Int)==(n:Int))=(c==UInt8.ofNat n):=by
 by_cases h:c=UInt8.ofNat n
 ·subst h;rw[beq_iff_eq.2 (show((UInt8.ofNat n).toNat:Int)=(n:Int) by simp[Nat.mod_eq_of_lt hn])];simp
 ·rw[beq_false_of_ne h,beq_false_of_ne];intro e;apply h
  have:c.toNat=n:=by omega
  rw[<-this];simp
def wbS(w:List UInt8):ByteArray:=⟨w.toArray⟩
theorem z7j(s:ByteArray)(i e:Nat):s.extract i e=wbS (((btL s).drop i).take (e-i)):=by
 apply ByteArray.ext;rw[ByteArray.data_extract];apply Array.ext';simp only[wbS,Array.toList_extract,List.extract]
end Go.Proofs.YthjapabokcajhaaGreatDoor
namespace Go.Proofs.YthjapabokcajhaaGreatDoor
open Go
def q3y(b:UInt8):Bool:=decide (33<=b.toNat)&&decide (b.toNat<=126)
def okW(x:ByteArray):Bool:=decide (1<=x.size)&&decide (x.size<=20)&&x.data.toList.all q3y
def q0t(ws:List ByteArray):Int:=if 60<ws.length then 3 else if ws.all okW then 0 else 5
def q4c(ws:List ByteArray)(wd:Int):Int:=if q0t ws≠0 then q0t ws else if wd<1\/100<wd then 1 else 0
theorem q6j{ws:List ByteArray}(h:q0t ws=0):ws.length<=60/\∀x∈ws,okW x=true:=by
 unfold q0t at h
 split at h
 ·cases h
 ·split at h
  ·rename_i h1 h2;exact⟨by omega,fun x hx=>List.all_eq_true.1 h2 x hx⟩
  ·cases h
theorem j0y{x:ByteArray}(h:okW x=true):1<=x.size/\x.size<=20:=by
 simp only[okW,Bool.and_eq_true,decide_eq_true_eq]at h;exact h.1
def Few(ws:List ByteArray):Prop:=ws.length<=60/\∀x∈ws,x.size<=20
theorem j2u{ws:List ByteArray}(h:q0t ws=0):Few ws:=⟨(q6j h).1,fun x hx=>(j0y ((q6j h).2 x hx)).2⟩
theorem Few.take{ws:List ByteArray}(h:Few ws)(k:Nat):Few (ws.take k):=⟨by have:=h.1;simp;omega,fun x hx=>h.2 x (List.mem_of_mem_take hx)⟩
theorem Few.drop{ws:List ByteArray}(h:Few ws)(k:Nat):Few (ws.drop k):=⟨by have:=h.1;simp;omega,fun x hx=>h.2 x (List.mem_of_mem_drop hx)⟩
theorem k0h{ws:List ByteArray}{wd:Int}(h:q4c ws wd=0):q0t ws=0/\∃n:Nat,wd=n/\1<=n/\n<=100:=by
 unfold q4c at h
 split at h
 ·rename_i h1;exact absurd h h1
 ·rename_i h1
  split at h
  ·cases h
  ·refine⟨by omega,wd.toNat,by omega,by omega,by omega⟩
def tot:List ByteArray->Nat
 | []=>0
 | x::r=>x.size+tot r
theorem j7v(a b:List ByteArray):tot (a++b)=tot a+tot b:=by
 induction a with
 | nil=>simp[tot]
 | cons x r ih=>simp only[List.cons_append,tot,ih];omega
theorem j1v{ws:List ByteArray}{i:Nat}(h:i<ws.length):tot (ws.take (i+1))=tot (ws.take i)+ws[i].size:=by
 rw[List.take_succ_eq_append_getElem h,j7v];simp[tot]
theorem v0m{ws:List ByteArray}(h:∀x∈ws,x.size<=20):tot ws<=20*ws.length:=by
 induction ws with
 | nil=>simp[tot]
 | cons x r ih=>
  have h1:=h x (by simp);have h2:=ih fun y hy=>h y (by simp[hy])
  simp only[tot,List.length_cons];omega
theorem Few.tot{ws:List ByteArray}(h:Few ws):tot ws<=1200:=by
 have:=v0m h.2
 have:=h.1
 omega
def ln(ws:List ByteArray):Nat:=tot ws+(ws.length-1)
theorem Few.ln{ws:List ByteArray}(h:Few ws):ln ws<=1260:=by
 have:=h.tot
 have:=h.1
 simp only[Go.Proofs.YthjapabokcajhaaGreatDoor.ln];omega
def jnL(ws:List ByteArray):List UInt8:=Lib.join (ws.map (·.data.toList)) [32]
def jnS(ws:List ByteArray):ByteArray:=⟨(jnL ws).toArray⟩
theorem j0l(ws:List ByteArray):Lib.lens (ws.map (·.data.toList))=tot ws:=by
 induction ws with
 | nil=>rfl
 | cons x r ih=>
  have e:Lib.lens ((x::r).map (·.data.toList))=x.data.toList.length+Lib.lens (r.map (·.data.toList)):=by simp[Lib.lens]
  rw[e,ih,tot,Lib.size_eq]
theorem z6l(ws:List ByteArray):(jnL ws).length=ln ws:=by
 cases ws with
 | nil=>rfl
 | cons x r=>
  have h:=Lib.join_length x.data.toList (r.map (·.data.toList)) [32];have h2:=j0l (x::r);simp only[List.map_cons]at h2;simp only[jnL,List.map_cons,h,h2,ln,List.length_cons,List.length_nil,List.length_map];omega
theorem z8j(ws:List ByteArray):(jnS ws).size=ln ws:=by
 rw[<-z6l];simp[jnS,ByteArray.size]
def bd(n wd:Nat)(last:Bool):Nat:=if wd<n then 1000*(n-wd)else if last then 0 else(wd-n)*(wd-n)
theorem j8i{n wd:Nat}{last:Bool}(h1:n<=1260)(h2:wd<=100):bd n wd last<=1300000:=by
 unfold bd
 split
 ·omega
 ·split
  ·omega
  ·have:(wd-n)*(wd-n)<=100*100:=Nat.mul_le_mul (by omega) (by omega)
   omega
def z0i(g:Nat->Nat):Nat->Nat
 | 0=>0
 | n+1=>if n=0\/g (n+1)<=z0i g n then g (n+1)else z0i g n
def k8o(g:Nat->Nat):Nat->Nat
 | 0=>0
 | n+1=>if n=0\/g (n+1)<=z0i g n then n+1 else k8o g n
theorem z1e{g h:Nat->Nat}:∀n,(∀k,1<=k->k<=n->g k=h k)->z0i g n=z0i h n
 | 0,_=>rfl
 | n+1,e=>by
  have ih:=z1e n fun k h1 h2=>e k h1 (by omega)
  simp only[z0i,ih,e (n+1) (by omega) (Nat.le_refl _)]
theorem z2t(g:Nat->Nat):∀n k,1<=k->k<=n->z0i g n<=g k
 | 0,k,h1,h2=>by omega
 | n+1,k,h1,h2=>by
  simp only[z0i]
  split
  ·rename_i h;by_cases hk:k=n+1
   ·subst hk;exact Nat.le_refl _
   ·have:=z2t g n k h1 (by omega)
    rcases h with h|h<;>omega
  ·rename_i h;by_cases hk:k=n+1
   ·subst hk;omega
   ·exact z2t g n k h1 (by omega)
theorem z7q(g:Nat->Nat):∀n,1<=n->1<=k8o g n/\k8o g n<=n
 | 0,h=>by omega
 | n+1,h=>by
  simp only[k8o]
  split
  ·omega
  ·rename_i h1
   have:=z7q g n (by omega)
   omega
theorem z3l(g:Nat->Nat):∀n k,k8o g n<k->k<=n->1<=k->g k≠z0i g n
 | 0,k,h1,h2,h3=>by omega
 | n+1,k,h1,h2,h3=>by
  simp only[k8o]at h1;simp only[z0i]
  split at h1
  ·omega
  ·rename_i h;rw[if_neg h];by_cases hk:k=n+1
   ·subst hk;omega
   ·exact z3l g n k h1 (by omega) h3
def z9s(wd:Nat):List ByteArray->List Nat
 | []=>[0]
 | x::r=>z0i (fun k=>bd (ln ((x::r).take k)) wd (k==r.length+1)+(z9s wd r).getD (k-1) 0) (r.length+1)::z9s wd r
def best(wd:Nat)(ws:List ByteArray):Nat:=(z9s wd ws).getD 0 0
theorem q8m(wd:Nat):best wd []=0:=rfl
theorem z0o(wd:Nat):∀(ws:List ByteArray)(j:Nat),j<=ws.length->(z9s wd ws).getD j 0=best wd (ws.drop j)
 | _,0,_=>by simp[best]
 | [],j+1,h=>by simp at h
 | x::r,j+1,h=>by
  have:=z0o wd r j (by simp at h;omega)
  simpa[z9s]using this
def fOf(wd:Nat)(ws:List ByteArray)(k:Nat):Nat:=bd (ln (ws.take k)) wd (k==ws.length)+best wd (ws.drop k)
theorem k1z(wd:Nat){ws:List ByteArray}(h:ws≠[]):best wd ws=z0i (fOf wd ws) ws.length:=by
 cases ws with
 | nil=>exact absurd rfl h
 | cons x r=>
  simp only[best,z9s,List.getD_cons_zero,List.length_cons];refine z1e _ fun k h1 h2=>?_
  obtain⟨j,rfl⟩:∃j,k=j+1:=⟨k-1,by omega⟩;simp only[fOf,List.length_cons,List.drop_succ_cons,Nat.add_sub_cancel];rw[z0o wd r j (by omega)]
theorem j4m{wd:Nat}(hw:wd<=100):∀(n:Nat)(ws:List ByteArray),ws.length<=n->Few ws->best wd ws<=1300000
 | 0,ws,h,_=>by
  have:ws=[]:=List.eq_nil_of_length_eq_zero (by omega)
  subst this;simp[q8m]
 | n+1,ws,h,hf=>by
  by_cases h0:ws=[]
  ·subst h0;simp[q8m]
  ·have hp:0<ws.length:=List.length_pos_iff.2 h0;rw[k1z wd h0];refine Nat.le_trans (z2t _ _ ws.length hp (Nat.le_refl _)) ?_;simp only[fOf,List.drop_length,q8m]
   have:=j8i (last:=(ws.length==ws.length)) (hf.take ws.length).ln hw
   omega
theorem j8w{wd:Nat}(hw:wd<=100){ws:List ByteArray}(hf:Few ws)(k:Nat):fOf wd ws k<=2600000:=by
 have h1:=j4m hw _ (ws.drop k) (Nat.le_refl _) (hf.drop k);have h2:=j8i (last:=(k==ws.length)) (hf.take k).ln hw;simp only[fOf];omega
def agF(wd:Nat)(ws:List ByteArray):Nat:=k8o (fOf wd ws) ws.length
theorem q5v(wd:Nat){ws:List ByteArray}(h:ws≠[]):1<=agF wd ws/\agF wd ws<=ws.length:=z7q _ _ (List.length_pos_iff.2 h)
def q7s(wd:Nat)(ws:List ByteArray):List Nat:=
 if _h:ws=[]then []else agF wd ws::q7s wd (ws.drop (agF wd ws))
termination_by ws.length
decreasing_by
 have:=q5v wd _h
 simp only[List.length_drop];omega
theorem q4b(wd:Nat):q7s wd []=[]:=by rw[q7s];simp
theorem q3n(wd:Nat){ws:List ByteArray}(h:ws≠[]):q7s wd ws=agF wd ws::q7s wd (ws.drop (agF wd ws)):=by
 rw[q7s,dif_neg h]
def z4p:List ByteArray->List Nat->List ByteArray
 | _,[]=>[]
 | ws,k::ks=>jnS (ws.take k)::z4p (ws.drop k) ks
end Go.Proofs.YthjapabokcajhaaGreatDoor
namespace Go.Proofs.YthjapabokcajhaaGreatDoor
open Go
structure Td where
 op:Int
 tx:ByteArray
 n:Int
def kdT(x:Td):Nat:=if x.op=3\/x.op=4 then x.n.toNat else if x.op=5\/x.op=6 then 2 else if x.op=7\/x.op=8 then 1 else 0
def z0p:List Td->Nat->Option Nat
 | _,0=>some 0
 | [],_+1=>none
 | x::r,m+1=>(z0p r (kdT x+m)).map (· + 1)
theorem q4t(ds:List Td):z0p ds 0=some 0:=by cases ds<;>rfl
theorem q5g(m:Nat):z0p [] (m+1)=none:=rfl
theorem q2w(x:Td)(r:List Td)(m:Nat):z0p (x::r) (m+1)=(z0p r (kdT x+m)).map (· + 1):=rfl
theorem z6b:∀(ds:List Td)(m k:Nat),z0p ds m=some k->m<=k/\k<=ds.length
 | ds,0,k,h=>by rw[q4t]at h;cases h;simp
 | [],m+1,k,h=>by rw[q5g]at h;cases h
 | x::r,m+1,k,h=>by
  rw[q2w,Option.map_eq_some_iff]at h;obtain⟨j,h1,rfl⟩:=h
  have:=z6b r _ j h1
  simp;omega
theorem z2c:∀(ds:List Td)(a b:Nat),z0p ds (a+b)=(z0p ds a).bind fun k=>(z0p (ds.drop k) b).map (k+·)
 | ds,0,b=>by
  rw[q4t];simp
 | [],a+1,b=>by rw[show a+1+b=(a+b)+1 by omega,q5g,q5g];rfl
 | x::r,a+1,b=>by
  rw[show a+1+b=(a+b)+1 by omega,q2w,q2w,show kdT x+(a+b)=(kdT x+a)+b by omega,z2c r _ b];cases z0p r (kdT x+a)with
  | none=>rfl
  | some k=>
   simp only[Option.bind_some,Option.map_some,List.drop_succ_cons];cases z0p (r.drop k) b with
   | none=>rfl
   | some j=>simp;omega
def q2h(ds:List Td)(i m:Nat):Option Nat:=(z0p (ds.drop i) m).map (i+·)
theorem z3x(ds:List Td)(i:Nat):q2h ds i 0=some i:=by simp[q2h,q4t]
theorem q5i(ds:List Td)(i m:Nat)(h:ds.length<=i):q2h ds i (m+1)=none:=by
 rw[q2h,List.drop_eq_nil_of_le h,q5g];rfl
theorem q9d(ds:List Td)(i m:Nat)(h:i<ds.length):q2h ds i (m+1)=q2h ds (i+1) (kdT ds[i]+m):=by
 rw[q2h,List.drop_eq_getElem_cons h,q2w,q2h];cases z0p (ds.drop (i+1)) (kdT ds[i]+m)with
 | none=>rfl
 | some k=>simp;omega
theorem k9s(ds:List Td)(i a b:Nat):q2h ds i (a+b)=(q2h ds i a).bind fun j=>q2h ds j b:=by
 rw[q2h,z2c,q2h];cases z0p (ds.drop i) a with
 | none=>rfl
 | some k=>
  simp only[Option.bind_some,Option.map_some,q2h,List.drop_drop];cases z0p (ds.drop (i+k)) b with
  | none=>rfl
  | some j=>simp;omega
theorem j5q{ds:List Td}{i m j:Nat}(h:q2h ds i m=some j):i+m<=j/\(m=0\/j<=ds.length):=by
 rw[q2h,Option.map_eq_some_iff]at h;obtain⟨k,h1,rfl⟩:=h;have h2:=z6b _ _ _ h1;rw[List.length_drop]at h2;omega
def q0r(s:ByteArray):Bool:=decide (1<=s.size)&&decide (s.size<=8)&&decide (btL s≠[108,101,116])&&(btL s).all q7n
def q3w:List UInt8->List (List UInt8)
 | []=>[[]]
 | c::r=>if c=32 then []::q3w r else match q3w r with
  | []=>[[c]]
  | w::ws=>(c::w)::ws
theorem q6h(s:List UInt8):q3w s≠[]:=by
 cases s with
 | nil=>simp[q3w]
 | cons c r=>
  simp only[q3w]
  split
  ·simp
  ·split<;>simp
theorem q8e(r:List UInt8):q3w (32::r)=[]::q3w r:=by simp[q3w]
theorem q5m{c:UInt8}(h:c≠32){r w:List UInt8}{ws:List (List UInt8)}(hr:q3w r=w::ws):q3w (c::r)=(c::w)::ws:=by
 simp only[q3w,if_neg h,hr]
theorem z9f(u r:List UInt8)(h:∀b∈u,b≠32):q3w (u++32::r)=u::q3w r:=by
 induction u with
 | nil=>exact q8e r
 | cons c u ih=>
  have ih':=ih fun b hb=>h b (by simp[hb])
  rw[List.cons_append,q5m (h c (by simp)) ih']
theorem z9g(u:List UInt8)(h:∀b∈u,b≠32):q3w u=[u]:=by
 induction u with
 | nil=>rfl
 | cons c u ih=>rw[q5m (h c (by simp)) (ih fun b hb=>h b (by simp[hb]))]
def q0f(s:List UInt8):List (List UInt8):=if s=[]then []else q3w s
def q1s(s:ByteArray):Int:=q0t ((q0f (btL s)).map wbS)
def q1r(op:Int):Bool:=decide (op=2)||decide (op=3)||decide (op=7)||decide (op=9)
def q0l(x:Td):Int:=
 if x.op<1\/9<x.op then 1
 else if(x.op=1/\(x.n<0\/999999<x.n))\/((x.op=3\/x.op=4)/\(x.n<0\/6<x.n))then 1
 else if(x.op≠1/\x.op≠3/\x.op≠4/\x.n≠0)\/(q1r x.op=false/\0<x.tx.size)then 2
 else if x.op=9 then q1s x.tx
 else if q1r x.op=true/\q0r x.tx=false then 5 else 0
def k8p:List Td->Int
 | []=>0
 | x::r=>if q0l x=0 then k8p r else q0l x
theorem z8e:∀(ds:List Td),(∀x∈ds,q0l x=0)->k8p ds=0
 | [],_=>rfl
 | x::r,h=>by rw[k8p,if_pos (h x (by simp)),z8e r fun y hy=>h y (by simp[hy])]
theorem z4d:∀(ds:List Td),k8p ds=0->∀x∈ds,q0l x=0
 | [],_=>by simp
 | x::r,h=>by
  rw[k8p]at h
  split at h
  ·rename_i h0;intro y hy;rcases List.mem_cons.1 hy with rfl|hy
   ·exact h0
   ·exact z4d r h y hy
  ·rename_i h0;exact absurd h h0
theorem k3z:∀(ds:List Td)(k:Nat)(h:k<ds.length),(∀x∈ds.take k,q0l x=0)->q0l ds[k]≠0->k8p ds=q0l ds[k]
 | x::r,0,_,_,h=>by
  have h':q0l x≠0:=h;rw[k8p,if_neg h'];rfl
 | x::r,k+1,hk,ha,h=>by
  rw[k8p,if_pos (ha x (by simp)),k3z r k (by simpa using hk) (fun y hy=>ha y (by simp[hy])) h];rfl
def z7h(ds:List Td):Bool:=match ds with
 | []=>true
 | x::r=>decide (7<=x.op)&&r.all fun y=>decide (y.op<7)
def q0b(ds:List Td):Int:=
 if 40<ds.length then 3 else if k8p ds≠0 then k8p ds else if q2h ds 0 1=some ds.length/\z7h ds=true then 0 else 2
theorem q1z{ds:List Td}(h:q0b ds=0):ds.length<=40/\(∀x∈ds,q0l x=0)/\q2h ds 0 1=some ds.length/\z7h ds=true:=by
 unfold q0b at h
 split at h
 ·cases h
 ·split at h
  ·rename_i h1;exact absurd h h1
  ·rename_i h0 h1
   split at h
   ·rename_i h2;exact⟨by omega,z4d ds (by omega),h2.1,h2.2⟩
   ·cases h
theorem j2z{x:Td}(h:q0l x=0):kdT x<=6:=by
 unfold q0l at h
 split at h
 ·cases h
 ·split at h
  ·cases h
  ·rename_i h1 h2;unfold kdT
   split
   ·omega
   ·split
    ·omega
    ·split<;>omega
end Go.Proofs.YthjapabokcajhaaGreatDoor
namespace Go.Proofs.YthjapabokcajhaaGreatDoor
open Go
inductive Fo where
 | nil:Fo
 | cons (x:Td) (k n:Fo):Fo
def Fo.len:Fo->Nat
 | .nil=>0
 | .cons _ _ n=>n.len+1
def Fo.nodes:Fo->List Td
 | .nil=>[]
 | .cons x k n=>x::(k.nodes++n.nodes)
def Fo.ok:Fo->Prop
 | .nil=>True
 | .cons x k n=>k.len=kdT x/\k.ok/\n.ok
def Fo.app:Fo->Fo->Fo
 | .nil,g=>g
 | .cons x k n,g=>.cons x k (n.app g)
theorem j5s:∀(l:Nat)(ds:List Td)(m k:Nat),ds.length<=l->z0p ds m=some k->∃F:Fo,F.ok/\F.len=m/\F.nodes=ds.take k
 | l,ds,0,k,_,h=>by
  rw[q4t]at h;cases h;exact⟨.nil,trivial,rfl,by simp[Fo.nodes]⟩
 | 0,ds,m+1,k,hl,h=>by
  have:ds=[]:=List.eq_nil_of_length_eq_zero (by omega)
  subst this;rw[q5g]at h;cases h
 | l+1,[],m+1,k,hl,h=>by rw[q5g]at h;cases h
 | l+1,x::r,m+1,k,hl,h=>by
  rw[q2w,Option.map_eq_some_iff]at h;obtain⟨j,h1,rfl⟩:=h;rw[z2c]at h1;cases h2:z0p r (kdT x)with
  | none=>rw[h2]at h1;cases h1
  | some a=>
   rw[h2,Option.bind_some,Option.map_eq_some_iff]at h1;obtain⟨b,h3,rfl⟩:=h1;obtain⟨K,k1,k2,k3⟩:=j5s l r (kdT x) a (by simp at hl;omega) h2;obtain⟨N,n1,n2,n3⟩:=j5s l (r.drop a) m b (by simp at hl⊢;omega) h3;refine⟨.cons x K N,⟨k2,k1,n1⟩,by simp[Fo.len,n2],?_⟩;have ha:=(z6b _ _ _ h2).2;rw[Fo.nodes,k3,n3,List.take_succ_cons,List.cons.injEq];refine⟨rfl,?_⟩;rw[List.take_add]
theorem k3y:∀(F:Fo),F.ok->∀(r:List Td)(m:Nat),z0p (F.nodes++r) (F.len+m)=(z0p r m).map (F.nodes.length+·)
 | .nil,_,r,m=>by simp[Fo.nodes,Fo.len]
 | .cons x k n,h,r,m=>by
  have e1:=k3y n h.2.2 r m;have e2:=k3y k h.2.1 (n.nodes++r) (n.len+m);rw[e1,h.1]at e2;have e3:(Fo.cons x k n).len+m=(n.len+m)+1:=by simp only[Fo.len];omega
  rw[e3,Fo.nodes,List.cons_append,q2w,List.append_assoc,e2];cases z0p r m with
  | none=>rfl
  | some j=>simp;omega
abbrev Wd:=List UInt8
def q3c(n:Nat):Wd:=if h:n<=9 then [UInt8.ofNat (48+n)]else q3c (n / 10)++[UInt8.ofNat (48+n % 10)]
termination_by n
decreasing_by omega
theorem j5l{n:Nat}(h:n<=9):(UInt8.ofNat (48+n)).toNat=48+n:=by
 rw[UInt8.toNat_ofNat'];omega
theorem z7z(n:Nat):∀c∈q3c n,j8a c=true:=by
 induction n using Nat.strongRecOn with
 | ind n ih=>
  have hd:∀k,k<=9->j8a (UInt8.ofNat (48+k))=true:=fun k hk=>by
   simp only[j8a,j5l hk];simp;omega
  rw[q3c]
  split
  ·rename_i h;intro c hc;rw[List.mem_singleton]at hc;rw[hc];exact hd n h
  ·rename_i h;intro c hc;rcases List.mem_append.1 hc with hc|hc
   ·exact ih (n / 10) (by omega) c hc
   ·rw[List.mem_singleton]at hc;rw[hc];exact hd _ (by omega)
theorem k3d(n:Nat):q3c n≠[]:=by
 rw[q3c]
 split<;>simp
theorem q6r:∀(k n:Nat),n<10 ^ (k+1)->(q3c n).length<=k+1
 | k,n,h=>by
  rw[q3c]
  split
  ·simp
  ·rename_i h9;cases k with
   | zero=>simp at h;omega
   | succ k=>
    have:=q6r k (n / 10) (by rw[Nat.pow_succ]at h;omega)
    simp only[List.length_append,List.length_cons,List.length_nil];omega
structure Tn where
 x:Td
 ns:List Td
 tk:List Wd
 tx:List UInt8
def prc(x:Td):Nat:=if x.op=5 then 0 else if x.op=6 then 1 else 2
def brk(l:Nat)(t:Tn):List Wd:=if prc t.x<l then [40]::(t.tk++[[41]])else t.tk
def brx(l:Nat)(t:Tn):List UInt8:=if prc t.x<l then 40::(t.tx++[41])else t.tx
def cmk:List Tn->List Wd
 | []=>[]
 | t::r=>t.tk++match r with
  | []=>[]
  | _::_=>[44]::cmk r
def cmx:List Tn->List UInt8
 | []=>[]
 | t::r=>t.tx++match r with
  | []=>[]
  | _::_=>44::32::cmx r
def two2{α:Type}(f:Tn->Tn->List α):List Tn->List α
 | [a,b]=>f a b
 | _=>[]
def z5t(x:Td)(ks:List Tn):List Wd:=
 if x.op=1 then [q3c x.n.toNat]
 else if x.op=2 then [btL x.tx]
 else if x.op=3 then btL x.tx::[40]::(cmk ks++[[41]])
 else if x.op=4 then [91]::(cmk ks++[[93]])
 else if x.op=5 then two2 (fun a b=>brk 0 a++[43]::brk 1 b) ks
 else two2 (fun a b=>brk 1 a++[42]::brk 2 b) ks
def q2l(x:Td)(ks:List Tn):List UInt8:=
 if x.op=1 then q3c x.n.toNat
 else if x.op=2 then btL x.tx
 else if x.op=3 then btL x.tx++40::(cmx ks++[41])
 else if x.op=4 then 91::(cmx ks++[93])
 else if x.op=5 then two2 (fun a b=>brx 0 a++32::43::32::brx 1 b) ks
 else two2 (fun a b=>brx 1 a++32::42::32::brx 2 b) ks
def q3d(x:Td)(ks:List Tn):Tn:=⟨x,x::ks.flatMap (·.ns),z5t x ks,q2l x ks⟩
def Fo.trs:Fo->List Tn
 | .nil=>[]
 | .cons x k n=>q3d x k.trs::n.trs
theorem k7r:∀F:Fo,F.trs.length=F.len
 | .nil=>rfl
 | .cons _ _ n=>by simp[Fo.trs,Fo.len,k7r n]
theorem q9y:∀F:Fo,F.trs.flatMap (·.ns)=F.nodes
 | .nil=>rfl
 | .cons x k n=>by
  rw[Fo.trs,List.flatMap_cons,q9y n,q3d,q9y k];simp[Fo.nodes]
def exN(x:Td):Prop:=q0l x=0/\x.op<7
def Fo.exs(F:Fo):Prop:=∀x∈F.nodes,exN x
theorem q1n{x:Td}(h:exN x):(x.op=1/\x.tx=⟨#[]⟩/\0<=x.n/\x.n<=999999/\kdT x=0)\/(x.op=2/\q0r x.tx=true/\x.n=0/\kdT x=0)
  \/(x.op=3/\q0r x.tx=true/\0<=x.n/\x.n<=6/\kdT x=x.n.toNat)\/(x.op=4/\x.tx=⟨#[]⟩/\0<=x.n/\x.n<=6/\kdT x=x.n.toNat)
  \/(x.op=5/\x.tx=⟨#[]⟩/\x.n=0/\kdT x=2)\/(x.op=6/\x.tx=⟨#[]⟩/\x.n=0/\kdT x=2):=by
 obtain⟨h0,h7⟩:=h
 have hem:∀s:ByteArray,¬0<s.size->s=⟨#[]⟩:=fun s hs=>by
  apply ByteArray.ext;apply Array.toList_inj.1;exact List.eq_nil_of_length_eq_zero (by have:=q0h s;simp only[btL]at this;omega)
 unfold q0l at h0
 split at h0
 ·cases h0
 ·rename_i h1
  split at h0
  ·cases h0
  ·rename_i h2
   split at h0
   ·cases h0
   ·rename_i h3;have h9:¬x.op=9:=by omega
    rw[if_neg h9]at h0
    split at h0
    ·cases h0
    ·rename_i h4;have ho:x.op=1\/x.op=2\/x.op=3\/x.op=4\/x.op=5\/x.op=6:=by omega
     rcases ho with e|e|e|e|e|e
     ·refine .inl ⟨e,hem _ (fun hh=>h3 (.inr ⟨by rw[e];rfl,hh⟩)),by omega,by omega,by unfold kdT;rw[e];rfl⟩
     ·refine .inr (.inl ⟨e,?_,by omega,by unfold kdT;rw[e];rfl⟩);cases hn:q0r x.tx with
      | true=>rfl
      | false=>exact absurd ⟨by rw[e];rfl,hn⟩ h4
     ·refine .inr (.inr (.inl ⟨e,?_,by omega,by omega,by unfold kdT;rw[if_pos (.inl e)]⟩));cases hn:q0r x.tx with
      | true=>rfl
      | false=>exact absurd ⟨by rw[e];rfl,hn⟩ h4
     ·exact .inr (.inr (.inr (.inl ⟨e,hem _ (fun hh=>h3 (.inr ⟨by rw[e];rfl,hh⟩)),by omega,by omega,by unfold kdT;rw[if_pos (.inr e)]⟩)))
     ·exact .inr (.inr (.inr (.inr (.inl ⟨e,hem _ (fun hh=>h3 (.inr ⟨by rw[e];rfl,hh⟩)),by omega,by unfold kdT;rw[e];rfl⟩))))
     ·exact .inr (.inr (.inr (.inr (.inr ⟨e,hem _ (fun hh=>h3 (.inr ⟨by rw[e];rfl,hh⟩)),by omega,by unfold kdT;rw[e];rfl⟩))))
end Go.Proofs.YthjapabokcajhaaGreatDoor
namespace Go.Proofs.YthjapabokcajhaaGreatDoor
open Go
def cmt:List Tn->List Wd
 | []=>[]
 | t::r=>[44]::cmk (t::r)
theorem k9l(t:Tn)(r:List Tn):cmk (t::r)=t.tk++cmt r:=by
 cases r with
 | nil=>simp[cmk,cmt]
 | cons u r=>simp[cmk,cmt]
theorem v2w{α:Type}{l:List α}(h:l.length=2):∃a b,l=[a,b]:=by
 match l,h with
 | [a,b],_=>exact⟨a,b,rfl⟩
end Go.Proofs.YthjapabokcajhaaGreatDoor
namespace Go.Proofs.YthjapabokcajhaaGreatDoor
open Go
theorem z7s(l:Nat)(t:Tn):(brx l t).length<=t.tx.length+2:=by
 unfold brx
 split
 ·simp
 ·omega
theorem j2q:∀ks:List Tn,(∀t∈ks,t.tx.length+4<=16*t.ns.length)->(cmx ks).length<=16*(ks.flatMap (·.ns)).length
 | [],_=>by simp[cmx]
 | [t],h=>by
  have:=h t (by simp)
  simp[cmx];omega
 | t::u::r,h=>by
  have h1:=h t (by simp);have h2:=j2q (u::r) (fun x hx=>h x (by simp[hx]));rw[cmx,List.flatMap_cons,List.length_append,List.length_append];simp only[List.length_cons];omega
theorem q1v{s:ByteArray}(h:q0r s=true):(btL s).length<=8:=by
 unfold q0r at h;simp only[Bool.and_eq_true,decide_eq_true_eq]at h;rw[q0h];exact h.1.1.2
theorem k7u:∀F:Fo,F.ok->F.exs->∀t∈F.trs,t.tx.length+4<=16*t.ns.length
 | .nil,_,_,t,ht=>by cases ht
 | .cons x k n,hok,hex,t,ht=>by
  have hexk:k.exs:=fun y hy=>hex y (by simp[Fo.nodes,hy])
  have hexn:n.exs:=fun y hy=>hex y (by simp[Fo.nodes,hy])
  have ihk:=k7u k hok.2.1 hexk;rw[Fo.trs]at ht;rcases List.mem_cons.1 ht with rfl|ht
  ·have hlen:k.trs.length=kdT x:=by rw[k7r];exact hok.1
   have hc:=j2q k.trs ihk;rcases q1n (hex x (by simp[Fo.nodes]))with⟨ho,htx,hn0,hn1,hk⟩|⟨ho,hnm,hn0,hk⟩|⟨ho,hnm,hn0,hn1,hk⟩|⟨ho,htx,hn0,hn1,hk⟩|⟨ho,htx,hn0,hk⟩|⟨ho,htx,hn0,hk⟩
   ·have:=q6r 5 x.n.toNat (by omega)
    simp[q3d,q2l,ho];omega
   ·have:=q1v hnm
    simp only[q3d,q2l,ho];simp at this⊢;omega
   ·have:=q1v hnm
    simp only[q3d,q2l,ho];simp at this hc⊢;omega
   ·simp only[q3d,q2l,ho];simp at hc⊢;omega
   ·obtain⟨a,b,hab⟩:=v2w (hlen.trans hk);rw[hab]at ihk⊢;have h1:=ihk a (by simp);have h2:=ihk b (by simp);have h3:=z7s 0 a;have h4:=z7s 1 b;simp[q3d,q2l,ho,two2];omega
   ·obtain⟨a,b,hab⟩:=v2w (hlen.trans hk);rw[hab]at ihk⊢;have h1:=ihk a (by simp);have h2:=ihk b (by simp);have h3:=z7s 1 a;have h4:=z7s 2 b;simp[q3d,q2l,ho,two2];omega
  ·exact k7u n hok.2.2 hexn t ht
end Go.Proofs.YthjapabokcajhaaGreatDoor
