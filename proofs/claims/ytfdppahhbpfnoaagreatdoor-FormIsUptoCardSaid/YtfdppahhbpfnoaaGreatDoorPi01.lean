import Derived.Test.YtfdppahhbpfnoaaGreatDoorPi00
import Derived.Lib.Join
import Derived.Lib.IndexBytes
import Derived.Lib.Split
open Go.Proofs.Tryz
namespace Go.Proofs.YtfdppahhbpfnoaaGreatDoor
open Go
def spB(c:UInt8):Bool:=c==32||c==10
def q2b(c:UInt8):Bool:=decide (97<=c.toNat)&&decide (c.toNat<=122)
def q1w(c:UInt8):Bool:=decide (48<=c.toNat)&&decide (c.toNat<=57)
def nlB(c:UInt8):Bool:=c != 10
def prB(c:UInt8):Bool:=decide (32<=c.toNat)&&decide (c.toNat<=126)
def k4e:List UInt8:=[40,41,91,93,44,43,42,61,59]
def y6p(c:UInt8):Bool:=k4e.any (·==c)
def q1c:List UInt8->Nat
 | []=>0
 | c::r=>if q2b c then(r.takeWhile q2b).length+1 else if q1w c then(r.takeWhile q1w).length+1 else if c==35 then(r.takeWhile nlB).length+1 else 1
def q6q:List UInt8->Bool
 | []=>false
 | c::r=>if q2b c then decide ((r.takeWhile q2b).length+1<=8)else if q1w c then decide ((r.takeWhile q1w).length+1<=6)&&(c != 48||(r.takeWhile q1w).length==0)else if c==35 then(r.takeWhile nlB).all prB else y6p c
def q1k(w:List UInt8):List UInt8:=(w.reverse.dropWhile (·==32)).reverse
theorem q9r(w:List UInt8):q1k (w++[32])=q1k w:=by simp[q1k]
theorem q2r(w:List UInt8){c:UInt8}(h:c≠32):q1k (w++[c])=w++[c]:=by simp[q1k,h]
theorem j9y:q1k []=[]:=rfl
theorem z5b(w:List UInt8):∃z,w=q1k w++z:=by
 refine⟨(w.reverse.takeWhile (·==32)).reverse,?_⟩;rw[q1k,<-List.reverse_append,List.takeWhile_append_dropWhile,List.reverse_reverse]
theorem z1b(w:List UInt8):(q1k w).length<=w.length:=by
 obtain⟨z,A⟩:=z5b w
 have:=congrArg List.length A
 rw[List.length_append]at this;omega
theorem z7e(w:List UInt8):w.take (q1k w).length=q1k w:=by
 obtain⟨z,B⟩:=z5b w;have A:w.take (q1k w).length=(q1k w++z).take (q1k w).length:=congrArg (List.take _) B;rw[A,List.take_left]
theorem z5c:∀(n:Nat)(w:List UInt8),w.length<=n->q1k (q1k w)=q1k w
 | n,w,h=>by
  rcases List.eq_nil_or_concat w with rfl|⟨v,c,rfl⟩
  ·rfl
  ·rw[List.concat_eq_append]at h⊢;by_cases hc:c=32
   ·subst hc;rw[q9r]
    match n,h with
    | 0,h=>simp at h
    | n+1,h=>exact z5c n v (by simp at h;omega)
   ·rw[q2r v hc,q2r v hc]
theorem j1d(w:List UInt8):q1k (q1k w)=q1k w:=z5c _ w Zl
theorem z2k{c:UInt8}(h:c≠32)(r:List UInt8):∃z,q1k (c::r)=c::z:=by
 obtain⟨z,E⟩:=z5b (c::r);cases D:q1k (c::r)with
 | nil=>
  exfalso
  have G:∀(l:List UInt8),l.dropWhile (·==32)=[]->∀x∈l,x=32:=by
   intro l
   induction l with
   | nil=>intro _ x B;cases B
   | cons a l ih=>
    intro A x B;rw[List.dropWhile_cons]at A;by_cases C:(a==32)=true
    ·rw[if_pos C]at A;rcases List.mem_cons.1 B with rfl|B
     ·exact beq_iff_eq.1 C
     ·exact ih A x B
    ·rw[if_neg C]at A;cases A
  rw[q1k,List.reverse_eq_nil_iff]at D;exact h (G _ D c (by simp))
 | cons a b=>
  rw[D,List.cons_append,List.cons.injEq]at E;exact⟨b,by rw[E.1]⟩
def tkW(s:List UInt8):List UInt8:=q1k (s.take (q1c s))
theorem q5j(c:UInt8)(r:List UInt8):1<=q1c (c::r):=by
 simp only[q1c]
 split
 ·omega
 ·split
  ·omega
  ·split<;>omega
theorem k8a{α:Type}(p:α->Bool)(l:List α):(l.takeWhile p).length<=l.length:=by
 induction l with
 | nil=>simp
 | cons a l ih=>
  rw[List.takeWhile_cons]
  split
  ·simp;omega
  ·simp
theorem z0x(s:List UInt8):q1c s<=s.length:=by
 cases s with
 | nil=>simp[q1c]
 | cons c r=>
  have A:=k8a q2b r;have B:=k8a q1w r;have C:=k8a nlB r;simp only[q1c,List.length_cons]
  split
  ·omega
  ·split
   ·omega
   ·split<;>omega
def lx(s:List UInt8)(i:Nat):List (Nat × List UInt8) × Option Nat:=
 match s with
 | []=>([],none)
 | c::r=>
  if spB c then lx r (i+1)
  else if q6q (c::r)then((i,tkW (c::r))::(lx ((c::r).drop (q1c (c::r))) (i+q1c (c::r))).1,(lx ((c::r).drop (q1c (c::r))) (i+q1c (c::r))).2)
  else([],some i)
termination_by s.length
decreasing_by
 all_goals first
  | (have:=q5j c r;simp only[List.length_drop,List.length_cons];omega)
  | (simp only[List.length_cons];omega)
def lxW(s:List UInt8)(i:Nat):List (Nat × List UInt8):=(lx s i).1
def lxF(s:List UInt8)(i:Nat):Option Nat:=(lx s i).2
theorem z4k(i:Nat):lx [] i=([],none):=by rw[lx]
theorem j6g{c:UInt8}(r:List UInt8)(i:Nat)(h:spB c=true):lx (c::r) i=lx r (i+1):=by rw[lx,if_pos h]
theorem k6y{c:UInt8}{r:List UInt8}(i:Nat)(h:spB c=false)(ho:q6q (c::r)=true):
  lx (c::r) i=((i,tkW (c::r))::lxW ((c::r).drop (q1c (c::r))) (i+q1c (c::r)),lxF ((c::r).drop (q1c (c::r))) (i+q1c (c::r))):=by
 rw[lx,if_neg (by simp[h]),if_pos ho];rfl
theorem k6x{c:UInt8}{r:List UInt8}(i:Nat)(h:spB c=false)(ho:q6q (c::r)=false):lx (c::r) i=([],some i):=by
 rw[lx,if_neg (by simp[h]),if_neg (by simp[ho])]
def q3b(w:List UInt8):Prop:=∃c r,w=c::r/\spB c=false/\q6q (c::r)=true/\q1c (c::r)=(c::r).length/\q1k (c::r)=c::r
theorem z5e{p:UInt8->Bool}:∀(r:List UInt8)(k:Nat),k<=(r.takeWhile p).length->(r.take k).takeWhile p=r.take k
 | _,0,_=>by simp
 | [],k+1,h=>by simp at h
 | a::r,k+1,h=>by
  rw[List.takeWhile_cons]at h;by_cases ha:p a=true
  ·rw[if_pos ha]at h;rw[List.take_succ_cons,List.takeWhile_cons,if_pos ha,z5e r k (by simp at h;omega)]
  ·rw[if_neg ha]at h;simp at h
theorem z5d{p:UInt8->Bool}(r:List UInt8):r.take (r.takeWhile p).length=r.takeWhile p:=by
 have:=z5e (p:=p) r (r.takeWhile p).length Zl
 induction r with
 | nil=>rfl
 | cons a r ih=>
  rw[List.takeWhile_cons]
  split
  ·rw[List.length_cons,List.take_succ_cons,ih (z5e r _ Zl)]
  ·rfl
theorem v1h{p:UInt8->Bool}{l:List UInt8}(h:l.all p=true)(k:Nat):(l.take k).all p=true:=by
 rw[List.all_eq_true]at h⊢;exact fun x hx=>h x (List.mem_of_mem_take hx)
theorem y8j{p:UInt8->Bool}{l:List UInt8}(h:∀x,p x=true->x≠32):q1k (l.takeWhile p)=l.takeWhile p:=by
 rcases List.eq_nil_or_concat (l.takeWhile p)with e|⟨v,c,e⟩
 ·rw[e];rfl
 ·rw[e,List.concat_eq_append];refine q2r v (h c ?_);have D:c∈l.takeWhile p:=by rw[e];simp
  have B:∀(l:List UInt8)x,x∈l.takeWhile p->p x=true:=by
   intro l
   induction l with
   | nil=>intro x A;cases A
   | cons a l ih=>
    intro x A;rw[List.takeWhile_cons]at A;by_cases C:p a=true
    ·rw[if_pos C]at A;rcases List.mem_cons.1 A with rfl|A
     ·exact C
     ·exact ih x A
    ·rw[if_neg C]at A;cases A
  exact B l c D
def q8h(b:UInt8):Bool:=decide (33<=b.toNat)&&decide (b.toNat<=126)
def okW(x:ByteArray):Bool:=decide (1<=x.size)&&decide (x.size<=20)&&x.data.toList.all q8h
def q1b(ws:List ByteArray):Int:=if 60<ws.length then 3 else if ws.all okW then 0 else 5
def q6u(ws:List ByteArray)(wd:Int):Int:=if q1b ws≠0 then q1b ws else if wd<1\/100<wd then 1 else 0
theorem q9t{ws:List ByteArray}(h:q1b ws=0):ws.length<=60/\∀x∈ws,okW x=true:=by
 unfold q1b at h
 split at h
 ·cases h
 ·split at h
  ·rename_i h1 h2;exact⟨by omega,fun x hx=>List.all_eq_true.1 h2 x hx⟩
  ·cases h
theorem v4e{x:ByteArray}(h:okW x=true):1<=x.size/\x.size<=20:=by
 simp only[okW,Bool.and_eq_true,decide_eq_true_eq]at h;exact h.1
def Few(ws:List ByteArray):Prop:=ws.length<=60/\∀x∈ws,x.size<=20
theorem v7a{ws:List ByteArray}(h:q1b ws=0):Few ws:=⟨(q9t h).1,fun x hx=>(v4e ((q9t h).2 x hx)).2⟩
theorem Few.take{ws:List ByteArray}(h:Few ws)(k:Nat):Few (ws.take k):=⟨by have:=h.1;simp;omega,fun x hx=>h.2 x (List.mem_of_mem_take hx)⟩
theorem Few.drop{ws:List ByteArray}(h:Few ws)(k:Nat):Few (ws.drop k):=⟨by have:=h.1;simp;omega,fun x hx=>h.2 x (List.mem_of_mem_drop hx)⟩
theorem k9c{ws:List ByteArray}{wd:Int}(h:q6u ws wd=0):q1b ws=0/\∃n:Nat,wd=n/\1<=n/\n<=100:=by
 unfold q6u at h
 split at h
 ·rename_i h1;exact absurd h h1
 ·rename_i h1
  split at h
  ·cases h
  ·refine⟨by omega,wd.toNat,by omega,by omega,by omega⟩
def tot:List ByteArray->Nat
 | []=>0
 | x::r=>x.size+tot r
theorem y2f(a b:List ByteArray):tot (a++b)=tot a+tot b:=by
 induction a with
 | nil=>simp[tot]
 | cons x r ih=>simp only[List.cons_append,tot,ih];omega
theorem v5v{ws:List ByteArray}{i:Nat}(h:i<ws.length):tot (ws.take (i+1))=tot (ws.take i)+ws[i].size:=by
 rw[List.take_succ_eq_append_getElem h,y2f];simp[tot]
theorem y5p{ws:List ByteArray}(h:∀x∈ws,x.size<=20):tot ws<=20*ws.length:=by
 induction ws with
 | nil=>simp[tot]
 | cons x r ih=>
  have A:=h x (by simp);have B:=ih fun y hy=>h y (by simp[hy])
  simp only[tot,List.length_cons];omega
theorem Few.tot{ws:List ByteArray}(h:Few ws):tot ws<=1200:=by
 have:=y5p h.2
 have:=h.1
 omega
def ln(ws:List ByteArray):Nat:=tot ws+(ws.length-1)
theorem Few.ln{ws:List ByteArray}(h:Few ws):ln ws<=1260:=by
 have:=h.tot
 have:=h.1
 simp only[Go.Proofs.YtfdppahhbpfnoaaGreatDoor.ln];omega
def jnL(ws:List ByteArray):List UInt8:=Lib.join (ws.map (·.data.toList)) [32]
def jnS(ws:List ByteArray):ByteArray:=⟨(jnL ws).toArray⟩
theorem v3m(ws:List ByteArray):Lib.lens (ws.map (·.data.toList))=tot ws:=by
 induction ws with
 | nil=>rfl
 | cons x r ih=>
  have e:Lib.lens ((x::r).map (·.data.toList))=x.data.toList.length+Lib.lens (r.map (·.data.toList)):=by simp[Lib.lens]
  rw[e,ih,tot,Lib.size_eq]
theorem j5c(ws:List ByteArray):(jnL ws).length=ln ws:=by
 cases ws with
 | nil=>rfl
 | cons x r=>
  have h:=Lib.join_length x.data.toList (r.map (·.data.toList)) [32];have A:=v3m (x::r);simp only[List.map_cons]at A;simp only[jnL,List.map_cons,h,A,ln,List.length_cons,List.length_nil,List.length_map];omega
theorem z3d(ws:List ByteArray):(jnS ws).size=ln ws:=by
 rw[<-j5c];simp[jnS,ByteArray.size]
theorem y0j:jnS []=⟨#[]⟩:=rfl
theorem v6q(a b:List UInt8):(⟨a.toArray⟩:ByteArray)++⟨b.toArray⟩=⟨(a++b).toArray⟩:=by
 apply ByteArray.ext;simp
theorem v8y(x:ByteArray):(⟨x.data.toList.toArray⟩:ByteArray)=x:=by cases x;simp
theorem j5d{ws:List ByteArray}(h:0<ws.length):jnS (ws.take 1)=ws[0]:=by
 cases ws with
 | nil=>simp at h
 | cons x r=>simp[jnS,jnL,Lib.join_one]
theorem v3e(x:ByteArray)(r:List ByteArray)(y:ByteArray):jnL (x::r++[y])=jnL (x::r)++[32]++y.data.toList:=by
 simp only[jnL,List.map_cons,List.cons_append,List.map_append,List.map_nil,Lib.join_cons,Lib.joinTail,List.flatten_append,List.flatten_cons,List.flatten_nil,List.append_nil,List.append_assoc]
theorem v3f{ws:List ByteArray}{i:Nat}(h0:0<i)(h:i<ws.length):jnS (ws.take (i+1))=jnS (ws.take i)++⟨#[32]⟩++ws[i]:=by
 rw[List.take_succ_eq_append_getElem h];cases ws with
 | nil=>simp at h
 | cons x r=>
  obtain⟨j,rfl⟩:∃j,i=j+1:=⟨i-1,by omega⟩;simp only[List.take_succ_cons];have e:=v3e x (r.take j) ((x::r)[j+1]'h);simp only[jnS,e];have A:(⟨#[32]⟩:ByteArray)=⟨([32]:List UInt8).toArray⟩:=rfl;rw[A]
  conv=>rhs;rw[<-v8y ((x::r)[j+1]'h)]
  rw[v6q,v6q]
def bd(n wd:Nat)(last:Bool):Nat:=if wd<n then 1000*(n-wd)else if last then 0 else(wd-n)*(wd-n)
theorem y3h{n wd:Nat}{last:Bool}(h1:n<=1260)(h2:wd<=100):bd n wd last<=1300000:=by
 unfold bd
 split
 ·omega
 ·split
  ·omega
  ·have:(wd-n)*(wd-n)<=100*100:=Nat.mul_le_mul (by omega) (by omega)
   omega
def q9f(g:Nat->Nat):Nat->Nat
 | 0=>0
 | n+1=>if n=0\/g (n+1)<=q9f g n then g (n+1)else q9f g n
def j1o(g:Nat->Nat):Nat->Nat
 | 0=>0
 | n+1=>if n=0\/g (n+1)<=q9f g n then n+1 else j1o g n
theorem z6r{g h:Nat->Nat}:∀n,(∀k,1<=k->k<=n->g k=h k)->q9f g n=q9f h n
 | 0,_=>rfl
 | n+1,e=>by
  have ih:=z6r n fun k h1 h2=>e k h1 (by omega)
  simp only[q9f,ih,e (n+1) (by omega) Zl]
theorem k4f(g:Nat->Nat):∀n k,1<=k->k<=n->q9f g n<=g k
 | 0,k,h1,h2=>by omega
 | n+1,k,h1,h2=>by
  simp only[q9f]
  split
  ·rename_i h;by_cases hk:k=n+1
   ·subst hk;exact Nat.le_refl _
   ·have:=k4f g n k h1 (by omega)
    rcases h with h|h<;>omega
  ·rename_i h;by_cases hk:k=n+1
   ·subst hk;omega
   ·exact k4f g n k h1 (by omega)
theorem k5r(g:Nat->Nat):∀n,1<=n->1<=j1o g n/\j1o g n<=n
 | 0,h=>by omega
 | n+1,h=>by
  simp only[j1o]
  split
  ·omega
  ·rename_i h1
   have:=k5r g n (by omega)
   omega
theorem j2b(g:Nat->Nat):∀n,1<=n->g (j1o g n)=q9f g n
 | 0,h=>by omega
 | n+1,h=>by
  simp only[j1o,q9f]
  split
  ·rfl
  ·rename_i h1;exact j2b g n (by omega)
theorem k0e(g:Nat->Nat):∀n k,j1o g n<k->k<=n->1<=k->g k≠q9f g n
 | 0,k,h1,h2,h3=>by omega
 | n+1,k,h1,h2,h3=>by
  simp only[j1o]at h1;simp only[q9f]
  split at h1
  ·omega
  ·rename_i h;rw[if_neg h];by_cases hk:k=n+1
   ·subst hk;omega
   ·exact k0e g n k h1 (by omega) h3
theorem j6k(g:Nat->Nat)(n:Nat):q9f g (n+1)=if n=0\/g (n+1)<q9f g n then g (n+1)else q9f g n:=by
 simp only[q9f];by_cases A:n=0
 ·simp[A]
 ·simp only[A,false_or]
  split<;>split<;>omega
def k8n(wd:Nat):List ByteArray->List Nat
 | []=>[0]
 | x::r=>q9f (fun k=>bd (ln ((x::r).take k)) wd (k==r.length+1)+(k8n wd r).getD (k-1) 0) (r.length+1)::k8n wd r
def best(wd:Nat)(ws:List ByteArray):Nat:=(k8n wd ws).getD 0 0
theorem z7u(wd:Nat):best wd []=0:=rfl
theorem z5x(wd:Nat):∀(ws:List ByteArray)(j:Nat),j<=ws.length->(k8n wd ws).getD j 0=best wd (ws.drop j)
 | _,0,_=>by simp[best]
 | [],j+1,h=>by simp at h
 | x::r,j+1,h=>by
  have:=z5x wd r j (by simp at h;omega)
  simpa[k8n]using this
def fOf(wd:Nat)(ws:List ByteArray)(k:Nat):Nat:=bd (ln (ws.take k)) wd (k==ws.length)+best wd (ws.drop k)
theorem z3o(wd:Nat){ws:List ByteArray}(h:ws≠[]):best wd ws=q9f (fOf wd ws) ws.length:=by
 cases ws with
 | nil=>exact absurd rfl h
 | cons x r=>
  simp only[best,k8n,List.getD_cons_zero,List.length_cons];refine z6r _ fun k h1 h2=>?_
  obtain⟨j,rfl⟩:∃j,k=j+1:=⟨k-1,by omega⟩;simp only[fOf,List.length_cons,List.drop_succ_cons,Nat.add_sub_cancel];rw[z5x wd r j (by omega)]
theorem j2l{wd:Nat}(hw:wd<=100):∀(n:Nat)(ws:List ByteArray),ws.length<=n->Few ws->best wd ws<=1300000
 | 0,ws,h,_=>by
  have:ws=[]:=List.eq_nil_of_length_eq_zero (by omega)
  subst this;simp[z7u]
 | n+1,ws,h,hf=>by
  by_cases h0:ws=[]
  ·subst h0;simp[z7u]
  ·have hp:0<ws.length:=List.length_pos_iff.2 h0;rw[z3o wd h0];refine Nat.le_trans (k4f _ _ ws.length hp Zl) ?_;simp only[fOf,List.drop_length,z7u]
   have:=y3h (last:=(ws.length==ws.length)) (hf.take ws.length).ln hw
   omega
theorem j3u{wd:Nat}(hw:wd<=100){ws:List ByteArray}(hf:Few ws)(k:Nat):fOf wd ws k<=2600000:=by
 have A:=j2l hw _ (ws.drop k) Zl (hf.drop k);have B:=y3h (last:=(k==ws.length)) (hf.take k).ln hw;simp only[fOf];omega
def agF(wd:Nat)(ws:List ByteArray):Nat:=j1o (fOf wd ws) ws.length
theorem z1l(wd:Nat){ws:List ByteArray}(h:ws≠[]):1<=agF wd ws/\agF wd ws<=ws.length:=k5r _ _ (List.length_pos_iff.2 h)
def z3u(wd:Nat)(ws:List ByteArray):List Nat:=
 if _h:ws=[]then []else agF wd ws::z3u wd (ws.drop (agF wd ws))
termination_by ws.length
decreasing_by
 have:=z1l wd _h
 simp only[List.length_drop];omega
theorem z3b(wd:Nat):z3u wd []=[]:=by rw[z3u];simp
theorem z0b(wd:Nat){ws:List ByteArray}(h:ws≠[]):z3u wd ws=agF wd ws::z3u wd (ws.drop (agF wd ws)):=by
 rw[z3u,dif_neg h]
def j6b:List ByteArray->List Nat->List ByteArray
 | _,[]=>[]
 | ws,k::ks=>jnS (ws.take k)::j6b (ws.drop k) ks
theorem j6c{x:UInt8}(h:q2b x=true):x≠32:=by
 rintro rfl;revert h;decide
theorem j3x{x:UInt8}(h:q1w x=true):x≠32:=by
 rintro rfl;revert h;decide
theorem k3o{x:UInt8}(h:q1w x=true):q2b x=false:=by
 simp only[q1w,q2b,Bool.and_eq_true,decide_eq_true_eq,Bool.and_eq_false_iff,decide_eq_false_iff_not]at h⊢;omega
theorem q8z{p:UInt8->Bool}(h:∀x,p x=true->x≠32)(c:UInt8)(hc:p c=true)(r:List UInt8):q1k (c::r.takeWhile p)=c::r.takeWhile p:=by
 have:=y8j (p:=p) (l:=c::r) h
 rw[List.takeWhile_cons,if_pos hc]at this;exact this
theorem v0b(p:UInt8->Bool)(r:List UInt8):(r.takeWhile p).takeWhile p=r.takeWhile p:=by
 have:=z5e (p:=p) r (r.takeWhile p).length Zl
 rw[z5d]at this;exact this
theorem k5d{c:UInt8}(h:spB c=false):c≠32:=by
 rintro rfl;revert h;decide
theorem v8i{c:UInt8}{r:List UInt8}(hs:spB c=false)(ho:q6q (c::r)=true):q3b (tkW (c::r)):=by
 cases A:q2b c with
 | true=>
  have e:tkW (c::r)=c::r.takeWhile q2b:=by
   simp only[tkW,q1c,A,if_true,List.take_succ_cons,z5d];exact q8z (fun _=>j6c) c A r
  refine⟨c,r.takeWhile q2b,e,hs,?_,?_,q8z (fun _=>j6c) c A r⟩
  ·simp only[q6q,A,if_true,v0b]at ho⊢;exact ho
  ·simp only[q1c,A,if_true,v0b,List.length_cons]
 | false=>
  cases B:q1w c with
  | true=>
   have e:tkW (c::r)=c::r.takeWhile q1w:=by
    simp only[tkW,q1c,A,B,if_true,Bool.false_eq_true,if_false,List.take_succ_cons,z5d];exact q8z (fun _=>j3x) c B r
   refine⟨c,r.takeWhile q1w,e,hs,?_,?_,q8z (fun _=>j3x) c B r⟩
   ·simp only[q6q,A,B,if_true,Bool.false_eq_true,if_false,v0b]at ho⊢;exact ho
   ·simp only[q1c,A,B,if_true,Bool.false_eq_true,if_false,v0b,List.length_cons]
  | false=>
   cases C:(c==35)with
   | true=>
    have e:tkW (c::r)=q1k (c::r.takeWhile nlB):=by
     simp only[tkW,q1c,A,B,C,if_true,Bool.false_eq_true,if_false,List.take_succ_cons,z5d]
    obtain⟨z,H⟩:=z2k (k5d hs) (r.takeWhile nlB)
    have E:z=(r.takeWhile nlB).take z.length:=by
     have:=z7e (c::r.takeWhile nlB)
     rw[H,List.length_cons,List.take_succ_cons,List.cons.injEq]at this;exact this.2.symm
    have D:z.length<=(r.takeWhile nlB).length:=by
     have:=z1b (c::r.takeWhile nlB)
     rw[H,List.length_cons,List.length_cons]at this;omega
    have G:z.takeWhile nlB=z:=by
     have:=z5e (p:=nlB) (r.takeWhile nlB) z.length (by rw[v0b];exact D)
     rw[<-E]at this;exact this
    refine⟨c,z,by rw[e,H],hs,?_,?_,by rw[<-H];exact j1d _⟩
    ·simp only[q6q,A,B,C,if_true,Bool.false_eq_true,if_false,G]at ho⊢;rw[E];exact v1h ho _
    ·simp only[q1c,A,B,C,if_true,Bool.false_eq_true,if_false,G,List.length_cons]
   | false=>
    have e:tkW (c::r)=[c]:=by
     simp only[tkW,q1c,A,B,C,Bool.false_eq_true,if_false,List.take_succ_cons,List.take_zero];exact q2r [] (k5d hs)
    refine⟨c,[],e,hs,?_,?_,q2r [] (k5d hs)⟩
    ·simp only[q6q,A,B,C,Bool.false_eq_true,if_false]at ho⊢;exact ho
    ·simp only[q1c,A,B,C,Bool.false_eq_true,if_false,List.length_cons,List.length_nil]
theorem j9v{w:List UInt8}(h:q3b w):1<=w.length:=by
 obtain⟨c,r,rfl,_⟩:=h;simp
def spc:List (List UInt8)->List UInt8
 | []=>[]
 | w::r=>w++10::spc r
def q9v(s:List UInt8)(i:Nat)(x:Nat × List UInt8):Prop:=i<=x.1/\x.1+x.2.length<=i+s.length/\(s.drop (x.1-i)).take x.2.length=x.2/\q3b x.2
theorem q9v.later{s:List UInt8}{i k:Nat}{x:Nat × List UInt8}(h:q9v (s.drop k) (i+k) x)(hk:k<=s.length):q9v s i x:=by
 obtain⟨D,B,A,C⟩:=h;rw[List.length_drop]at B;refine⟨by omega,by omega,?_,C⟩;rw[List.drop_drop]at A;have e:x.1-i=k+(x.1-(i+k)):=by omega
 rw[e];exact A
theorem y0y:∀(n:Nat)(s:List UInt8)(i:Nat),s.length<=n->(∀x∈lxW s i,q9v s i x)/\(lxW s i).Pairwise (fun a b=>a.1+a.2.length<=b.1)
 | 0,s,i,h=>by
  have:s=[]:=List.eq_nil_of_length_eq_zero (by omega)
  subst this;rw[lxW,z4k];exact⟨fun x hx=>absurd hx List.not_mem_nil,List.Pairwise.nil⟩
 | n+1,s,i,h=>by
  cases s with
  | nil=>
   rw[lxW,z4k];exact⟨fun x hx=>absurd hx List.not_mem_nil,List.Pairwise.nil⟩
  | cons c r=>
   cases hs:spB c with
   | true=>
    obtain⟨h1,h2⟩:=y0y n r (i+1) (by simp at h;omega);rw[lxW,j6g r i hs];exact⟨fun x hx=>q9v.later (s:=c::r) (k:=1) (h1 x hx) (by simp),h2⟩
   | false=>
    cases ho:q6q (c::r)with
    | false=>
     rw[lxW,k6x i hs ho];exact⟨fun x hx=>absurd hx List.not_mem_nil,List.Pairwise.nil⟩
    | true=>
     have hp:=q5j c r;have hle:=z0x (c::r)
     have hw:(tkW (c::r)).length<=q1c (c::r):=by
      have:=z1b ((c::r).take (q1c (c::r)))
      rw[List.length_take]at this;rw[tkW];omega
     obtain⟨h1,h2⟩:=y0y n ((c::r).drop (q1c (c::r))) (i+q1c (c::r)) (by simp only[List.length_drop,List.length_cons]at h⊢;omega);rw[lxW,k6y i hs ho];refine⟨fun x hx=>?_,List.pairwise_cons.2 ⟨fun x hx=>?_,h2⟩⟩
     ·rcases List.mem_cons.1 hx with rfl|hx
      ·refine⟨Nat.le_refl _,by simp only;omega,?_,v8i hs ho⟩;simp only[Nat.sub_self,List.drop_zero];have A:=z7e ((c::r).take (q1c (c::r)));rw[List.take_take,Nat.min_eq_left (by rw[tkW]at hw;exact hw)]at A;exact A
      ·exact(h1 x hx).later hle
     ·have:=(h1 x hx).1
      simp only;omega
def q2c(s:List UInt8):List (List UInt8):=(lxW s 0).map (·.2)
def z1h(s:List UInt8):List Nat:=(lxW s 0).map (·.1)
theorem z2r(s:List UInt8):(q2c s).length=(z1h s).length:=by simp[q2c,z1h]
theorem y6g(s:List UInt8)(j:Nat)(h:j<(q2c s).length)(h2:j<(z1h s).length):
  (z1h s)[j]+(q2c s)[j].length<=s.length/\(s.drop (z1h s)[j]).take (q2c s)[j].length=(q2c s)[j]/\q3b (q2c s)[j]/\∀k(hk:k<(q2c s).length)(hk2:k<(z1h s).length),k<j->(z1h s)[k]+(q2c s)[k].length<=(z1h s)[j]:=by
 obtain⟨B,C⟩:=y0y s.length s 0 Zl;have A:j<(lxW s 0).length:=by simpa[q2c]using h
 obtain⟨_,G,D,E⟩:=B (lxW s 0)[j] (List.getElem_mem A);simp only[q2c,z1h,List.getElem_map]at *;refine⟨by omega,by simpa using D,E,fun k hk hk2 hkj=>?_⟩;exact List.pairwise_iff_getElem.1 C k j (by simpa using hk2) A hkj
theorem y2m(s:List UInt8):∀w∈q2c s,q3b w:=by
 intro w B;obtain⟨j,A,rfl⟩:=List.getElem_of_mem B;exact(y6g s j A (by rw[<-z2r];exact A)).2.2.1
theorem z8p:∀(n:Nat)(s:List UInt8)(i:Nat),s.length<=n->(lxW s i).length<=s.length
 | 0,s,i,h=>by
  have:s=[]:=List.eq_nil_of_length_eq_zero (by omega)
  subst this;rw[lxW,z4k];simp
 | n+1,s,i,h=>by
  cases s with
  | nil=>rw[lxW,z4k];simp
  | cons c r=>
   cases hs:spB c with
   | true=>
    have:=z8p n r (i+1) (by simp at h;omega)
    rw[lxW,j6g r i hs];simp only[List.length_cons];rw[lxW]at this;omega
   | false=>
    cases ho:q6q (c::r)with
    | false=>rw[lxW,k6x i hs ho];simp
    | true=>
     have hp:=q5j c r;have hle:=z0x (c::r)
     have:=z8p n ((c::r).drop (q1c (c::r))) (i+q1c (c::r)) (by simp only[List.length_drop,List.length_cons]at h⊢;omega)
     rw[lxW,k6y i hs ho];simp only[List.length_cons,List.length_drop]at this hle⊢;omega
theorem v0h(s:List UInt8):(q2c s).length<=s.length:=by
 have:=z8p s.length s 0 Zl
 simpa[q2c]using this
def y8q(w:List UInt8):Bool:=w.headD 0 != 35
def many(ws:List (List UInt8)):Nat:=(ws.filter y8q).length
theorem k6z(a b:List (List UInt8)):many (a++b)=many a+many b:=by simp[many]
def q5u(s:List UInt8):Int:=if 60000<s.length then 3 else if(lxF s 0).isSome then 5 else if 300<many (q2c s)then 3 else 0
def z3f(s:List UInt8):Nat:=if q5u s=5 then(lxF s 0).getD 0 else 0
theorem z4g{s:List UInt8}(h:q5u s=0):s.length<=60000/\lxF s 0=none/\many (q2c s)<=300:=by
 unfold q5u at h
 split at h
 ·cases h
 ·split at h
  ·cases h
  ·split at h
   ·cases h
   ·rename_i h1 h2 h3;exact⟨by omega,by simpa using h2,by omega⟩
abbrev btL(s:ByteArray):List UInt8:=s.data.toList
theorem q0c(s:ByteArray):(btL s).length=s.size:=(Lib.size_eq s).symm
theorem q1g{s:ByteArray}{k:Nat}(h:k<s.size):(btL s).drop k=s[k]::(btL s).drop (k+1):=by
 have A:k<(btL s).length:=by rw[q0c];exact h
 rw[List.drop_eq_getElem_cons A];rfl
def twN(p:UInt8->Bool)(s:ByteArray)(k:Nat):Nat:=(((btL s).drop k).takeWhile p).length
theorem z9r{p:UInt8->Bool}{s:ByteArray}{k:Nat}(h:k<s.size)(hp:p s[k]=true):twN p s k=twN p s (k+1)+1:=by
 rw[twN,q1g h,List.takeWhile_cons,if_pos hp];rfl
theorem k7z{p:UInt8->Bool}{s:ByteArray}{k:Nat}(h:k<s.size)(hp:p s[k]=false):twN p s k=0:=by
 rw[twN,q1g h,List.takeWhile_cons,if_neg (by simp[hp])];rfl
theorem z9q{p:UInt8->Bool}{s:ByteArray}{k:Nat}(h:¬k<s.size):twN p s k=0:=by
 rw[twN,List.drop_eq_nil_of_le (by rw[q0c];omega)];rfl
def prN(s:ByteArray)(k:Nat):Bool:=(((btL s).drop k).takeWhile nlB).all prB
theorem y1m{s:ByteArray}{k:Nat}(h:k<s.size)(hp:nlB s[k]=true):prN s k=(prB s[k]&&prN s (k+1)):=by
 rw[prN,q1g h,List.takeWhile_cons,if_pos hp,List.all_cons];rfl
theorem y4v{s:ByteArray}{k:Nat}(h:k<s.size)(hp:nlB s[k]=false):prN s k=true:=by
 rw[prN,q1g h,List.takeWhile_cons,if_neg (by simp[hp])];rfl
theorem y1l{s:ByteArray}{k:Nat}(h:¬k<s.size):prN s k=true:=by
 rw[prN,List.drop_eq_nil_of_le (by rw[q0c];omega)];rfl
def z2h(s:ByteArray)(i:Nat):Nat:=q1c ((btL s).drop i)
def tOk(s:ByteArray)(i:Nat):Bool:=q6q ((btL s).drop i)
theorem y8e{s:ByteArray}{i:Nat}(h:i<s.size)(hc:q2b s[i]=true):z2h s i=twN q2b s (i+1)+1/\tOk s i=decide (twN q2b s (i+1)+1<=8):=by
 rw[z2h,tOk,q1g h];simp only[q1c,q6q,hc,if_true];exact⟨rfl,rfl⟩
theorem y8d{s:ByteArray}{i:Nat}(h:i<s.size)(hc:q2b s[i]=false)(hf:q1w s[i]=true):z2h s i=twN q1w s (i+1)+1/\tOk s i=(decide (twN q1w s (i+1)+1<=6)&&(s[i] != 48||twN q1w s (i+1)==0)):=by
 rw[z2h,tOk,q1g h];simp only[q1c,q6q,hc,hf,if_true,Bool.false_eq_true,if_false];exact⟨rfl,rfl⟩
theorem y5k{s:ByteArray}{i:Nat}(h:i<s.size)(hc:q2b s[i]=false)(hf:q1w s[i]=false)(hn:(s[i]==35)=true):z2h s i=twN nlB s (i+1)+1/\tOk s i=prN s (i+1):=by
 rw[z2h,tOk,q1g h];simp only[q1c,q6q,hc,hf,hn,if_true,Bool.false_eq_true,if_false];exact⟨rfl,rfl⟩
theorem y5j{s:ByteArray}{i:Nat}(h:i<s.size)(hc:q2b s[i]=false)(hf:q1w s[i]=false)(hn:(s[i]==35)=false):z2h s i=1/\tOk s i=y6p s[i]:=by
 rw[z2h,tOk,q1g h];simp only[q1c,q6q,hc,hf,hn,Bool.false_eq_true,if_false];exact⟨trivial,trivial⟩
theorem y8s{s:ByteArray}{i:Nat}(h:i<s.size):1<=z2h s i/\i+z2h s i<=s.size:=by
 have A:=z0x ((btL s).drop i);rw[List.length_drop,q0c]at A;rw[z2h];refine⟨?_,by omega⟩;rw[q1g h];exact q5j _ _
theorem q5z(c:UInt8)(n:Nat)(hn:n<256):((c.toNat:Int)==(n:Int))=(c==UInt8.ofNat n):=by
 by_cases h:c=UInt8.ofNat n
 ·subst h;rw[beq_iff_eq.2 (show((UInt8.ofNat n).toNat:Int)=(n:Int) by simp[Nat.mod_eq_of_lt hn])];simp
 ·rw[beq_false_of_ne h,beq_false_of_ne];intro e;apply h
  have:c.toNat=n:=by omega
  rw[<-this];simp
def wbS(w:List UInt8):ByteArray:=⟨w.toArray⟩
theorem q9s(s:ByteArray)(i e:Nat):s.extract i e=wbS (((btL s).drop i).take (e-i)):=by
 apply ByteArray.ext;rw[ByteArray.data_extract];apply Array.ext';simp only[wbS,Array.toList_extract,List.extract]
structure Td where
 op:Int
 tx:ByteArray
 n:Int
def kdT(x:Td):Nat:=if x.op=3\/x.op=4 then x.n.toNat else if x.op=5\/x.op=6 then 2 else if x.op=7\/x.op=8 then 1 else 0
def z5y:List Td->Nat->Option Nat
 | _,0=>some 0
 | [],_+1=>none
 | x::r,m+1=>(z5y r (kdT x+m)).map (· + 1)
theorem q7v(ds:List Td):z5y ds 0=some 0:=by cases ds<;>rfl
theorem q8m(m:Nat):z5y [] (m+1)=none:=rfl
theorem q5c(x:Td)(r:List Td)(m:Nat):z5y (x::r) (m+1)=(z5y r (kdT x+m)).map (· + 1):=rfl
theorem k3g:∀(ds:List Td)(m k:Nat),z5y ds m=some k->m<=k/\k<=ds.length
 | ds,0,k,h=>by rw[q7v]at h;cases h;simp
 | [],m+1,k,h=>by rw[q8m]at h;cases h
 | x::r,m+1,k,h=>by
  rw[q5c,Option.map_eq_some_iff]at h;obtain⟨j,h1,rfl⟩:=h
  have:=k3g r _ j h1
  simp;omega
theorem z7y:∀(ds:List Td)(a b:Nat),z5y ds (a+b)=(z5y ds a).bind fun k=>(z5y (ds.drop k) b).map (k+·)
 | ds,0,b=>by
  rw[q7v];simp
 | [],a+1,b=>by rw[show a+1+b=(a+b)+1 by omega,q8m,q8m];rfl
 | x::r,a+1,b=>by
  rw[show a+1+b=(a+b)+1 by omega,q5c,q5c,show kdT x+(a+b)=(kdT x+a)+b by omega,z7y r _ b];cases z5y r (kdT x+a)with
  | none=>rfl
  | some k=>
   simp only[Option.bind_some,Option.map_some,List.drop_succ_cons];cases z5y (r.drop k) b with
   | none=>rfl
   | some j=>simp;omega
def q3p(ds:List Td)(i m:Nat):Option Nat:=(z5y (ds.drop i) m).map (i+·)
theorem k0q(ds:List Td)(i:Nat):q3p ds i 0=some i:=by simp[q3p,q7v]
theorem q8o(ds:List Td)(i m:Nat)(h:ds.length<=i):q3p ds i (m+1)=none:=by
 rw[q3p,List.drop_eq_nil_of_le h,q8m];rfl
theorem z3w(ds:List Td)(i m:Nat)(h:i<ds.length):q3p ds i (m+1)=q3p ds (i+1) (kdT ds[i]+m):=by
 rw[q3p,List.drop_eq_getElem_cons h,q5c,q3p];cases z5y (ds.drop (i+1)) (kdT ds[i]+m)with
 | none=>rfl
 | some k=>simp;omega
theorem v2f(ds:List Td)(i a b:Nat):q3p ds i (a+b)=(q3p ds i a).bind fun j=>q3p ds j b:=by
 rw[q3p,z7y,q3p];cases z5y (ds.drop i) a with
 | none=>rfl
 | some k=>
  simp only[Option.bind_some,Option.map_some,q3p,List.drop_drop];cases z5y (ds.drop (i+k)) b with
  | none=>rfl
  | some j=>simp;omega
theorem y0a{ds:List Td}{i m j:Nat}(h:q3p ds i m=some j):i+m<=j/\(m=0\/j<=ds.length):=by
 rw[q3p,Option.map_eq_some_iff]at h;obtain⟨k,A,rfl⟩:=h;have B:=k3g _ _ _ A;rw[List.length_drop]at B;omega
def q0o(s:ByteArray):Bool:=decide (1<=s.size)&&decide (s.size<=8)&&decide (btL s≠[108,101,116])&&(btL s).all q2b
def q5n:List UInt8->List (List UInt8)
 | []=>[[]]
 | c::r=>if c=32 then []::q5n r else match q5n r with
  | []=>[[c]]
  | w::ws=>(c::w)::ws
theorem q9q(s:List UInt8):q5n s≠[]:=by
 cases s with
 | nil=>simp[q5n]
 | cons c r=>
  simp only[q5n]
  split
  ·simp
  ·split<;>simp
theorem q6l(r:List UInt8):q5n (32::r)=[]::q5n r:=by simp[q5n]
theorem q4x{c:UInt8}(h:c≠32){r w:List UInt8}{ws:List (List UInt8)}(hr:q5n r=w::ws):q5n (c::r)=(c::w)::ws:=by
 simp only[q5n,if_neg h,hr]
theorem k7s(u r:List UInt8)(h:∀b∈u,b≠32):q5n (u++32::r)=u::q5n r:=by
 induction u with
 | nil=>exact q6l r
 | cons c u ih=>
  have A:=ih fun b hb=>h b (by simp[hb])
  rw[List.cons_append,q4x (h c (by simp)) A]
theorem k7t(u:List UInt8)(h:∀b∈u,b≠32):q5n u=[u]:=by
 induction u with
 | nil=>rfl
 | cons c u ih=>rw[q4x (h c (by simp)) (ih fun b hb=>h b (by simp[hb]))]
def q0e(s:List UInt8):List (List UInt8):=if s=[]then []else q5n s
def q2x(s:ByteArray):Int:=q1b ((q0e (btL s)).map wbS)
def q2u(op:Int):Bool:=decide (op=2)||decide (op=3)||decide (op=7)||decide (op=9)
def q0p(x:Td):Int:=
 if x.op<1\/9<x.op then 1
 else if(x.op=1/\(x.n<0\/999999<x.n))\/((x.op=3\/x.op=4)/\(x.n<0\/6<x.n))then 1
 else if(x.op≠1/\x.op≠3/\x.op≠4/\x.n≠0)\/(q2u x.op=false/\0<x.tx.size)then 2
 else if x.op=9 then q2x x.tx
 else if q2u x.op=true/\q0o x.tx=false then 5 else 0
def v1d:List Td->Int
 | []=>0
 | x::r=>if q0p x=0 then v1d r else q0p x
theorem k6p:∀(ds:List Td),(∀x∈ds,q0p x=0)->v1d ds=0
 | [],_=>rfl
 | x::r,h=>by rw[v1d,if_pos (h x (by simp)),k6p r fun y hy=>h y (by simp[hy])]
theorem k0x:∀(ds:List Td),v1d ds=0->∀x∈ds,q0p x=0
 | [],_=>by simp
 | x::r,h=>by
  rw[v1d]at h
  split at h
  ·rename_i h0;intro y hy;rcases List.mem_cons.1 hy with rfl|hy
   ·exact h0
   ·exact k0x r h y hy
  ·rename_i h0;exact absurd h h0
theorem j4x:∀(ds:List Td)(k:Nat)(h:k<ds.length),(∀x∈ds.take k,q0p x=0)->q0p ds[k]≠0->v1d ds=q0p ds[k]
 | x::r,0,_,_,h=>by
  have h':q0p x≠0:=h;rw[v1d,if_neg h'];rfl
 | x::r,k+1,hk,ha,h=>by
  rw[v1d,if_pos (ha x (by simp)),j4x r k (by simpa using hk) (fun y hy=>ha y (by simp[hy])) h];rfl
def k5h(ds:List Td):Bool:=match ds with
 | []=>true
 | x::r=>decide (7<=x.op)&&r.all fun y=>decide (y.op<7)
def q0b(ds:List Td):Int:=
 if 40<ds.length then 3 else if v1d ds≠0 then v1d ds else if q3p ds 0 1=some ds.length/\k5h ds=true then 0 else 2
theorem q4y{ds:List Td}(h:q0b ds=0):ds.length<=40/\(∀x∈ds,q0p x=0)/\q3p ds 0 1=some ds.length/\k5h ds=true:=by
 unfold q0b at h
 split at h
 ·cases h
 ·split at h
  ·rename_i h1;exact absurd h h1
  ·rename_i h0 h1
   split at h
   ·rename_i h2;exact⟨by omega,k0x ds (by omega),h2.1,h2.2⟩
   ·cases h
theorem v7f{x:Td}(h:q0p x=0):kdT x<=6:=by
 unfold q0p at h
 split at h
 ·cases h
 ·split at h
  ·cases h
  ·rename_i h1 h2;unfold kdT
   split
   ·omega
   ·split
    ·omega
    ·split<;>omega
theorem y3m{s:ByteArray}{k:Nat}(h:k<s.size):s[k]∈s.data.toList:=by
 have A:k<s.data.toList.length:=by rw[<-Lib.size_eq];exact h
 exact List.getElem_mem A
theorem k7h{s:ByteArray}(h1:1<=s.size)(h2:s.size<=20)(h:∀k(h:k<s.size),q8h s[k]=true):okW s=true:=by
 simp only[okW,h1,h2,decide_true,Bool.true_and,List.all_eq_true];intro b A;obtain⟨i,B,rfl⟩:=List.getElem_of_mem A;exact h i (by rw[Lib.size_eq];exact B)
theorem j8b{s:ByteArray}{k:Nat}(h:k<s.size)(hb:q8h s[k]=false):okW s=false:=by
 cases e:okW s with
 | false=>rfl
 | true=>
  simp only[okW,Bool.and_eq_true,List.all_eq_true]at e
  have:=e.2 s[k] (y3m h)
  rw[hb]at this;cases this
theorem z5g{b:UInt8}(h:q8h b=false):(b.toNat:Int)<33\/(¬(b.toNat:Int)<33/\126<(b.toNat:Int)):=by
 simp[q8h]at h;omega
theorem z7f{b:UInt8}(h:q8h b=true):¬(b.toNat:Int)<33/\¬126<(b.toNat:Int):=by
 simp[q8h]at h;omega
theorem q7m{ws:List ByteArray}(h:60<ws.length):q1b ws=3:=by rw[q1b,if_pos h]
theorem z7h{ws:List ByteArray}{k:Nat}(hl:ws.length<=60)(hk:k<ws.length)(h:okW ws[k]=false):q1b ws=5:=by
 rw[q1b,if_neg (by omega),if_neg];intro e
 have:=List.all_eq_true.1 e ws[k] (List.getElem_mem hk)
 rw[h]at this;cases this
theorem z7g{ws:List ByteArray}(hl:ws.length<=60)(h:∀j(h:j<ws.length),okW ws[j]=true):q1b ws=0:=by
 rw[q1b,if_neg (by omega),if_pos];rw[List.all_eq_true];intro x B;obtain⟨j,A,rfl⟩:=List.getElem_of_mem B;exact h j A
theorem j5q{s:ByteArray}:btL s=[108,101,116]↔s=⟨#[108,101,116]⟩:=by
 constructor
 ·intro h;apply ByteArray.ext;apply Array.ext';exact h
 ·intro h;rw[h]
theorem k1u{s:ByteArray}(h1:1<=s.size)(h2:s.size<=8)(h3:¬s=⟨#[108,101,116]⟩)(h:∀k(h:k<s.size),q2b s[k]=true):q0o s=true:=by
 have A:btL s≠[108,101,116]:=fun e=>h3 (j5q.1 e)
 simp only[q0o,h1,h2,A,decide_true,Bool.true_and,List.all_eq_true,ne_eq,not_false_eq_true];intro b B;obtain⟨i,C,rfl⟩:=List.getElem_of_mem B;exact h i (by rw[<-q0c];exact C)
theorem k1v{s:ByteArray}{k:Nat}(h:k<s.size)(hb:q2b s[k]=false):q0o s=false:=by
 cases e:q0o s with
 | false=>rfl
 | true=>
  simp only[q0o,Bool.and_eq_true,List.all_eq_true]at e;have A:k<(btL s).length:=by rw[q0c];exact h
  have:=e.2 s[k] (List.getElem_mem A)
  rw[hb]at this;cases this
theorem z4l{s:ByteArray}(h:s.size<1):q0o s=false:=by
 have:decide (1<=s.size)=false:=decide_eq_false (by omega)
 simp[q0o,this]
theorem z6s{s:ByteArray}(h:8<s.size):q0o s=false:=by
 have:decide (s.size<=8)=false:=decide_eq_false (by omega)
 simp[q0o,this]
theorem z1d(s:ByteArray):wbS (btL s)=s:=by
 obtain⟨d⟩:=s;simp[wbS,btL]
theorem j3j{l:List UInt8}(h:Lib.indexByte l 32=-1):∀b∈l,b≠32:=by
 intro b A e;subst e;obtain⟨k,B⟩:=List.getElem?_of_mem A;exact Lib.indexByte_none h k B
theorem k6a{l:List UInt8}{i:Nat}(h:Lib.indexByte l 32=i):i<l.length/\l=l.take i++32::l.drop (i+1)/\∀b∈l.take i,b≠32:=by
 obtain⟨C,D⟩:=Lib.indexByte_some h;obtain⟨B,E⟩:=List.getElem?_eq_some_iff.1 C;refine⟨B,?_,?_⟩
 ·have:=(List.take_append_drop i l).symm
  rw[List.drop_eq_getElem_cons B,E]at this;exact this
 ·intro b G e;subst e;obtain⟨k,A⟩:=List.getElem?_of_mem G;rw[List.getElem?_take]at A
  split at A
  ·rename_i hki;exact D k hki A
  ·cases A
def spK:Nat->ByteArray->List ByteArray
 | 0,s=>[s]
 | k+1,s=>if Lib.indexByte s.data.toList 32=-1 then [s]else s.extract 0 (Lib.indexByte s.data.toList 32).toNat::spK k (s.extract ((Lib.indexByte s.data.toList 32).toNat+1) s.size)
theorem z9f(s:ByteArray):spK 0 s=[s]:=rfl
theorem z0s(k:Nat){s:ByteArray}(h:Lib.indexByte s.data.toList 32=-1):spK k s=[s]:=by
 cases k with
 | zero=>rfl
 | succ k=>rw[spK,if_pos h]
theorem z4w(k:Nat){s:ByteArray}{i:Nat}(h:Lib.indexByte s.data.toList 32=i):spK (k+1) s=s.extract 0 i::spK k (s.extract (i+1) s.size):=by
 rw[spK,if_neg (by omega),h];rfl
theorem y7f(s:ByteArray)(i:Nat):btL (s.extract 0 i)=(btL s).take i:=by
 rw[q9s,List.drop_zero,Nat.sub_zero];rfl
theorem v9k(s:ByteArray)(i:Nat):btL (s.extract i s.size)=(btL s).drop i:=Lib.extract_to_end s i
theorem q8f(s:ByteArray):Lib.indexByte s.data.toList 32=-1\/∃i:Nat,Lib.indexByte s.data.toList 32=i/\i<s.size:=by
 have A:=Lib.indexByte_ge s.data.toList 32;by_cases h:Lib.indexByte s.data.toList 32=-1
 ·exact .inl h
 ·refine .inr ⟨(Lib.indexByte s.data.toList 32).toNat,by omega,?_⟩
  have:=(k6a (l:=btL s) (i:=(Lib.indexByte s.data.toList 32).toNat) (by show Lib.indexByte s.data.toList 32=_;omega)).1
  rw[q0c]at this;exact this
theorem z9h{s:ByteArray}{i:Nat}(h:Lib.indexByte s.data.toList 32=i):q5n (btL s)=btL (s.extract 0 i)::q5n (btL (s.extract (i+1) s.size)):=by
 obtain⟨_,A,B⟩:=k6a (l:=btL s) h;rw[y7f,v9k]
 conv=>lhs;rw[A]
 rw[k7s _ _ B]
theorem k5e{s:ByteArray}(h:Lib.indexByte s.data.toList 32=-1):q5n (btL s)=[btL s]:=k7t _ (j3j (l:=btL s) h)
theorem v5c{s:ByteArray}{i:Nat}(h:i<s.size):(s.extract (i+1) s.size).size=s.size-(i+1):=by
 rw[ByteArray.size_extract];omega
theorem j9c:∀(k:Nat)(s:ByteArray),s.size<=k->(spK k s).map btL=q5n (btL s)
 | 0,s,h=>by
  have e:btL s=[]:=List.eq_nil_of_length_eq_zero (by rw[q0c];omega);rw[z9f,List.map_cons,List.map_nil,e];rfl
 | k+1,s,h=>by
  rcases q8f s with h1|⟨i,h1,h2⟩
  ·rw[z0s _ h1,k5e h1];rfl
  ·rw[z4w k h1,z9h h1,List.map_cons,j9c k _ (by rw[v5c h2];omega)]
theorem j9e:∀(k:Nat)(s:ByteArray),(spK k s).length<=k->(spK k s).map btL=q5n (btL s)
 | 0,s,h=>by rw[z9f]at h;simp at h
 | k+1,s,h=>by
  rcases q8f s with h1|⟨i,h1,h2⟩
  ·rw[z0s _ h1,k5e h1];rfl
  ·rw[z4w k h1]at h⊢;rw[List.length_cons]at h;rw[z9h h1,List.map_cons,j9e k _ (by omega)]
theorem v8d:∀(k:Nat)(s:ByteArray),(spK k s).length<=(q5n (btL s)).length
 | 0,s=>by
  rw[z9f]
  have:=q9q (btL s)
  cases h:q5n (btL s)with
  | nil=>exact absurd h this
  | cons a b=>simp
 | k+1,s=>by
  rcases q8f s with h1|⟨i,h1,h2⟩
  ·rw[z0s _ h1,k5e h1];simp
  ·rw[z4w k h1,z9h h1,List.length_cons,List.length_cons]
   have:=v8d k (s.extract (i+1) s.size)
   omega
theorem j2e{l:List ByteArray}{m:List (List UInt8)}(h:l.map btL=m):l=m.map wbS:=by
 subst h;rw[List.map_map]
 have:(wbS∘btL)=id:=by funext s;exact z1d s
 rw[this,List.map_id]
theorem j9d(s:ByteArray)(k:Nat)(hk:k=min 60 s.size):q1b (spK k s)=q1b ((q5n (btL s)).map wbS):=by
 by_cases h:s.size<=60
 ·rw[j2e (j9c k s (by omega))]
 ·have A:k=60:=by omega
  subst A;by_cases B:(spK 60 s).length<=60
  ·rw[j2e (j9e 60 s B)]
  ·have C:=v8d 60 s;rw[q7m (by omega),q7m (by rw[List.length_map];omega)]
theorem v3z{s:ByteArray}(h:0<s.size)(k:Nat)(hk:k=min 60 s.size):q1b (spK k s)=q2x s:=by
 rw[j9d s k hk,q2x,q0e,if_neg];intro e
 have:=congrArg List.length e
 rw[q0c,List.length_nil]at this;omega
theorem j7s{s:ByteArray}(h:s.size=0):q2x s=0:=by
 have e:btL s=[]:=List.eq_nil_of_length_eq_zero (by rw[q0c];exact h);rw[q2x,q0e,if_pos e];rfl
def opT(t:List Td):Int:=match t with
 | []=>0
 | x::_=>x.op
theorem z4o{t:List Td}(h:0<t.length):opT t=t[0].op:=by
 cases t with
 | nil=>simp at h
 | cons x r=>rfl
def q3z(prev:Int)(k:Nat):List (List Td)->Nat × Int
 | []=>(0,0)
 | t::r=>if q0b t≠0 then(k,q0b t)else if opT t=9/\prev=9 then(k,2)else q3z (opT t) (k+1) r
def q0r(ps:List (List Td)):Nat × Int:=if 20<ps.length then(0,3)else q3z 0 0 ps
theorem z0z{t:List Td}(h:q0b t=0):0<t.length:=by
 rcases Nat.eq_zero_or_pos t.length with A|A
 ·have:t=[]:=List.eq_nil_of_length_eq_zero A
  subst this
  have:=(q4y h).2.2.1
  rw[q8o [] 0 0 (by simp)]at this;cases this
 ·exact A
def q2v(ps:List (List Td))(k:Nat):Int:=if k=0 then 0 else opT (ps.getD (k-1) [])
theorem z2e{ps:List (List Td)}{k:Nat}(h:k<ps.length):q2v ps (k+1)=opT ps[k]:=by
 simp[q2v,h]
theorem k2f{ps:List (List Td)}{k:Nat}{A:Int}(h:k<ps.length)(he:q0b ps[k]≠0):q3z A k (ps.drop k)=(k,q0b ps[k]):=by
 rw[List.drop_eq_getElem_cons h,q3z,if_pos he]
theorem k2g{ps:List (List Td)}{k:Nat}{A:Int}(h:k<ps.length)(he:q0b ps[k]=0)(h2:opT ps[k]=9/\A=9):q3z A k (ps.drop k)=(k,2):=by
 rw[List.drop_eq_getElem_cons h,q3z,if_neg (by simp[he]),if_pos h2]
theorem z6v{ps:List (List Td)}{k:Nat}{A:Int}(h:k<ps.length)(he:q0b ps[k]=0)(h2:¬(opT ps[k]=9/\A=9)):q3z A k (ps.drop k)=q3z (q2v ps (k+1)) (k+1) (ps.drop (k+1)):=by
 rw[List.drop_eq_getElem_cons h,q3z,if_neg (by simp[he]),if_neg h2,z2e h]
end Go.Proofs.YtfdppahhbpfnoaaGreatDoor
