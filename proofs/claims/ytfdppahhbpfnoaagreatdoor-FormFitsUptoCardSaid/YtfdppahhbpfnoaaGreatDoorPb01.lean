import Derived.Test.YtfdppahhbpfnoaaGreatDoorPb00
import Derived.Lib.Join
open Go.Proofs.Tryz
namespace Go.Proofs.YtfdppahhbpfnoaaGreatDoor
open Go
def spB(c:UInt8):Bool:=c==32||c==10
def q2f(c:UInt8):Bool:=decide (97<=c.toNat)&&decide (c.toNat<=122)
def q4f(c:UInt8):Bool:=decide (48<=c.toNat)&&decide (c.toNat<=57)
def nlB(c:UInt8):Bool:=c != 10
def prB(c:UInt8):Bool:=decide (32<=c.toNat)&&decide (c.toNat<=126)
def y6w:List UInt8:=[40,41,91,93,44,43,42,61,59]
def y4o(c:UInt8):Bool:=y6w.any (·==c)
def q0r:List UInt8->Nat
 | []=>0
 | c::r=>if q2f c then(r.takeWhile q2f).length+1 else if q4f c then(r.takeWhile q4f).length+1 else if c==35 then(r.takeWhile nlB).length+1 else 1
def q5b:List UInt8->Bool
 | []=>false
 | c::r=>if q2f c then decide ((r.takeWhile q2f).length+1<=8)else if q4f c then decide ((r.takeWhile q4f).length+1<=6)&&(c != 48||(r.takeWhile q4f).length==0)else if c==35 then(r.takeWhile nlB).all prB else y4o c
def q1d(w:List UInt8):List UInt8:=(w.reverse.dropWhile (·==32)).reverse
theorem z4t(w:List UInt8):q1d (w++[32])=q1d w:=by simp[q1d]
theorem q1n(w:List UInt8){c:UInt8}(h:c≠32):q1d (w++[c])=w++[c]:=by simp[q1d,h]
theorem v0g:q1d []=[]:=rfl
theorem z4u(w:List UInt8):∃z,w=q1d w++z:=by
 refine⟨(w.reverse.takeWhile (·==32)).reverse,?_⟩;rw[q1d,<-List.reverse_append,List.takeWhile_append_dropWhile,List.reverse_reverse]
theorem z0r(w:List UInt8):(q1d w).length<=w.length:=by
 obtain⟨z,A⟩:=z4u w
 have:=congrArg List.length A
 rw[List.length_append]at this;omega
theorem z7b(w:List UInt8):w.take (q1d w).length=q1d w:=by
 obtain⟨z,B⟩:=z4u w;have A:w.take (q1d w).length=(q1d w++z).take (q1d w).length:=congrArg (List.take _) B;rw[A,List.take_left]
theorem z4v:∀(n:Nat)(w:List UInt8),w.length<=n->q1d (q1d w)=q1d w
 | n,w,h=>by
  rcases List.eq_nil_or_concat w with rfl|⟨v,c,rfl⟩
  ·rfl
  ·rw[List.concat_eq_append]at h⊢;by_cases hc:c=32
   ·subst hc;rw[z4t]
    match n,h with
    | 0,h=>simp at h
    | n+1,h=>exact z4v n v (by simp at h;omega)
   ·rw[q1n v hc,q1n v hc]
theorem j1x(w:List UInt8):q1d (q1d w)=q1d w:=z4v _ w Zl
theorem z1y{c:UInt8}(h:c≠32)(r:List UInt8):∃z,q1d (c::r)=c::z:=by
 obtain⟨z,E⟩:=z4u (c::r);cases D:q1d (c::r)with
 | nil=>
  exfalso
  have G:∀(l:List UInt8),l.dropWhile (·==32)=[]->∀x∈l,x=32:=by
   intro l
   induction l with
   | nil=>intro _ x B;cases B
   | cons a l ih=>
    intro A x B;rw[List.dropWhile_cons]at A;by_cases C:(a==32)=true
    ·rw[if_pos C]at A;rcases List.mem_cons.1 B with rfl|B
     ·exact beq_iff_eq.1 C
     ·exact ih A x B
    ·rw[if_neg C]at A;cases A
  rw[q1d,List.reverse_eq_nil_iff]at D;exact h (G _ D c (by simp))
 | cons a b=>
  rw[D,List.cons_append,List.cons.injEq]at E;exact⟨b,by rw[E.1]⟩
def tkW(s:List UInt8):List UInt8:=q1d (s.take (q0r s))
theorem q4p(c:UInt8)(r:List UInt8):1<=q0r (c::r):=by
 simp only[q0r]
 split
 ·omega
 ·split
  ·omega
  ·split<;>omega
theorem k9k{α:Type}(p:α->Bool)(l:List α):(l.takeWhile p).length<=l.length:=by
 induction l with
 | nil=>simp
 | cons a l ih=>
  rw[List.takeWhile_cons]
  split
  ·simp;omega
  ·simp
theorem z0o(s:List UInt8):q0r s<=s.length:=by
 cases s with
 | nil=>simp[q0r]
 | cons c r=>
  have A:=k9k q2f r;have B:=k9k q4f r;have C:=k9k nlB r;simp only[q0r,List.length_cons]
  split
  ·omega
  ·split
   ·omega
   ·split<;>omega
def lx(s:List UInt8)(i:Nat):List (Nat × List UInt8) × Option Nat:=
 match s with
 | []=>([],none)
 | c::r=>
  if spB c then lx r (i+1)
  else if q5b (c::r)then((i,tkW (c::r))::(lx ((c::r).drop (q0r (c::r))) (i+q0r (c::r))).1,(lx ((c::r).drop (q0r (c::r))) (i+q0r (c::r))).2)
  else([],some i)
termination_by s.length
decreasing_by
 all_goals first
  | (have:=q4p c r;simp only[List.length_drop,List.length_cons];omega)
  | (simp only[List.length_cons];omega)
def lxW(s:List UInt8)(i:Nat):List (Nat × List UInt8):=(lx s i).1
def lxF(s:List UInt8)(i:Nat):Option Nat:=(lx s i).2
theorem z2c(i:Nat):lx [] i=([],none):=by rw[lx]
theorem k5w{c:UInt8}(r:List UInt8)(i:Nat)(h:spB c=true):lx (c::r) i=lx r (i+1):=by rw[lx,if_pos h]
theorem z6l{c:UInt8}{r:List UInt8}(i:Nat)(h:spB c=false)(ho:q5b (c::r)=true):
  lx (c::r) i=((i,tkW (c::r))::lxW ((c::r).drop (q0r (c::r))) (i+q0r (c::r)),lxF ((c::r).drop (q0r (c::r))) (i+q0r (c::r))):=by
 rw[lx,if_neg (by simp[h]),if_pos ho];rfl
theorem k8i{c:UInt8}{r:List UInt8}(i:Nat)(h:spB c=false)(ho:q5b (c::r)=false):lx (c::r) i=([],some i):=by
 rw[lx,if_neg (by simp[h]),if_neg (by simp[ho])]
theorem k0e{p:UInt8->Bool}{x:UInt8}(h:p x=false)(t:List UInt8):∀r:List UInt8,(r++x::t).takeWhile p=r.takeWhile p
 | []=>by rw[List.nil_append,List.takeWhile_cons,if_neg (by simp[h])];rfl
 | a::r=>by
  rw[List.cons_append,List.takeWhile_cons,List.takeWhile_cons,k0e h t r]
theorem y7x(c:UInt8)(r t:List UInt8):q0r (c::r++10::t)=q0r (c::r)/\q5b (c::r++10::t)=q5b (c::r):=by
 have A:=k0e (p:=q2f) (x:=10) rfl t r;have B:=k0e (p:=q4f) (x:=10) rfl t r;have C:=k0e (p:=nlB) (x:=10) rfl t r;simp only[List.cons_append,q0r,q5b,A,B,C,and_self]
def q3u(w:List UInt8):Prop:=∃c r,w=c::r/\spB c=false/\q5b (c::r)=true/\q0r (c::r)=(c::r).length/\q1d (c::r)=c::r
theorem z4w{p:UInt8->Bool}:∀(r:List UInt8)(k:Nat),k<=(r.takeWhile p).length->(r.take k).takeWhile p=r.take k
 | _,0,_=>by simp
 | [],k+1,h=>by simp at h
 | a::r,k+1,h=>by
  rw[List.takeWhile_cons]at h;by_cases ha:p a=true
  ·rw[if_pos ha]at h;rw[List.take_succ_cons,List.takeWhile_cons,if_pos ha,z4w r k (by simp at h;omega)]
  ·rw[if_neg ha]at h;simp at h
theorem z5n{p:UInt8->Bool}(r:List UInt8):r.take (r.takeWhile p).length=r.takeWhile p:=by
 have:=z4w (p:=p) r (r.takeWhile p).length Zl
 induction r with
 | nil=>rfl
 | cons a r ih=>
  rw[List.takeWhile_cons]
  split
  ·rw[List.length_cons,List.take_succ_cons,ih (z4w r _ Zl)]
  ·rfl
theorem v1v{p:UInt8->Bool}{l:List UInt8}(h:l.all p=true)(k:Nat):(l.take k).all p=true:=by
 rw[List.all_eq_true]at h⊢;exact fun x hx=>h x (List.mem_of_mem_take hx)
theorem g1e{p:UInt8->Bool}{l:List UInt8}(h:∀x,p x=true->x≠32):q1d (l.takeWhile p)=l.takeWhile p:=by
 rcases List.eq_nil_or_concat (l.takeWhile p)with e|⟨v,c,e⟩
 ·rw[e];rfl
 ·rw[e,List.concat_eq_append];refine q1n v (h c ?_);have D:c∈l.takeWhile p:=by rw[e];simp
  have B:∀(l:List UInt8)x,x∈l.takeWhile p->p x=true:=by
   intro l
   induction l with
   | nil=>intro x A;cases A
   | cons a l ih=>
    intro x A;rw[List.takeWhile_cons]at A;by_cases C:p a=true
    ·rw[if_pos C]at A;rcases List.mem_cons.1 A with rfl|A
     ·exact C
     ·exact ih x A
    ·rw[if_neg C]at A;cases A
  exact B l c D
def q5g(b:UInt8):Bool:=decide (33<=b.toNat)&&decide (b.toNat<=126)
def okW(x:ByteArray):Bool:=decide (1<=x.size)&&decide (x.size<=20)&&x.data.toList.all q5g
def q0s(ws:List ByteArray):Int:=if 60<ws.length then 3 else if ws.all okW then 0 else 5
def q6b(ws:List ByteArray)(wd:Int):Int:=if q0s ws≠0 then q0s ws else if wd<1\/100<wd then 1 else 0
theorem q9g{ws:List ByteArray}(h:q0s ws=0):ws.length<=60/\∀x∈ws,okW x=true:=by
 unfold q0s at h
 split at h
 ·cases h
 ·split at h
  ·rename_i h1 h2;exact⟨by omega,fun x hx=>List.all_eq_true.1 h2 x hx⟩
  ·cases h
theorem v4w{x:ByteArray}(h:okW x=true):1<=x.size/\x.size<=20:=by
 simp only[okW,Bool.and_eq_true,decide_eq_true_eq]at h;exact h.1
def Few(ws:List ByteArray):Prop:=ws.length<=60/\∀x∈ws,x.size<=20
theorem v7o{ws:List ByteArray}(h:q0s ws=0):Few ws:=⟨(q9g h).1,fun x hx=>(v4w ((q9g h).2 x hx)).2⟩
theorem Few.take{ws:List ByteArray}(h:Few ws)(k:Nat):Few (ws.take k):=⟨by have:=h.1;simp;omega,fun x hx=>h.2 x (List.mem_of_mem_take hx)⟩
theorem Few.drop{ws:List ByteArray}(h:Few ws)(k:Nat):Few (ws.drop k):=⟨by have:=h.1;simp;omega,fun x hx=>h.2 x (List.mem_of_mem_drop hx)⟩
theorem j0k{ws:List ByteArray}{wd:Int}(h:q6b ws wd=0):q0s ws=0/\∃n:Nat,wd=n/\1<=n/\n<=100:=by
 unfold q6b at h
 split at h
 ·rename_i h1;exact absurd h h1
 ·rename_i h1
  split at h
  ·cases h
  ·refine⟨by omega,wd.toNat,by omega,by omega,by omega⟩
def tot:List ByteArray->Nat
 | []=>0
 | x::r=>x.size+tot r
theorem y4a(a b:List ByteArray):tot (a++b)=tot a+tot b:=by
 induction a with
 | nil=>simp[tot]
 | cons x r ih=>simp only[List.cons_append,tot,ih];omega
theorem v6g{ws:List ByteArray}{i:Nat}(h:i<ws.length):tot (ws.take (i+1))=tot (ws.take i)+ws[i].size:=by
 rw[List.take_succ_eq_append_getElem h,y4a];simp[tot]
theorem y8a{ws:List ByteArray}(h:∀x∈ws,x.size<=20):tot ws<=20*ws.length:=by
 induction ws with
 | nil=>simp[tot]
 | cons x r ih=>
  have A:=h x (by simp);have B:=ih fun y hy=>h y (by simp[hy])
  simp only[tot,List.length_cons];omega
theorem Few.tot{ws:List ByteArray}(h:Few ws):tot ws<=1200:=by
 have:=y8a h.2
 have:=h.1
 omega
def ln(ws:List ByteArray):Nat:=tot ws+(ws.length-1)
theorem Few.ln{ws:List ByteArray}(h:Few ws):ln ws<=1260:=by
 have:=h.tot
 have:=h.1
 simp only[Go.Proofs.YtfdppahhbpfnoaaGreatDoor.ln];omega
def jnL(ws:List ByteArray):List UInt8:=Lib.join (ws.map (·.data.toList)) [32]
def jnS(ws:List ByteArray):ByteArray:=⟨(jnL ws).toArray⟩
theorem v3z(ws:List ByteArray):Lib.lens (ws.map (·.data.toList))=tot ws:=by
 induction ws with
 | nil=>rfl
 | cons x r ih=>
  have e:Lib.lens ((x::r).map (·.data.toList))=x.data.toList.length+Lib.lens (r.map (·.data.toList)):=by simp[Lib.lens]
  rw[e,ih,tot,Lib.size_eq]
theorem k5s(ws:List ByteArray):(jnL ws).length=ln ws:=by
 cases ws with
 | nil=>rfl
 | cons x r=>
  have h:=Lib.join_length x.data.toList (r.map (·.data.toList)) [32];have A:=v3z (x::r);simp only[List.map_cons]at A;simp only[jnL,List.map_cons,h,A,ln,List.length_cons,List.length_nil,List.length_map];omega
theorem k8a(ws:List ByteArray):(jnS ws).size=ln ws:=by
 rw[<-k5s];simp[jnS,ByteArray.size]
def bd(n wd:Nat)(last:Bool):Nat:=if wd<n then 1000*(n-wd)else if last then 0 else(wd-n)*(wd-n)
theorem y4x{n wd:Nat}{last:Bool}(h1:n<=1260)(h2:wd<=100):bd n wd last<=1300000:=by
 unfold bd
 split
 ·omega
 ·split
  ·omega
  ·have:(wd-n)*(wd-n)<=100*100:=Nat.mul_le_mul (by omega) (by omega)
   omega
def z4h(g:Nat->Nat):Nat->Nat
 | 0=>0
 | n+1=>if n=0\/g (n+1)<=z4h g n then g (n+1)else z4h g n
def v1q(g:Nat->Nat):Nat->Nat
 | 0=>0
 | n+1=>if n=0\/g (n+1)<=z4h g n then n+1 else v1q g n
theorem z6m{g h:Nat->Nat}:∀n,(∀k,1<=k->k<=n->g k=h k)->z4h g n=z4h h n
 | 0,_=>rfl
 | n+1,e=>by
  have ih:=z6m n fun k h1 h2=>e k h1 (by omega)
  simp only[z4h,ih,e (n+1) (by omega) Zl]
theorem z9b(g:Nat->Nat):∀n k,1<=k->k<=n->z4h g n<=g k
 | 0,k,h1,h2=>by omega
 | n+1,k,h1,h2=>by
  simp only[z4h]
  split
  ·rename_i h;by_cases hk:k=n+1
   ·subst hk;exact Nat.le_refl _
   ·have:=z9b g n k h1 (by omega)
    rcases h with h|h<;>omega
  ·rename_i h;by_cases hk:k=n+1
   ·subst hk;omega
   ·exact z9b g n k h1 (by omega)
theorem k7b(g:Nat->Nat):∀n,1<=n->1<=v1q g n/\v1q g n<=n
 | 0,h=>by omega
 | n+1,h=>by
  simp only[v1q]
  split
  ·omega
  ·rename_i h1
   have:=k7b g n (by omega)
   omega
theorem k0q(g:Nat->Nat):∀n k,v1q g n<k->k<=n->1<=k->g k≠z4h g n
 | 0,k,h1,h2,h3=>by omega
 | n+1,k,h1,h2,h3=>by
  simp only[v1q]at h1;simp only[z4h]
  split at h1
  ·omega
  ·rename_i h;rw[if_neg h];by_cases hk:k=n+1
   ·subst hk;omega
   ·exact k0q g n k h1 (by omega) h3
def k9t(wd:Nat):List ByteArray->List Nat
 | []=>[0]
 | x::r=>z4h (fun k=>bd (ln ((x::r).take k)) wd (k==r.length+1)+(k9t wd r).getD (k-1) 0) (r.length+1)::k9t wd r
def best(wd:Nat)(ws:List ByteArray):Nat:=(k9t wd ws).getD 0 0
theorem z2s(wd:Nat):best wd []=0:=rfl
theorem z5r(wd:Nat):∀(ws:List ByteArray)(j:Nat),j<=ws.length->(k9t wd ws).getD j 0=best wd (ws.drop j)
 | _,0,_=>by simp[best]
 | [],j+1,h=>by simp at h
 | x::r,j+1,h=>by
  have:=z5r wd r j (by simp at h;omega)
  simpa[k9t]using this
def fOf(wd:Nat)(ws:List ByteArray)(k:Nat):Nat:=bd (ln (ws.take k)) wd (k==ws.length)+best wd (ws.drop k)
theorem k4f(wd:Nat){ws:List ByteArray}(h:ws≠[]):best wd ws=z4h (fOf wd ws) ws.length:=by
 cases ws with
 | nil=>exact absurd rfl h
 | cons x r=>
  simp only[best,k9t,List.getD_cons_zero,List.length_cons];refine z6m _ fun k h1 h2=>?_
  obtain⟨j,rfl⟩:∃j,k=j+1:=⟨k-1,by omega⟩;simp only[fOf,List.length_cons,List.drop_succ_cons,Nat.add_sub_cancel];rw[z5r wd r j (by omega)]
theorem y0d{wd:Nat}(hw:wd<=100):∀(n:Nat)(ws:List ByteArray),ws.length<=n->Few ws->best wd ws<=1300000
 | 0,ws,h,_=>by
  have:ws=[]:=List.eq_nil_of_length_eq_zero (by omega)
  subst this;simp[z2s]
 | n+1,ws,h,hf=>by
  by_cases h0:ws=[]
  ·subst h0;simp[z2s]
  ·have hp:0<ws.length:=List.length_pos_iff.2 h0;rw[k4f wd h0];refine Nat.le_trans (z9b _ _ ws.length hp Zl) ?_;simp only[fOf,List.drop_length,z2s]
   have:=y4x (last:=(ws.length==ws.length)) (hf.take ws.length).ln hw
   omega
theorem y5r{wd:Nat}(hw:wd<=100){ws:List ByteArray}(hf:Few ws)(k:Nat):fOf wd ws k<=2600000:=by
 have A:=y0d hw _ (ws.drop k) Zl (hf.drop k);have B:=y4x (last:=(k==ws.length)) (hf.take k).ln hw;simp only[fOf];omega
def agF(wd:Nat)(ws:List ByteArray):Nat:=v1q (fOf wd ws) ws.length
theorem q8u(wd:Nat){ws:List ByteArray}(h:ws≠[]):1<=agF wd ws/\agF wd ws<=ws.length:=k7b _ _ (List.length_pos_iff.2 h)
def z1f(wd:Nat)(ws:List ByteArray):List Nat:=
 if _h:ws=[]then []else agF wd ws::z1f wd (ws.drop (agF wd ws))
termination_by ws.length
decreasing_by
 have:=q8u wd _h
 simp only[List.length_drop];omega
theorem q6a(wd:Nat):z1f wd []=[]:=by rw[z1f];simp
theorem q5k(wd:Nat){ws:List ByteArray}(h:ws≠[]):z1f wd ws=agF wd ws::z1f wd (ws.drop (agF wd ws)):=by
 rw[z1f,dif_neg h]
def k2f:List ByteArray->List Nat->List ByteArray
 | _,[]=>[]
 | ws,k::ks=>jnS (ws.take k)::k2f (ws.drop k) ks
theorem k2g{x:UInt8}(h:q2f x=true):x≠32:=by
 rintro rfl;revert h;decide
theorem k1g{x:UInt8}(h:q4f x=true):x≠32:=by
 rintro rfl;revert h;decide
theorem k4s{x:UInt8}(h:q4f x=true):q2f x=false:=by
 simp only[q4f,q2f,Bool.and_eq_true,decide_eq_true_eq,Bool.and_eq_false_iff,decide_eq_false_iff_not]at h⊢;omega
theorem q8k{p:UInt8->Bool}(h:∀x,p x=true->x≠32)(c:UInt8)(hc:p c=true)(r:List UInt8):q1d (c::r.takeWhile p)=c::r.takeWhile p:=by
 have:=g1e (p:=p) (l:=c::r) h
 rw[List.takeWhile_cons,if_pos hc]at this;exact this
theorem v0l(p:UInt8->Bool)(r:List UInt8):(r.takeWhile p).takeWhile p=r.takeWhile p:=by
 have:=z4w (p:=p) r (r.takeWhile p).length Zl
 rw[z5n]at this;exact this
theorem j1q{c:UInt8}(h:spB c=false):c≠32:=by
 rintro rfl;revert h;decide
theorem v9k{c:UInt8}{r:List UInt8}(hs:spB c=false)(ho:q5b (c::r)=true):q3u (tkW (c::r)):=by
 cases A:q2f c with
 | true=>
  have e:tkW (c::r)=c::r.takeWhile q2f:=by
   simp only[tkW,q0r,A,if_true,List.take_succ_cons,z5n];exact q8k (fun _=>k2g) c A r
  refine⟨c,r.takeWhile q2f,e,hs,?_,?_,q8k (fun _=>k2g) c A r⟩
  ·simp only[q5b,A,if_true,v0l]at ho⊢;exact ho
  ·simp only[q0r,A,if_true,v0l,List.length_cons]
 | false=>
  cases B:q4f c with
  | true=>
   have e:tkW (c::r)=c::r.takeWhile q4f:=by
    simp only[tkW,q0r,A,B,if_true,Bool.false_eq_true,if_false,List.take_succ_cons,z5n];exact q8k (fun _=>k1g) c B r
   refine⟨c,r.takeWhile q4f,e,hs,?_,?_,q8k (fun _=>k1g) c B r⟩
   ·simp only[q5b,A,B,if_true,Bool.false_eq_true,if_false,v0l]at ho⊢;exact ho
   ·simp only[q0r,A,B,if_true,Bool.false_eq_true,if_false,v0l,List.length_cons]
  | false=>
   cases C:(c==35)with
   | true=>
    have e:tkW (c::r)=q1d (c::r.takeWhile nlB):=by
     simp only[tkW,q0r,A,B,C,if_true,Bool.false_eq_true,if_false,List.take_succ_cons,z5n]
    obtain⟨z,H⟩:=z1y (j1q hs) (r.takeWhile nlB)
    have E:z=(r.takeWhile nlB).take z.length:=by
     have:=z7b (c::r.takeWhile nlB)
     rw[H,List.length_cons,List.take_succ_cons,List.cons.injEq]at this;exact this.2.symm
    have D:z.length<=(r.takeWhile nlB).length:=by
     have:=z0r (c::r.takeWhile nlB)
     rw[H,List.length_cons,List.length_cons]at this;omega
    have G:z.takeWhile nlB=z:=by
     have:=z4w (p:=nlB) (r.takeWhile nlB) z.length (by rw[v0l];exact D)
     rw[<-E]at this;exact this
    refine⟨c,z,by rw[e,H],hs,?_,?_,by rw[<-H];exact j1x _⟩
    ·simp only[q5b,A,B,C,if_true,Bool.false_eq_true,if_false,G]at ho⊢;rw[E];exact v1v ho _
    ·simp only[q0r,A,B,C,if_true,Bool.false_eq_true,if_false,G,List.length_cons]
   | false=>
    have e:tkW (c::r)=[c]:=by
     simp only[tkW,q0r,A,B,C,Bool.false_eq_true,if_false,List.take_succ_cons,List.take_zero];exact q1n [] (j1q hs)
    refine⟨c,[],e,hs,?_,?_,q1n [] (j1q hs)⟩
    ·simp only[q5b,A,B,C,Bool.false_eq_true,if_false]at ho⊢;exact ho
    ·simp only[q0r,A,B,C,Bool.false_eq_true,if_false,List.length_cons,List.length_nil]
theorem v0d{w:List UInt8}(h:q3u w):1<=w.length:=by
 obtain⟨c,r,rfl,_⟩:=h;simp
theorem v8f{w:List UInt8}(h:q3u w)(t:List UInt8)(i:Nat):lx (w++10::t) i=((i,w)::lxW t (i+w.length+1),lxF t (i+w.length+1)):=by
 obtain⟨c,r,rfl,I,H,B,J⟩:=h;obtain⟨A,D⟩:=y7x c r t;rw[List.cons_append]at A D;have C:q5b (c::(r++10::t))=true:=by rw[D];exact H
 have E:(c::(r++10::t)).drop (q0r (c::(r++10::t)))=10::t:=by
  rw[A,B,<-List.cons_append,List.drop_left]
 have G:tkW (c::(r++10::t))=c::r:=by
  rw[tkW,A,B,<-List.cons_append,List.take_left,J]
 rw[List.cons_append,z6l i I C,E,G,A,B,lxW,lxF,k5w t _ rfl];rfl
def spc:List (List UInt8)->List UInt8
 | []=>[]
 | w::r=>w++10::spc r
def q9j(s:List UInt8)(i:Nat)(x:Nat × List UInt8):Prop:=i<=x.1/\x.1+x.2.length<=i+s.length/\(s.drop (x.1-i)).take x.2.length=x.2/\q3u x.2
theorem q9j.later{s:List UInt8}{i k:Nat}{x:Nat × List UInt8}(h:q9j (s.drop k) (i+k) x)(hk:k<=s.length):q9j s i x:=by
 obtain⟨D,B,A,C⟩:=h;rw[List.length_drop]at B;refine⟨by omega,by omega,?_,C⟩;rw[List.drop_drop]at A;have e:x.1-i=k+(x.1-(i+k)):=by omega
 rw[e];exact A
theorem y2y:∀(n:Nat)(s:List UInt8)(i:Nat),s.length<=n->(∀x∈lxW s i,q9j s i x)/\(lxW s i).Pairwise (fun a b=>a.1+a.2.length<=b.1)
 | 0,s,i,h=>by
  have:s=[]:=List.eq_nil_of_length_eq_zero (by omega)
  subst this;rw[lxW,z2c];exact⟨fun x hx=>absurd hx List.not_mem_nil,List.Pairwise.nil⟩
 | n+1,s,i,h=>by
  cases s with
  | nil=>
   rw[lxW,z2c];exact⟨fun x hx=>absurd hx List.not_mem_nil,List.Pairwise.nil⟩
  | cons c r=>
   cases hs:spB c with
   | true=>
    obtain⟨h1,h2⟩:=y2y n r (i+1) (by simp at h;omega);rw[lxW,k5w r i hs];exact⟨fun x hx=>q9j.later (s:=c::r) (k:=1) (h1 x hx) (by simp),h2⟩
   | false=>
    cases ho:q5b (c::r)with
    | false=>
     rw[lxW,k8i i hs ho];exact⟨fun x hx=>absurd hx List.not_mem_nil,List.Pairwise.nil⟩
    | true=>
     have hp:=q4p c r;have hle:=z0o (c::r)
     have hw:(tkW (c::r)).length<=q0r (c::r):=by
      have:=z0r ((c::r).take (q0r (c::r)))
      rw[List.length_take]at this;rw[tkW];omega
     obtain⟨h1,h2⟩:=y2y n ((c::r).drop (q0r (c::r))) (i+q0r (c::r)) (by simp only[List.length_drop,List.length_cons]at h⊢;omega);rw[lxW,z6l i hs ho];refine⟨fun x hx=>?_,List.pairwise_cons.2 ⟨fun x hx=>?_,h2⟩⟩
     ·rcases List.mem_cons.1 hx with rfl|hx
      ·refine⟨Nat.le_refl _,by simp only;omega,?_,v9k hs ho⟩;simp only[Nat.sub_self,List.drop_zero];have A:=z7b ((c::r).take (q0r (c::r)));rw[List.take_take,Nat.min_eq_left (by rw[tkW]at hw;exact hw)]at A;exact A
      ·exact(h1 x hx).later hle
     ·have:=(h1 x hx).1
      simp only;omega
def q2p(s:List UInt8):List (List UInt8):=(lxW s 0).map (·.2)
def z9u(s:List UInt8):List Nat:=(lxW s 0).map (·.1)
theorem v1c(s:List UInt8):(q2p s).length=(z9u s).length:=by simp[q2p,z9u]
theorem g1i(s:List UInt8)(j:Nat)(h:j<(q2p s).length)(h2:j<(z9u s).length):
  (z9u s)[j]+(q2p s)[j].length<=s.length/\(s.drop (z9u s)[j]).take (q2p s)[j].length=(q2p s)[j]/\q3u (q2p s)[j]/\∀k(hk:k<(q2p s).length)(hk2:k<(z9u s).length),k<j->(z9u s)[k]+(q2p s)[k].length<=(z9u s)[j]:=by
 obtain⟨B,C⟩:=y2y s.length s 0 Zl;have A:j<(lxW s 0).length:=by simpa[q2p]using h
 obtain⟨_,G,D,E⟩:=B (lxW s 0)[j] (List.getElem_mem A);simp only[q2p,z9u,List.getElem_map]at *;refine⟨by omega,by simpa using D,E,fun k hk hk2 hkj=>?_⟩;exact List.pairwise_iff_getElem.1 C k j (by simpa using hk2) A hkj
theorem y4j(s:List UInt8):∀w∈q2p s,q3u w:=by
 intro w B;obtain⟨j,A,rfl⟩:=List.getElem_of_mem B;exact(g1i s j A (by rw[<-v1c];exact A)).2.2.1
theorem z8y:∀(n:Nat)(s:List UInt8)(i:Nat),s.length<=n->(lxW s i).length<=s.length
 | 0,s,i,h=>by
  have:s=[]:=List.eq_nil_of_length_eq_zero (by omega)
  subst this;rw[lxW,z2c];simp
 | n+1,s,i,h=>by
  cases s with
  | nil=>rw[lxW,z2c];simp
  | cons c r=>
   cases hs:spB c with
   | true=>
    have:=z8y n r (i+1) (by simp at h;omega)
    rw[lxW,k5w r i hs];simp only[List.length_cons];rw[lxW]at this;omega
   | false=>
    cases ho:q5b (c::r)with
    | false=>rw[lxW,k8i i hs ho];simp
    | true=>
     have hp:=q4p c r;have hle:=z0o (c::r)
     have:=z8y n ((c::r).drop (q0r (c::r))) (i+q0r (c::r)) (by simp only[List.length_drop,List.length_cons]at h⊢;omega)
     rw[lxW,z6l i hs ho];simp only[List.length_cons,List.length_drop]at this hle⊢;omega
theorem v0r(s:List UInt8):(q2p s).length<=s.length:=by
 have:=z8y s.length s 0 Zl
 simpa[q2p]using this
def z2p(w:List UInt8):Bool:=w.headD 0 != 35
def many(ws:List (List UInt8)):Nat:=(ws.filter z2p).length
theorem z0a(a b:List (List UInt8)):many (a++b)=many a+many b:=by simp[many]
def q7a(s:List UInt8):Int:=if 60000<s.length then 3 else if(lxF s 0).isSome then 5 else if 300<many (q2p s)then 3 else 0
def k2a(s:List UInt8):Nat:=if q7a s=5 then(lxF s 0).getD 0 else 0
theorem z4e{s:List UInt8}(h:q7a s=0):s.length<=60000/\lxF s 0=none/\many (q2p s)<=300:=by
 unfold q7a at h
 split at h
 ·cases h
 ·split at h
  ·cases h
  ·split at h
   ·cases h
   ·rename_i h1 h2 h3;exact⟨by omega,by simpa using h2,by omega⟩
abbrev btL(s:ByteArray):List UInt8:=s.data.toList
theorem q0c(s:ByteArray):(btL s).length=s.size:=(Lib.size_eq s).symm
theorem q1j{s:ByteArray}{k:Nat}(h:k<s.size):(btL s).drop k=s[k]::(btL s).drop (k+1):=by
 have A:k<(btL s).length:=by rw[q0c];exact h
 rw[List.drop_eq_getElem_cons A];rfl
def twN(p:UInt8->Bool)(s:ByteArray)(k:Nat):Nat:=(((btL s).drop k).takeWhile p).length
theorem y4c{p:UInt8->Bool}{s:ByteArray}{k:Nat}(h:k<s.size)(hp:p s[k]=true):twN p s k=twN p s (k+1)+1:=by
 rw[twN,q1j h,List.takeWhile_cons,if_pos hp];rfl
theorem y8c{p:UInt8->Bool}{s:ByteArray}{k:Nat}(h:k<s.size)(hp:p s[k]=false):twN p s k=0:=by
 rw[twN,q1j h,List.takeWhile_cons,if_neg (by simp[hp])];rfl
theorem y4b{p:UInt8->Bool}{s:ByteArray}{k:Nat}(h:¬k<s.size):twN p s k=0:=by
 rw[twN,List.drop_eq_nil_of_le (by rw[q0c];omega)];rfl
def j9v(s:ByteArray)(i:Nat):Nat:=q0r ((btL s).drop i)
def tOk(s:ByteArray)(i:Nat):Bool:=q5b ((btL s).drop i)
theorem g2c{s:ByteArray}{i:Nat}(h:i<s.size):1<=j9v s i/\i+j9v s i<=s.size:=by
 have A:=z0o ((btL s).drop i);rw[List.length_drop,q0c]at A;rw[j9v];refine⟨?_,by omega⟩;rw[q1j h];exact q4p _ _
theorem k3l(c:UInt8)(n:Nat)(hn:n<256):((c.toNat:Int)==(n:Int))=(c==UInt8.ofNat n):=by
 by_cases h:c=UInt8.ofNat n
 ·subst h;rw[beq_iff_eq.2 (show((UInt8.ofNat n).toNat:Int)=(n:Int) by simp[Nat.mod_eq_of_lt hn])];simp
 ·rw[beq_false_of_ne h,beq_false_of_ne];intro e;apply h
  have:c.toNat=n:=by omega
  rw[<-this];simp
def wbS(w:List UInt8):ByteArray:=⟨w.toArray⟩
theorem z5a(s:ByteArray)(i e:Nat):s.extract i e=wbS (((btL s).drop i).take (e-i)):=by
 apply ByteArray.ext;rw[ByteArray.data_extract];apply Array.ext';simp only[wbS,Array.toList_extract,List.extract]
structure Td where
 op:Int
 tx:ByteArray
 n:Int
def kdT(x:Td):Nat:=if x.op=3\/x.op=4 then x.n.toNat else if x.op=5\/x.op=6 then 2 else if x.op=7\/x.op=8 then 1 else 0
def z5s:List Td->Nat->Option Nat
 | _,0=>some 0
 | [],_+1=>none
 | x::r,m+1=>(z5s r (kdT x+m)).map (· + 1)
theorem q7g(ds:List Td):z5s ds 0=some 0:=by cases ds<;>rfl
theorem q7y(m:Nat):z5s [] (m+1)=none:=rfl
theorem q4k(x:Td)(r:List Td)(m:Nat):z5s (x::r) (m+1)=(z5s r (kdT x+m)).map (· + 1):=rfl
theorem k4k:∀(ds:List Td)(m k:Nat),z5s ds m=some k->m<=k/\k<=ds.length
 | ds,0,k,h=>by rw[q7g]at h;cases h;simp
 | [],m+1,k,h=>by rw[q7y]at h;cases h
 | x::r,m+1,k,h=>by
  rw[q4k,Option.map_eq_some_iff]at h;obtain⟨j,h1,rfl⟩:=h
  have:=k4k r _ j h1
  simp;omega
theorem z7v:∀(ds:List Td)(a b:Nat),z5s ds (a+b)=(z5s ds a).bind fun k=>(z5s (ds.drop k) b).map (k+·)
 | ds,0,b=>by
  rw[q7g];simp
 | [],a+1,b=>by rw[show a+1+b=(a+b)+1 by omega,q7y,q7y];rfl
 | x::r,a+1,b=>by
  rw[show a+1+b=(a+b)+1 by omega,q4k,q4k,show kdT x+(a+b)=(kdT x+a)+b by omega,z7v r _ b];cases z5s r (kdT x+a)with
  | none=>rfl
  | some k=>
   simp only[Option.bind_some,Option.map_some,List.drop_succ_cons];cases z5s (r.drop k) b with
   | none=>rfl
   | some j=>simp;omega
def q3d(ds:List Td)(i m:Nat):Option Nat:=(z5s (ds.drop i) m).map (i+·)
theorem k1d(ds:List Td)(i:Nat):q3d ds i 0=some i:=by simp[q3d,q7g]
theorem q8c(ds:List Td)(i m:Nat)(h:ds.length<=i):q3d ds i (m+1)=none:=by
 rw[q3d,List.drop_eq_nil_of_le h,q7y];rfl
theorem z3p(ds:List Td)(i m:Nat)(h:i<ds.length):q3d ds i (m+1)=q3d ds (i+1) (kdT ds[i]+m):=by
 rw[q3d,List.drop_eq_getElem_cons h,q4k,q3d];cases z5s (ds.drop (i+1)) (kdT ds[i]+m)with
 | none=>rfl
 | some k=>simp;omega
theorem v3a(ds:List Td)(i a b:Nat):q3d ds i (a+b)=(q3d ds i a).bind fun j=>q3d ds j b:=by
 rw[q3d,z7v,q3d];cases z5s (ds.drop i) a with
 | none=>rfl
 | some k=>
  simp only[Option.bind_some,Option.map_some,q3d,List.drop_drop];cases z5s (ds.drop (i+k)) b with
  | none=>rfl
  | some j=>simp;omega
theorem y1i{ds:List Td}{i m j:Nat}(h:q3d ds i m=some j):i+m<=j/\(m=0\/j<=ds.length):=by
 rw[q3d,Option.map_eq_some_iff]at h;obtain⟨k,A,rfl⟩:=h;have B:=k4k _ _ _ A;rw[List.length_drop]at B;omega
def q0o(s:ByteArray):Bool:=decide (1<=s.size)&&decide (s.size<=8)&&decide (btL s≠[108,101,116])&&(btL s).all q2f
def q4h:List UInt8->List (List UInt8)
 | []=>[[]]
 | c::r=>if c=32 then []::q4h r else match q4h r with
  | []=>[[c]]
  | w::ws=>(c::w)::ws
theorem q6o(s:List UInt8):q4h s≠[]:=by
 cases s with
 | nil=>simp[q4h]
 | cons c r=>
  simp only[q4h]
  split
  ·simp
  ·split<;>simp
theorem q5t(r:List UInt8):q4h (32::r)=[]::q4h r:=by simp[q4h]
theorem q5u{c:UInt8}(h:c≠32){r w:List UInt8}{ws:List (List UInt8)}(hr:q4h r=w::ws):q4h (c::r)=(c::w)::ws:=by
 simp only[q4h,if_neg h,hr]
theorem z9x(u r:List UInt8)(h:∀b∈u,b≠32):q4h (u++32::r)=u::q4h r:=by
 induction u with
 | nil=>exact q5t r
 | cons c u ih=>
  have A:=ih fun b hb=>h b (by simp[hb])
  rw[List.cons_append,q5u (h c (by simp)) A]
theorem z9y(u:List UInt8)(h:∀b∈u,b≠32):q4h u=[u]:=by
 induction u with
 | nil=>rfl
 | cons c u ih=>rw[q5u (h c (by simp)) (ih fun b hb=>h b (by simp[hb]))]
def q0e(s:List UInt8):List (List UInt8):=if s=[]then []else q4h s
def q1x(s:ByteArray):Int:=q0s ((q0e (btL s)).map wbS)
def q2k(op:Int):Bool:=decide (op=2)||decide (op=3)||decide (op=7)||decide (op=9)
def q0m(x:Td):Int:=
 if x.op<1\/9<x.op then 1
 else if(x.op=1/\(x.n<0\/999999<x.n))\/((x.op=3\/x.op=4)/\(x.n<0\/6<x.n))then 1
 else if(x.op≠1/\x.op≠3/\x.op≠4/\x.n≠0)\/(q2k x.op=false/\0<x.tx.size)then 2
 else if x.op=9 then q1x x.tx
 else if q2k x.op=true/\q0o x.tx=false then 5 else 0
def v1r:List Td->Int
 | []=>0
 | x::r=>if q0m x=0 then v1r r else q0m x
theorem k7x:∀(ds:List Td),(∀x∈ds,q0m x=0)->v1r ds=0
 | [],_=>rfl
 | x::r,h=>by rw[v1r,if_pos (h x (by simp)),k7x r fun y hy=>h y (by simp[hy])]
theorem k1o:∀(ds:List Td),v1r ds=0->∀x∈ds,q0m x=0
 | [],_=>by simp
 | x::r,h=>by
  rw[v1r]at h
  split at h
  ·rename_i h0;intro y hy;rcases List.mem_cons.1 hy with rfl|hy
   ·exact h0
   ·exact k1o r h y hy
  ·rename_i h0;exact absurd h h0
theorem j5g:∀(ds:List Td)(k:Nat)(h:k<ds.length),(∀x∈ds.take k,q0m x=0)->q0m ds[k]≠0->v1r ds=q0m ds[k]
 | x::r,0,_,_,h=>by
  have h':q0m x≠0:=h;rw[v1r,if_neg h'];rfl
 | x::r,k+1,hk,ha,h=>by
  rw[v1r,if_pos (ha x (by simp)),j5g r k (by simpa using hk) (fun y hy=>ha y (by simp[hy])) h];rfl
def k6q(ds:List Td):Bool:=match ds with
 | []=>true
 | x::r=>decide (7<=x.op)&&r.all fun y=>decide (y.op<7)
def q0b(ds:List Td):Int:=
 if 40<ds.length then 3 else if v1r ds≠0 then v1r ds else if q3d ds 0 1=some ds.length/\k6q ds=true then 0 else 2
theorem q2j{ds:List Td}(h:q0b ds=0):ds.length<=40/\(∀x∈ds,q0m x=0)/\q3d ds 0 1=some ds.length/\k6q ds=true:=by
 unfold q0b at h
 split at h
 ·cases h
 ·split at h
  ·rename_i h1;exact absurd h h1
  ·rename_i h0 h1
   split at h
   ·rename_i h2;exact⟨by omega,k1o ds (by omega),h2.1,h2.2⟩
   ·cases h
theorem v7y{x:Td}(h:q0m x=0):kdT x<=6:=by
 unfold q0m at h
 split at h
 ·cases h
 ·split at h
  ·cases h
  ·rename_i h1 h2;unfold kdT
   split
   ·omega
   ·split
    ·omega
    ·split<;>omega
inductive Fo where
 | nil:Fo
 | cons (x:Td) (k n:Fo):Fo
def Fo.len:Fo->Nat
 | .nil=>0
 | .cons _ _ n=>n.len+1
def Fo.N:Fo->List Td
 | .nil=>[]
 | .cons x k n=>x::(k.N++n.N)
def Fo.ok:Fo->Prop
 | .nil=>True
 | .cons x k n=>k.len=kdT x/\k.ok/\n.ok
def Fo.app:Fo->Fo->Fo
 | .nil,g=>g
 | .cons x k n,g=>.cons x k (n.app g)
theorem j2o:∀(f g:Fo),(f.app g).len=f.len+g.len
 | .nil,g=>by simp[Fo.app,Fo.len]
 | .cons x k n,g=>by simp only[Fo.app,Fo.len,j2o n g];omega
theorem q9k:∀(f g:Fo),(f.app g).N=f.N++g.N
 | .nil,g=>rfl
 | .cons x k n,g=>by simp[Fo.app,Fo.N,q9k n g]
theorem j2p:∀{f g:Fo},f.ok->g.ok->(f.app g).ok
 | .nil,_,_,h=>h
 | .cons _ _ _,_,h,h2=>⟨h.1,h.2.1,j2p h.2.2 h2⟩
theorem y1n:∀(l:Nat)(ds:List Td)(m k:Nat),ds.length<=l->z5s ds m=some k->∃F:Fo,F.ok/\F.len=m/\F.N=ds.take k
 | l,ds,0,k,_,h=>by
  rw[q7g]at h;cases h;exact⟨.nil,trivial,rfl,by simp[Fo.N]⟩
 | 0,ds,m+1,k,hl,h=>by
  have:ds=[]:=List.eq_nil_of_length_eq_zero (by omega)
  subst this;rw[q7y]at h;cases h
 | l+1,[],m+1,k,hl,h=>by rw[q7y]at h;cases h
 | l+1,x::r,m+1,k,hl,h=>by
  rw[q4k,Option.map_eq_some_iff]at h;obtain⟨j,h1,rfl⟩:=h;rw[z7v]at h1;cases h2:z5s r (kdT x)with
  | none=>rw[h2]at h1;cases h1
  | some a=>
   rw[h2,Option.bind_some,Option.map_eq_some_iff]at h1;obtain⟨b,h3,rfl⟩:=h1;obtain⟨K,k1,k2,k3⟩:=y1n l r (kdT x) a (by simp at hl;omega) h2;obtain⟨N,n1,n2,n3⟩:=y1n l (r.drop a) m b (by simp at hl⊢;omega) h3;refine⟨.cons x K N,⟨k2,k1,n1⟩,by simp[Fo.len,n2],?_⟩;have ha:=(k4k _ _ _ h2).2;rw[Fo.N,k3,n3,List.take_succ_cons,List.cons.injEq];refine⟨rfl,?_⟩;rw[List.take_add]
theorem j5d:∀(F:Fo),F.ok->∀(r:List Td)(m:Nat),z5s (F.N++r) (F.len+m)=(z5s r m).map (F.N.length+·)
 | .nil,_,r,m=>by simp[Fo.N,Fo.len]
 | .cons x k n,h,r,m=>by
  have e1:=j5d n h.2.2 r m;have e2:=j5d k h.2.1 (n.N++r) (n.len+m);rw[e1,h.1]at e2;have e3:(Fo.cons x k n).len+m=(n.len+m)+1:=by simp only[Fo.len];omega
  rw[e3,Fo.N,List.cons_append,q4k,List.append_assoc,e2];cases z5s r m with
  | none=>rfl
  | some j=>simp;omega
abbrev Wd:=List UInt8
def q2n(n:Nat):Wd:=if h:n<=9 then [UInt8.ofNat (48+n)]else q2n (n / 10)++[UInt8.ofNat (48+n % 10)]
termination_by n
decreasing_by omega
def j8b(w:Wd):Nat:=w.foldl (fun a c=>a*10+(c.toNat-48)) 0
theorem z7x{n:Nat}(h:n<=9):(UInt8.ofNat (48+n)).toNat=48+n:=by
 rw[UInt8.toNat_ofNat'];omega
theorem v4t(n:Nat):j8b (q2n n)=n:=by
 induction n using Nat.strongRecOn with
 | ind n ih=>
  rw[q2n]
  split
  ·rename_i h;simp only[j8b,List.foldl_cons,List.foldl_nil,z7x h];omega
  ·rename_i h;have A:=ih (n / 10) (by omega);unfold j8b at A⊢;rw[List.foldl_append,A];simp only[List.foldl_cons,List.foldl_nil,z7x (show n % 10<=9 by omega)];omega
theorem q9r(n:Nat):∀c∈q2n n,q4f c=true:=by
 induction n using Nat.strongRecOn with
 | ind n ih=>
  have B:∀k,k<=9->q4f (UInt8.ofNat (48+k))=true:=fun k hk=>by
   simp only[q4f,z7x hk];simp;omega
  rw[q2n]
  split
  ·rename_i h;intro c A;rw[List.mem_singleton]at A;rw[A];exact B n h
  ·rename_i h;intro c A;rcases List.mem_append.1 A with A|A
   ·exact ih (n / 10) (by omega) c A
   ·rw[List.mem_singleton]at A;rw[A];exact B _ (by omega)
theorem z7w(n:Nat):q2n n≠[]:=by
 rw[q2n]
 split<;>simp
theorem q8a:∀(k n:Nat),n<10 ^ (k+1)->(q2n n).length<=k+1
 | k,n,h=>by
  rw[q2n]
  split
  ·simp
  ·rename_i h9;cases k with
   | zero=>simp at h;omega
   | succ k=>
    have:=q8a k (n / 10) (by rw[Nat.pow_succ]at h;omega)
    simp only[List.length_append,List.length_cons,List.length_nil];omega
theorem k1c(n:Nat)(h:0<n):∃c z,q2n n=c::z/\c≠48:=by
 induction n using Nat.strongRecOn with
 | ind n ih=>
  rw[q2n]
  split
  ·rename_i h9;refine⟨_,[],rfl,fun e=>?_⟩
   have:=congrArg UInt8.toNat e
   rw[z7x h9]at this;simp at this;omega
  ·obtain⟨c,z,e,A⟩:=ih (n / 10) (by omega) (by omega);exact⟨c,z++[UInt8.ofNat (48+n % 10)],by rw[e];rfl,A⟩
structure Tn where
 x:Td
 ns:List Td
 tk:List Wd
 tx:List UInt8
def prc(x:Td):Nat:=if x.op=5 then 0 else if x.op=6 then 1 else 2
def brk(l:Nat)(t:Tn):List Wd:=if prc t.x<l then [40]::(t.tk++[[41]])else t.tk
def brx(l:Nat)(t:Tn):List UInt8:=if prc t.x<l then 40::(t.tx++[41])else t.tx
def cmk:List Tn->List Wd
 | []=>[]
 | t::r=>t.tk++match r with
  | []=>[]
  | _::_=>[44]::cmk r
def cmx:List Tn->List UInt8
 | []=>[]
 | t::r=>t.tx++match r with
  | []=>[]
  | _::_=>44::32::cmx r
def two2{α:Type}(f:Tn->Tn->List α):List Tn->List α
 | [a,b]=>f a b
 | _=>[]
def q3t(x:Td)(ks:List Tn):List Wd:=
 if x.op=1 then [q2n x.n.toNat]
 else if x.op=2 then [btL x.tx]
 else if x.op=3 then btL x.tx::[40]::(cmk ks++[[41]])
 else if x.op=4 then [91]::(cmk ks++[[93]])
 else if x.op=5 then two2 (fun a b=>brk 0 a++[43]::brk 1 b) ks
 else two2 (fun a b=>brk 1 a++[42]::brk 2 b) ks
def q3r(x:Td)(ks:List Tn):List UInt8:=
 if x.op=1 then q2n x.n.toNat
 else if x.op=2 then btL x.tx
 else if x.op=3 then btL x.tx++40::(cmx ks++[41])
 else if x.op=4 then 91::(cmx ks++[93])
 else if x.op=5 then two2 (fun a b=>brx 0 a++32::43::32::brx 1 b) ks
 else two2 (fun a b=>brx 1 a++32::42::32::brx 2 b) ks
def q0x(x:Td)(ks:List Tn):Tn:=⟨x,x::ks.flatMap (·.ns),q3t x ks,q3r x ks⟩
def Fo.R:Fo->List Tn
 | .nil=>[]
 | .cons x k n=>q0x x k.R::n.R
theorem q4q:∀F:Fo,F.R.length=F.len
 | .nil=>rfl
 | .cons _ _ n=>by simp[Fo.R,Fo.len,q4q n]
theorem q7q:∀F:Fo,F.R.flatMap (·.ns)=F.N
 | .nil=>rfl
 | .cons x k n=>by
  rw[Fo.R,List.flatMap_cons,q7q n,q0x,q7q k];simp[Fo.N]
def exN(x:Td):Prop:=q0m x=0/\x.op<7
def Fo.exs(F:Fo):Prop:=∀x∈F.N,exN x
theorem q1l{x:Td}(h:exN x):(x.op=1/\x.tx=⟨#[]⟩/\0<=x.n/\x.n<=999999/\kdT x=0)\/(x.op=2/\q0o x.tx=true/\x.n=0/\kdT x=0)
  \/(x.op=3/\q0o x.tx=true/\0<=x.n/\x.n<=6/\kdT x=x.n.toNat)\/(x.op=4/\x.tx=⟨#[]⟩/\0<=x.n/\x.n<=6/\kdT x=x.n.toNat)
  \/(x.op=5/\x.tx=⟨#[]⟩/\x.n=0/\kdT x=2)\/(x.op=6/\x.tx=⟨#[]⟩/\x.n=0/\kdT x=2):=by
 obtain⟨A,G⟩:=h
 have B:∀s:ByteArray,¬0<s.size->s=⟨#[]⟩:=fun s hs=>by
  apply ByteArray.ext;apply Array.toList_inj.1;exact List.eq_nil_of_length_eq_zero (by have:=q0c s;simp only[btL]at this;omega)
 unfold q0m at A
 split at A
 ·cases A
 ·rename_i h1
  split at A
  ·cases A
  ·rename_i h2
   split at A
   ·cases A
   ·rename_i h3;have D:¬x.op=9:=by omega
    rw[if_neg D]at A
    split at A
    ·cases A
    ·rename_i h4;have E:x.op=1\/x.op=2\/x.op=3\/x.op=4\/x.op=5\/x.op=6:=by omega
     rcases E with e|e|e|e|e|e
     ·refine .inl ⟨e,B _ (fun hh=>h3 (.inr ⟨by rw[e];rfl,hh⟩)),by omega,by omega,by unfold kdT;rw[e];rfl⟩
     ·refine .inr (.inl ⟨e,?_,by omega,by unfold kdT;rw[e];rfl⟩);cases C:q0o x.tx with
      | true=>rfl
      | false=>exact absurd ⟨by rw[e];rfl,C⟩ h4
     ·refine .inr (.inr (.inl ⟨e,?_,by omega,by omega,by unfold kdT;rw[if_pos (.inl e)]⟩));cases C:q0o x.tx with
      | true=>rfl
      | false=>exact absurd ⟨by rw[e];rfl,C⟩ h4
     ·exact .inr (.inr (.inr (.inl ⟨e,B _ (fun hh=>h3 (.inr ⟨by rw[e];rfl,hh⟩)),by omega,by omega,by unfold kdT;rw[if_pos (.inr e)]⟩)))
     ·exact .inr (.inr (.inr (.inr (.inl ⟨e,B _ (fun hh=>h3 (.inr ⟨by rw[e];rfl,hh⟩)),by omega,by unfold kdT;rw[e];rfl⟩))))
     ·exact .inr (.inr (.inr (.inr (.inr ⟨e,B _ (fun hh=>h3 (.inr ⟨by rw[e];rfl,hh⟩)),by omega,by unfold kdT;rw[e];rfl⟩))))
inductive Tag (k:Nat):Type
 | mk
inductive Sel {α:Type} (k:Nat) (a b:α):Type
 | mk
def sel{α:Type}{k:Nat}(_:Tag k)(a b:α):Sel k a b:=.mk
def z2q{k:Nat}(_:Tag k)(a b:Nat):Sel k a b:=.mk
instance{α:Type}(a b:α)(s:Sel 0 a b):CoeDep (Sel 0 a b) s α:=⟨a⟩
instance{α:Type}(a b:α)(s:Sel 1 a b):CoeDep (Sel 1 a b) s α:=⟨b⟩
inductive y4v (o:Int):Type
 | mk
instance(o:Int)(t:y4v o):CoeDep (y4v o) t Int:=⟨o⟩
end Go.Proofs.YtfdppahhbpfnoaaGreatDoor
