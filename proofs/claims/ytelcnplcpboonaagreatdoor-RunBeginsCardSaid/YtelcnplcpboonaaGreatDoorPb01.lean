import Derived.Test.YtelcnplcpboonaaGreatDoorPb00
import Derived.Lib.Join
open Go.Proofs.Tryz
namespace Go.Proofs.YtelcnplcpboonaaGreatDoor
open Go
def spB(c:UInt8):Bool:=c==32||c==10
def q3g(c:UInt8):Bool:=decide (97<=c.toNat)&&decide (c.toNat<=122)
def q2s(c:UInt8):Bool:=decide (48<=c.toNat)&&decide (c.toNat<=57)
def nlB(c:UInt8):Bool:=c != 10
def prB(c:UInt8):Bool:=decide (32<=c.toNat)&&decide (c.toNat<=126)
def y5j:List UInt8:=[40,41,91,93,44,43,42,61,59]
def y7x(c:UInt8):Bool:=y5j.any (·==c)
def q0m:List UInt8->Nat
 | []=>0
 | c::r=>if q3g c then(r.takeWhile q3g).length+1 else if q2s c then(r.takeWhile q2s).length+1 else if c==35 then(r.takeWhile nlB).length+1 else 1
def q4o:List UInt8->Bool
 | []=>false
 | c::r=>if q3g c then decide ((r.takeWhile q3g).length+1<=8)else if q2s c then decide ((r.takeWhile q2s).length+1<=6)&&(c != 48||(r.takeWhile q2s).length==0)else if c==35 then(r.takeWhile nlB).all prB else y7x c
def q1d(w:List UInt8):List UInt8:=(w.reverse.dropWhile (·==32)).reverse
theorem z3v(w:List UInt8):q1d (w++[32])=q1d w:=by simp[q1d]
theorem q1k(w:List UInt8){c:UInt8}(h:c≠32):q1d (w++[c])=w++[c]:=by simp[q1d,h]
theorem j8l:q1d []=[]:=rfl
theorem z3w(w:List UInt8):∃z,w=q1d w++z:=by
 refine⟨(w.reverse.takeWhile (·==32)).reverse,?_⟩;rw[q1d,<-List.reverse_append,List.takeWhile_append_dropWhile,List.reverse_reverse]
theorem q9o(w:List UInt8):(q1d w).length<=w.length:=by
 obtain⟨z,A⟩:=z3w w
 have:=congrArg List.length A
 rw[List.length_append]at this;omega
theorem z6d(w:List UInt8):w.take (q1d w).length=q1d w:=by
 obtain⟨z,B⟩:=z3w w;have A:w.take (q1d w).length=(q1d w++z).take (q1d w).length:=congrArg (List.take _) B;rw[A,List.take_left]
theorem z3x:∀(n:Nat)(w:List UInt8),w.length<=n->q1d (q1d w)=q1d w
 | n,w,h=>by
  rcases List.eq_nil_or_concat w with rfl|⟨v,c,rfl⟩
  ·rfl
  ·rw[List.concat_eq_append]at h⊢;by_cases hc:c=32
   ·subst hc;rw[z3v]
    match n,h with
    | 0,h=>simp at h
    | n+1,h=>exact z3x n v (by simp at h;omega)
   ·rw[q1k v hc,q1k v hc]
theorem j0e(w:List UInt8):q1d (q1d w)=q1d w:=z3x _ w Zl
theorem z0x{c:UInt8}(h:c≠32)(r:List UInt8):∃z,q1d (c::r)=c::z:=by
 obtain⟨z,E⟩:=z3w (c::r);cases D:q1d (c::r)with
 | nil=>
  exfalso
  have G:∀(l:List UInt8),l.dropWhile (·==32)=[]->∀x∈l,x=32:=by
   intro l
   induction l with
   | nil=>intro _ x B;cases B
   | cons a l ih=>
    intro A x B;rw[List.dropWhile_cons]at A;by_cases C:(a==32)=true
    ·rw[if_pos C]at A;rcases List.mem_cons.1 B with rfl|B
     ·exact beq_iff_eq.1 C
     ·exact ih A x B
    ·rw[if_neg C]at A;cases A
  rw[q1d,List.reverse_eq_nil_iff]at D;exact h (G _ D c (by simp))
 | cons a b=>
  rw[D,List.cons_append,List.cons.injEq]at E;exact⟨b,by rw[E.1]⟩
def tkW(s:List UInt8):List UInt8:=q1d (s.take (q0m s))
theorem q3n(c:UInt8)(r:List UInt8):1<=q0m (c::r):=by
 simp only[q0m]
 split
 ·omega
 ·split
  ·omega
  ·split<;>omega
theorem k7f{α:Type}(p:α->Bool)(l:List α):(l.takeWhile p).length<=l.length:=by
 induction l with
 | nil=>simp
 | cons a l ih=>
  rw[List.takeWhile_cons]
  split
  ·simp;omega
  ·simp
theorem q7k(s:List UInt8):q0m s<=s.length:=by
 cases s with
 | nil=>simp[q0m]
 | cons c r=>
  have A:=k7f q3g r;have B:=k7f q2s r;have C:=k7f nlB r;simp only[q0m,List.length_cons]
  split
  ·omega
  ·split
   ·omega
   ·split<;>omega
def lx(s:List UInt8)(i:Nat):List (Nat × List UInt8) × Option Nat:=
 match s with
 | []=>([],none)
 | c::r=>
  if spB c then lx r (i+1)
  else if q4o (c::r)then((i,tkW (c::r))::(lx ((c::r).drop (q0m (c::r))) (i+q0m (c::r))).1,(lx ((c::r).drop (q0m (c::r))) (i+q0m (c::r))).2)
  else([],some i)
termination_by s.length
decreasing_by
 all_goals first
  | (have:=q3n c r;simp only[List.length_drop,List.length_cons];omega)
  | (simp only[List.length_cons];omega)
def lxW(s:List UInt8)(i:Nat):List (Nat × List UInt8):=(lx s i).1
def lxF(s:List UInt8)(i:Nat):Option Nat:=(lx s i).2
theorem q7q(i:Nat):lx [] i=([],none):=by rw[lx]
theorem z7h{c:UInt8}(r:List UInt8)(i:Nat)(h:spB c=true):lx (c::r) i=lx r (i+1):=by rw[lx,if_pos h]
theorem z3h{c:UInt8}{r:List UInt8}(i:Nat)(h:spB c=false)(ho:q4o (c::r)=true):
  lx (c::r) i=((i,tkW (c::r))::lxW ((c::r).drop (q0m (c::r))) (i+q0m (c::r)),lxF ((c::r).drop (q0m (c::r))) (i+q0m (c::r))):=by
 rw[lx,if_neg (by simp[h]),if_pos ho];rfl
theorem z9w{c:UInt8}{r:List UInt8}(i:Nat)(h:spB c=false)(ho:q4o (c::r)=false):lx (c::r) i=([],some i):=by
 rw[lx,if_neg (by simp[h]),if_neg (by simp[ho])]
theorem z8h{p:UInt8->Bool}{x:UInt8}(h:p x=false)(t:List UInt8):∀r:List UInt8,(r++x::t).takeWhile p=r.takeWhile p
 | []=>by rw[List.nil_append,List.takeWhile_cons,if_neg (by simp[h])];rfl
 | a::r=>by
  rw[List.cons_append,List.takeWhile_cons,List.takeWhile_cons,z8h h t r]
theorem y6r(c:UInt8)(r t:List UInt8):q0m (c::r++10::t)=q0m (c::r)/\q4o (c::r++10::t)=q4o (c::r):=by
 have A:=z8h (p:=q3g) (x:=10) rfl t r;have B:=z8h (p:=q2s) (x:=10) rfl t r;have C:=z8h (p:=nlB) (x:=10) rfl t r;simp only[List.cons_append,q0m,q4o,A,B,C,and_self]
def q3q(w:List UInt8):Prop:=∃c r,w=c::r/\spB c=false/\q4o (c::r)=true/\q0m (c::r)=(c::r).length/\q1d (c::r)=c::r
theorem z3y{p:UInt8->Bool}:∀(r:List UInt8)(k:Nat),k<=(r.takeWhile p).length->(r.take k).takeWhile p=r.take k
 | _,0,_=>by simp
 | [],k+1,h=>by simp at h
 | a::r,k+1,h=>by
  rw[List.takeWhile_cons]at h;by_cases ha:p a=true
  ·rw[if_pos ha]at h;rw[List.take_succ_cons,List.takeWhile_cons,if_pos ha,z3y r k (by simp at h;omega)]
  ·rw[if_neg ha]at h;simp at h
theorem z4u{p:UInt8->Bool}(r:List UInt8):r.take (r.takeWhile p).length=r.takeWhile p:=by
 have:=z3y (p:=p) r (r.takeWhile p).length Zl
 induction r with
 | nil=>rfl
 | cons a r ih=>
  rw[List.takeWhile_cons]
  split
  ·rw[List.length_cons,List.take_succ_cons,ih (z3y r _ Zl)]
  ·rfl
theorem v0g{p:UInt8->Bool}{l:List UInt8}(h:l.all p=true)(k:Nat):(l.take k).all p=true:=by
 rw[List.all_eq_true]at h⊢;exact fun x hx=>h x (List.mem_of_mem_take hx)
theorem y9l{p:UInt8->Bool}{l:List UInt8}(h:∀x,p x=true->x≠32):q1d (l.takeWhile p)=l.takeWhile p:=by
 rcases List.eq_nil_or_concat (l.takeWhile p)with e|⟨v,c,e⟩
 ·rw[e];rfl
 ·rw[e,List.concat_eq_append];refine q1k v (h c ?_);have D:c∈l.takeWhile p:=by rw[e];simp
  have B:∀(l:List UInt8)x,x∈l.takeWhile p->p x=true:=by
   intro l
   induction l with
   | nil=>intro x A;cases A
   | cons a l ih=>
    intro x A;rw[List.takeWhile_cons]at A;by_cases C:p a=true
    ·rw[if_pos C]at A;rcases List.mem_cons.1 A with rfl|A
     ·exact C
     ·exact ih x A
    ·rw[if_neg C]at A;cases A
  exact B l c D
def q9r(b:UInt8):Bool:=decide (33<=b.toNat)&&decide (b.toNat<=126)
def okW(x:ByteArray):Bool:=decide (1<=x.size)&&decide (x.size<=20)&&x.data.toList.all q9r
def q1h(ws:List ByteArray):Int:=if 60<ws.length then 3 else if ws.all okW then 0 else 5
def q5o(ws:List ByteArray)(wd:Int):Int:=if q1h ws≠0 then q1h ws else if wd<1\/100<wd then 1 else 0
theorem q8d{ws:List ByteArray}(h:q1h ws=0):ws.length<=60/\∀x∈ws,okW x=true:=by
 unfold q1h at h
 split at h
 ·cases h
 ·split at h
  ·rename_i h1 h2;exact⟨by omega,fun x hx=>List.all_eq_true.1 h2 x hx⟩
  ·cases h
theorem v3k{x:ByteArray}(h:okW x=true):1<=x.size/\x.size<=20:=by
 simp only[okW,Bool.and_eq_true,decide_eq_true_eq]at h;exact h.1
def Few(ws:List ByteArray):Prop:=ws.length<=60/\∀x∈ws,x.size<=20
theorem v6h{ws:List ByteArray}(h:q1h ws=0):Few ws:=⟨(q8d h).1,fun x hx=>(v3k ((q8d h).2 x hx)).2⟩
theorem Few.take{ws:List ByteArray}(h:Few ws)(k:Nat):Few (ws.take k):=⟨by have:=h.1;simp;omega,fun x hx=>h.2 x (List.mem_of_mem_take hx)⟩
theorem Few.drop{ws:List ByteArray}(h:Few ws)(k:Nat):Few (ws.drop k):=⟨by have:=h.1;simp;omega,fun x hx=>h.2 x (List.mem_of_mem_drop hx)⟩
theorem k8f{ws:List ByteArray}{wd:Int}(h:q5o ws wd=0):q1h ws=0/\∃n:Nat,wd=n/\1<=n/\n<=100:=by
 unfold q5o at h
 split at h
 ·rename_i h1;exact absurd h h1
 ·rename_i h1
  split at h
  ·cases h
  ·refine⟨by omega,wd.toNat,by omega,by omega,by omega⟩
def tot:List ByteArray->Nat
 | []=>0
 | x::r=>x.size+tot r
theorem y2w(a b:List ByteArray):tot (a++b)=tot a+tot b:=by
 induction a with
 | nil=>simp[tot]
 | cons x r ih=>simp only[List.cons_append,tot,ih];omega
theorem v5a{ws:List ByteArray}{i:Nat}(h:i<ws.length):tot (ws.take (i+1))=tot (ws.take i)+ws[i].size:=by
 rw[List.take_succ_eq_append_getElem h,y2w];simp[tot]
theorem y6u{ws:List ByteArray}(h:∀x∈ws,x.size<=20):tot ws<=20*ws.length:=by
 induction ws with
 | nil=>simp[tot]
 | cons x r ih=>
  have A:=h x (by simp);have B:=ih fun y hy=>h y (by simp[hy])
  simp only[tot,List.length_cons];omega
theorem Few.tot{ws:List ByteArray}(h:Few ws):tot ws<=1200:=by
 have:=y6u h.2
 have:=h.1
 omega
def ln(ws:List ByteArray):Nat:=tot ws+(ws.length-1)
theorem Few.ln{ws:List ByteArray}(h:Few ws):ln ws<=1260:=by
 have:=h.tot
 have:=h.1
 simp only[Go.Proofs.YtelcnplcpboonaaGreatDoor.ln];omega
def jnL(ws:List ByteArray):List UInt8:=Lib.join (ws.map (·.data.toList)) [32]
def jnS(ws:List ByteArray):ByteArray:=⟨(jnL ws).toArray⟩
theorem v2l(ws:List ByteArray):Lib.lens (ws.map (·.data.toList))=tot ws:=by
 induction ws with
 | nil=>rfl
 | cons x r ih=>
  have e:Lib.lens ((x::r).map (·.data.toList))=x.data.toList.length+Lib.lens (r.map (·.data.toList)):=by simp[Lib.lens]
  rw[e,ih,tot,Lib.size_eq]
theorem k2v(ws:List ByteArray):(jnL ws).length=ln ws:=by
 cases ws with
 | nil=>rfl
 | cons x r=>
  have h:=Lib.join_length x.data.toList (r.map (·.data.toList)) [32];have A:=v2l (x::r);simp only[List.map_cons]at A;simp only[jnL,List.map_cons,h,A,ln,List.length_cons,List.length_nil,List.length_map];omega
theorem k5m(ws:List ByteArray):(jnS ws).size=ln ws:=by
 rw[<-k2v];simp[jnS,ByteArray.size]
def bd(n wd:Nat)(last:Bool):Nat:=if wd<n then 1000*(n-wd)else if last then 0 else(wd-n)*(wd-n)
theorem y3u{n wd:Nat}{last:Bool}(h1:n<=1260)(h2:wd<=100):bd n wd last<=1300000:=by
 unfold bd
 split
 ·omega
 ·split
  ·omega
  ·have:(wd-n)*(wd-n)<=100*100:=Nat.mul_le_mul (by omega) (by omega)
   omega
def z4l(g:Nat->Nat):Nat->Nat
 | 0=>0
 | n+1=>if n=0\/g (n+1)<=z4l g n then g (n+1)else z4l g n
def j9x(g:Nat->Nat):Nat->Nat
 | 0=>0
 | n+1=>if n=0\/g (n+1)<=z4l g n then n+1 else j9x g n
theorem z5r{g h:Nat->Nat}:∀n,(∀k,1<=k->k<=n->g k=h k)->z4l g n=z4l h n
 | 0,_=>rfl
 | n+1,e=>by
  have ih:=z5r n fun k h1 h2=>e k h1 (by omega)
  simp only[z4l,ih,e (n+1) (by omega) Zl]
theorem z7k(g:Nat->Nat):∀n k,1<=k->k<=n->z4l g n<=g k
 | 0,k,h1,h2=>by omega
 | n+1,k,h1,h2=>by
  simp only[z4l]
  split
  ·rename_i h;by_cases hk:k=n+1
   ·subst hk;exact Nat.le_refl _
   ·have:=z7k g n k h1 (by omega)
    rcases h with h|h<;>omega
  ·rename_i h;by_cases hk:k=n+1
   ·subst hk;omega
   ·exact z7k g n k h1 (by omega)
theorem k4j(g:Nat->Nat):∀n,1<=n->1<=j9x g n/\j9x g n<=n
 | 0,h=>by omega
 | n+1,h=>by
  simp only[j9x]
  split
  ·omega
  ·rename_i h1
   have:=k4j g n (by omega)
   omega
theorem z8q(g:Nat->Nat):∀n k,j9x g n<k->k<=n->1<=k->g k≠z4l g n
 | 0,k,h1,h2,h3=>by omega
 | n+1,k,h1,h2,h3=>by
  simp only[j9x]at h1;simp only[z4l]
  split at h1
  ·omega
  ·rename_i h;rw[if_neg h];by_cases hk:k=n+1
   ·subst hk;omega
   ·exact z8q g n k h1 (by omega) h3
def k7o(wd:Nat):List ByteArray->List Nat
 | []=>[0]
 | x::r=>z4l (fun k=>bd (ln ((x::r).take k)) wd (k==r.length+1)+(k7o wd r).getD (k-1) 0) (r.length+1)::k7o wd r
def best(wd:Nat)(ws:List ByteArray):Nat:=(k7o wd ws).getD 0 0
theorem z1v(wd:Nat):best wd []=0:=rfl
theorem z5a(wd:Nat):∀(ws:List ByteArray)(j:Nat),j<=ws.length->(k7o wd ws).getD j 0=best wd (ws.drop j)
 | _,0,_=>by simp[best]
 | [],j+1,h=>by simp at h
 | x::r,j+1,h=>by
  have:=z5a wd r j (by simp at h;omega)
  simpa[k7o]using this
def fOf(wd:Nat)(ws:List ByteArray)(k:Nat):Nat:=bd (ln (ws.take k)) wd (k==ws.length)+best wd (ws.drop k)
theorem j1m(wd:Nat){ws:List ByteArray}(h:ws≠[]):best wd ws=z4l (fOf wd ws) ws.length:=by
 cases ws with
 | nil=>exact absurd rfl h
 | cons x r=>
  simp only[best,k7o,List.getD_cons_zero,List.length_cons];refine z5r _ fun k h1 h2=>?_
  obtain⟨j,rfl⟩:∃j,k=j+1:=⟨k-1,by omega⟩;simp only[fOf,List.length_cons,List.drop_succ_cons,Nat.add_sub_cancel];rw[z5a wd r j (by omega)]
theorem v8g{wd:Nat}(hw:wd<=100):∀(n:Nat)(ws:List ByteArray),ws.length<=n->Few ws->best wd ws<=1300000
 | 0,ws,h,_=>by
  have:ws=[]:=List.eq_nil_of_length_eq_zero (by omega)
  subst this;simp[z1v]
 | n+1,ws,h,hf=>by
  by_cases h0:ws=[]
  ·subst h0;simp[z1v]
  ·have hp:0<ws.length:=List.length_pos_iff.2 h0;rw[j1m wd h0];refine Nat.le_trans (z7k _ _ ws.length hp Zl) ?_;simp only[fOf,List.drop_length,z1v]
   have:=y3u (last:=(ws.length==ws.length)) (hf.take ws.length).ln hw
   omega
theorem y4i{wd:Nat}(hw:wd<=100){ws:List ByteArray}(hf:Few ws)(k:Nat):fOf wd ws k<=2600000:=by
 have A:=v8g hw _ (ws.drop k) Zl (hf.drop k);have B:=y3u (last:=(k==ws.length)) (hf.take k).ln hw;simp only[fOf];omega
def agF(wd:Nat)(ws:List ByteArray):Nat:=j9x (fOf wd ws) ws.length
theorem q9y(wd:Nat){ws:List ByteArray}(h:ws≠[]):1<=agF wd ws/\agF wd ws<=ws.length:=k4j _ _ (List.length_pos_iff.2 h)
def z2q(wd:Nat)(ws:List ByteArray):List Nat:=
 if _h:ws=[]then []else agF wd ws::z2q wd (ws.drop (agF wd ws))
termination_by ws.length
decreasing_by
 have:=q9y wd _h
 simp only[List.length_drop];omega
theorem q8q(wd:Nat):z2q wd []=[]:=by rw[z2q];simp
theorem q6m(wd:Nat){ws:List ByteArray}(h:ws≠[]):z2q wd ws=agF wd ws::z2q wd (ws.drop (agF wd ws)):=by
 rw[z2q,dif_neg h]
def k8u:List ByteArray->List Nat->List ByteArray
 | _,[]=>[]
 | ws,k::ks=>jnS (ws.take k)::k8u (ws.drop k) ks
theorem z9t{x:UInt8}(h:q3g x=true):x≠32:=by
 rintro rfl;revert h;decide
theorem z9g{x:UInt8}(h:q2s x=true):x≠32:=by
 rintro rfl;revert h;decide
theorem k2l{x:UInt8}(h:q2s x=true):q3g x=false:=by
 simp only[q2s,q3g,Bool.and_eq_true,decide_eq_true_eq,Bool.and_eq_false_iff,decide_eq_false_iff_not]at h⊢;omega
theorem q7l{p:UInt8->Bool}(h:∀x,p x=true->x≠32)(c:UInt8)(hc:p c=true)(r:List UInt8):q1d (c::r.takeWhile p)=c::r.takeWhile p:=by
 have:=y9l (p:=p) (l:=c::r) h
 rw[List.takeWhile_cons,if_pos hc]at this;exact this
theorem j8o(p:UInt8->Bool)(r:List UInt8):(r.takeWhile p).takeWhile p=r.takeWhile p:=by
 have:=z3y (p:=p) r (r.takeWhile p).length Zl
 rw[z4u]at this;exact this
theorem k9s{c:UInt8}(h:spB c=false):c≠32:=by
 rintro rfl;revert h;decide
theorem v7p{c:UInt8}{r:List UInt8}(hs:spB c=false)(ho:q4o (c::r)=true):q3q (tkW (c::r)):=by
 cases A:q3g c with
 | true=>
  have e:tkW (c::r)=c::r.takeWhile q3g:=by
   simp only[tkW,q0m,A,if_true,List.take_succ_cons,z4u];exact q7l (fun _=>z9t) c A r
  refine⟨c,r.takeWhile q3g,e,hs,?_,?_,q7l (fun _=>z9t) c A r⟩
  ·simp only[q4o,A,if_true,j8o]at ho⊢;exact ho
  ·simp only[q0m,A,if_true,j8o,List.length_cons]
 | false=>
  cases B:q2s c with
  | true=>
   have e:tkW (c::r)=c::r.takeWhile q2s:=by
    simp only[tkW,q0m,A,B,if_true,Bool.false_eq_true,if_false,List.take_succ_cons,z4u];exact q7l (fun _=>z9g) c B r
   refine⟨c,r.takeWhile q2s,e,hs,?_,?_,q7l (fun _=>z9g) c B r⟩
   ·simp only[q4o,A,B,if_true,Bool.false_eq_true,if_false,j8o]at ho⊢;exact ho
   ·simp only[q0m,A,B,if_true,Bool.false_eq_true,if_false,j8o,List.length_cons]
  | false=>
   cases C:(c==35)with
   | true=>
    have e:tkW (c::r)=q1d (c::r.takeWhile nlB):=by
     simp only[tkW,q0m,A,B,C,if_true,Bool.false_eq_true,if_false,List.take_succ_cons,z4u]
    obtain⟨z,H⟩:=z0x (k9s hs) (r.takeWhile nlB)
    have E:z=(r.takeWhile nlB).take z.length:=by
     have:=z6d (c::r.takeWhile nlB)
     rw[H,List.length_cons,List.take_succ_cons,List.cons.injEq]at this;exact this.2.symm
    have D:z.length<=(r.takeWhile nlB).length:=by
     have:=q9o (c::r.takeWhile nlB)
     rw[H,List.length_cons,List.length_cons]at this;omega
    have G:z.takeWhile nlB=z:=by
     have:=z3y (p:=nlB) (r.takeWhile nlB) z.length (by rw[j8o];exact D)
     rw[<-E]at this;exact this
    refine⟨c,z,by rw[e,H],hs,?_,?_,by rw[<-H];exact j0e _⟩
    ·simp only[q4o,A,B,C,if_true,Bool.false_eq_true,if_false,G]at ho⊢;rw[E];exact v0g ho _
    ·simp only[q0m,A,B,C,if_true,Bool.false_eq_true,if_false,G,List.length_cons]
   | false=>
    have e:tkW (c::r)=[c]:=by
     simp only[tkW,q0m,A,B,C,Bool.false_eq_true,if_false,List.take_succ_cons,List.take_zero];exact q1k [] (k9s hs)
    refine⟨c,[],e,hs,?_,?_,q1k [] (k9s hs)⟩
    ·simp only[q4o,A,B,C,Bool.false_eq_true,if_false]at ho⊢;exact ho
    ·simp only[q0m,A,B,C,Bool.false_eq_true,if_false,List.length_cons,List.length_nil]
theorem j8f{w:List UInt8}(h:q3q w):1<=w.length:=by
 obtain⟨c,r,rfl,_⟩:=h;simp
theorem y5h{w:List UInt8}(h:q3q w)(t:List UInt8)(i:Nat):lx (w++10::t) i=((i,w)::lxW t (i+w.length+1),lxF t (i+w.length+1)):=by
 obtain⟨c,r,rfl,I,H,B,J⟩:=h;obtain⟨A,D⟩:=y6r c r t;rw[List.cons_append]at A D;have C:q4o (c::(r++10::t))=true:=by rw[D];exact H
 have E:(c::(r++10::t)).drop (q0m (c::(r++10::t)))=10::t:=by
  rw[A,B,<-List.cons_append,List.drop_left]
 have G:tkW (c::(r++10::t))=c::r:=by
  rw[tkW,A,B,<-List.cons_append,List.take_left,J]
 rw[List.cons_append,z3h i I C,E,G,A,B,lxW,lxF,z7h t _ rfl];rfl
def spc:List (List UInt8)->List UInt8
 | []=>[]
 | w::r=>w++10::spc r
def q8h(s:List UInt8)(i:Nat)(x:Nat × List UInt8):Prop:=i<=x.1/\x.1+x.2.length<=i+s.length/\(s.drop (x.1-i)).take x.2.length=x.2/\q3q x.2
theorem q8h.later{s:List UInt8}{i k:Nat}{x:Nat × List UInt8}(h:q8h (s.drop k) (i+k) x)(hk:k<=s.length):q8h s i x:=by
 obtain⟨D,B,A,C⟩:=h;rw[List.length_drop]at B;refine⟨by omega,by omega,?_,C⟩;rw[List.drop_drop]at A;have e:x.1-i=k+(x.1-(i+k)):=by omega
 rw[e];exact A
theorem y0u:∀(n:Nat)(s:List UInt8)(i:Nat),s.length<=n->(∀x∈lxW s i,q8h s i x)/\(lxW s i).Pairwise (fun a b=>a.1+a.2.length<=b.1)
 | 0,s,i,h=>by
  have:s=[]:=List.eq_nil_of_length_eq_zero (by omega)
  subst this;rw[lxW,q7q];exact⟨fun x hx=>absurd hx List.not_mem_nil,List.Pairwise.nil⟩
 | n+1,s,i,h=>by
  cases s with
  | nil=>
   rw[lxW,q7q];exact⟨fun x hx=>absurd hx List.not_mem_nil,List.Pairwise.nil⟩
  | cons c r=>
   cases hs:spB c with
   | true=>
    obtain⟨h1,h2⟩:=y0u n r (i+1) (by simp at h;omega);rw[lxW,z7h r i hs];exact⟨fun x hx=>q8h.later (s:=c::r) (k:=1) (h1 x hx) (by simp),h2⟩
   | false=>
    cases ho:q4o (c::r)with
    | false=>
     rw[lxW,z9w i hs ho];exact⟨fun x hx=>absurd hx List.not_mem_nil,List.Pairwise.nil⟩
    | true=>
     have hp:=q3n c r;have hle:=q7k (c::r)
     have hw:(tkW (c::r)).length<=q0m (c::r):=by
      have:=q9o ((c::r).take (q0m (c::r)))
      rw[List.length_take]at this;rw[tkW];omega
     obtain⟨h1,h2⟩:=y0u n ((c::r).drop (q0m (c::r))) (i+q0m (c::r)) (by simp only[List.length_drop,List.length_cons]at h⊢;omega);rw[lxW,z3h i hs ho];refine⟨fun x hx=>?_,List.pairwise_cons.2 ⟨fun x hx=>?_,h2⟩⟩
     ·rcases List.mem_cons.1 hx with rfl|hx
      ·refine⟨Nat.le_refl _,by simp only;omega,?_,v7p hs ho⟩;simp only[Nat.sub_self,List.drop_zero];have A:=z6d ((c::r).take (q0m (c::r)));rw[List.take_take,Nat.min_eq_left (by rw[tkW]at hw;exact hw)]at A;exact A
      ·exact(h1 x hx).later hle
     ·have:=(h1 x hx).1
      simp only;omega
def q2x(s:List UInt8):List (List UInt8):=(lxW s 0).map (·.2)
def z5t(s:List UInt8):List Nat:=(lxW s 0).map (·.1)
theorem k7i(s:List UInt8):(q2x s).length=(z5t s).length:=by simp[q2x,z5t]
theorem y7o(s:List UInt8)(j:Nat)(h:j<(q2x s).length)(h2:j<(z5t s).length):
  (z5t s)[j]+(q2x s)[j].length<=s.length/\(s.drop (z5t s)[j]).take (q2x s)[j].length=(q2x s)[j]/\q3q (q2x s)[j]/\∀k(hk:k<(q2x s).length)(hk2:k<(z5t s).length),k<j->(z5t s)[k]+(q2x s)[k].length<=(z5t s)[j]:=by
 obtain⟨B,C⟩:=y0u s.length s 0 Zl;have A:j<(lxW s 0).length:=by simpa[q2x]using h
 obtain⟨_,G,D,E⟩:=B (lxW s 0)[j] (List.getElem_mem A);simp only[q2x,z5t,List.getElem_map]at *;refine⟨by omega,by simpa using D,E,fun k hk hk2 hkj=>?_⟩;exact List.pairwise_iff_getElem.1 C k j (by simpa using hk2) A hkj
theorem y3c(s:List UInt8):∀w∈q2x s,q3q w:=by
 intro w B;obtain⟨j,A,rfl⟩:=List.getElem_of_mem B;exact(y7o s j A (by rw[<-k7i];exact A)).2.2.1
theorem z7g:∀(n:Nat)(s:List UInt8)(i:Nat),s.length<=n->(lxW s i).length<=s.length
 | 0,s,i,h=>by
  have:s=[]:=List.eq_nil_of_length_eq_zero (by omega)
  subst this;rw[lxW,q7q];simp
 | n+1,s,i,h=>by
  cases s with
  | nil=>rw[lxW,q7q];simp
  | cons c r=>
   cases hs:spB c with
   | true=>
    have:=z7g n r (i+1) (by simp at h;omega)
    rw[lxW,z7h r i hs];simp only[List.length_cons];rw[lxW]at this;omega
   | false=>
    cases ho:q4o (c::r)with
    | false=>rw[lxW,z9w i hs ho];simp
    | true=>
     have hp:=q3n c r;have hle:=q7k (c::r)
     have:=z7g n ((c::r).drop (q0m (c::r))) (i+q0m (c::r)) (by simp only[List.length_drop,List.length_cons]at h⊢;omega)
     rw[lxW,z3h i hs ho];simp only[List.length_cons,List.length_drop]at this hle⊢;omega
theorem j8t(s:List UInt8):(q2x s).length<=s.length:=by
 have:=z7g s.length s 0 Zl
 simpa[q2x]using this
def y9t(w:List UInt8):Bool:=w.headD 0 != 35
def many(ws:List (List UInt8)):Nat:=(ws.filter y9t).length
theorem v2w(a b:List (List UInt8)):many (a++b)=many a+many b:=by simp[many]
def q6h(s:List UInt8):Int:=if 60000<s.length then 3 else if(lxF s 0).isSome then 5 else if 300<many (q2x s)then 3 else 0
def z7d(s:List UInt8):Nat:=if q6h s=5 then(lxF s 0).getD 0 else 0
theorem z3d{s:List UInt8}(h:q6h s=0):s.length<=60000/\lxF s 0=none/\many (q2x s)<=300:=by
 unfold q6h at h
 split at h
 ·cases h
 ·split at h
  ·cases h
  ·split at h
   ·cases h
   ·rename_i h1 h2 h3;exact⟨by omega,by simpa using h2,by omega⟩
abbrev btL(s:ByteArray):List UInt8:=s.data.toList
theorem q0b(s:ByteArray):(btL s).length=s.size:=(Lib.size_eq s).symm
theorem q1t{s:ByteArray}{k:Nat}(h:k<s.size):(btL s).drop k=s[k]::(btL s).drop (k+1):=by
 have A:k<(btL s).length:=by rw[q0b];exact h
 rw[List.drop_eq_getElem_cons A];rfl
def twN(p:UInt8->Bool)(s:ByteArray)(k:Nat):Nat:=(((btL s).drop k).takeWhile p).length
theorem y2y{p:UInt8->Bool}{s:ByteArray}{k:Nat}(h:k<s.size)(hp:p s[k]=true):twN p s k=twN p s (k+1)+1:=by
 rw[twN,q1t h,List.takeWhile_cons,if_pos hp];rfl
theorem y6x{p:UInt8->Bool}{s:ByteArray}{k:Nat}(h:k<s.size)(hp:p s[k]=false):twN p s k=0:=by
 rw[twN,q1t h,List.takeWhile_cons,if_neg (by simp[hp])];rfl
theorem y2x{p:UInt8->Bool}{s:ByteArray}{k:Nat}(h:¬k<s.size):twN p s k=0:=by
 rw[twN,List.drop_eq_nil_of_le (by rw[q0b];omega)];rfl
def j7y(s:ByteArray)(i:Nat):Nat:=q0m ((btL s).drop i)
def tOk(s:ByteArray)(i:Nat):Bool:=q4o ((btL s).drop i)
theorem g0j{s:ByteArray}{i:Nat}(h:i<s.size):1<=j7y s i/\i+j7y s i<=s.size:=by
 have A:=q7k ((btL s).drop i);rw[List.length_drop,q0b]at A;rw[j7y];refine⟨?_,by omega⟩;rw[q1t h];exact q3n _ _
theorem j0f(c:UInt8)(n:Nat)(hn:n<256):((c.toNat:Int)==(n:Int))=(c==UInt8.ofNat n):=by
 by_cases h:c=UInt8.ofNat n
 ·subst h;rw[beq_iff_eq.2 (show((UInt8.ofNat n).toNat:Int)=(n:Int) by simp[Nat.mod_eq_of_lt hn])];simp
 ·rw[beq_false_of_ne h,beq_false_of_ne];intro e;apply h
  have:c.toNat=n:=by omega
  rw[<-this];simp
def wbS(w:List UInt8):ByteArray:=⟨w.toArray⟩
theorem k4b(s:ByteArray)(i e:Nat):s.extract i e=wbS (((btL s).drop i).take (e-i)):=by
 apply ByteArray.ext;rw[ByteArray.data_extract];apply Array.ext';simp only[wbS,Array.toList_extract,List.extract]
structure Td where
 op:Int
 tx:ByteArray
 n:Int
def kdT(x:Td):Nat:=if x.op=3\/x.op=4 then x.n.toNat else if x.op=5\/x.op=6 then 2 else if x.op=7\/x.op=8 then 1 else 0
def k2c:List Td->Nat->Option Nat
 | _,0=>some 0
 | [],_+1=>none
 | x::r,m+1=>(k2c r (kdT x+m)).map (· + 1)
theorem q8o(ds:List Td):k2c ds 0=some 0:=by cases ds<;>rfl
theorem q7a(m:Nat):k2c [] (m+1)=none:=rfl
theorem q5a(x:Td)(r:List Td)(m:Nat):k2c (x::r) (m+1)=(k2c r (kdT x+m)).map (· + 1):=rfl
theorem j2j:∀(ds:List Td)(m k:Nat),k2c ds m=some k->m<=k/\k<=ds.length
 | ds,0,k,h=>by rw[q8o]at h;cases h;simp
 | [],m+1,k,h=>by rw[q7a]at h;cases h
 | x::r,m+1,k,h=>by
  rw[q5a,Option.map_eq_some_iff]at h;obtain⟨j,h1,rfl⟩:=h
  have:=j2j r _ j h1
  simp;omega
theorem k4v:∀(ds:List Td)(a b:Nat),k2c ds (a+b)=(k2c ds a).bind fun k=>(k2c (ds.drop k) b).map (k+·)
 | ds,0,b=>by
  rw[q8o];simp
 | [],a+1,b=>by rw[show a+1+b=(a+b)+1 by omega,q7a,q7a];rfl
 | x::r,a+1,b=>by
  rw[show a+1+b=(a+b)+1 by omega,q5a,q5a,show kdT x+(a+b)=(kdT x+a)+b by omega,k4v r _ b];cases k2c r (kdT x+a)with
  | none=>rfl
  | some k=>
   simp only[Option.bind_some,Option.map_some,List.drop_succ_cons];cases k2c (r.drop k) b with
   | none=>rfl
   | some j=>simp;omega
def z1n(ds:List Td)(i m:Nat):Option Nat:=(k2c (ds.drop i) m).map (i+·)
theorem j3e(ds:List Td)(i:Nat):z1n ds i 0=some i:=by simp[z1n,q8o]
theorem z2a(ds:List Td)(i m:Nat)(h:ds.length<=i):z1n ds i (m+1)=none:=by
 rw[z1n,List.drop_eq_nil_of_le h,q7a];rfl
theorem j3d(ds:List Td)(i m:Nat)(h:i<ds.length):z1n ds i (m+1)=z1n ds (i+1) (kdT ds[i]+m):=by
 rw[z1n,List.drop_eq_getElem_cons h,q5a,z1n];cases k2c (ds.drop (i+1)) (kdT ds[i]+m)with
 | none=>rfl
 | some k=>simp;omega
def q1f(s:ByteArray):Bool:=decide (1<=s.size)&&decide (s.size<=8)&&decide (btL s≠[108,101,116])&&(btL s).all q3g
def q4y:List UInt8->List (List UInt8)
 | []=>[[]]
 | c::r=>if c=32 then []::q4y r else match q4y r with
  | []=>[[c]]
  | w::ws=>(c::w)::ws
theorem q6s(s:List UInt8):q4y s≠[]:=by
 cases s with
 | nil=>simp[q4y]
 | cons c r=>
  simp only[q4y]
  split
  ·simp
  ·split<;>simp
theorem q5i(r:List UInt8):q4y (32::r)=[]::q4y r:=by simp[q4y]
theorem q5j{c:UInt8}(h:c≠32){r w:List UInt8}{ws:List (List UInt8)}(hr:q4y r=w::ws):q4y (c::r)=(c::w)::ws:=by
 simp only[q4y,if_neg h,hr]
theorem v4h(u r:List UInt8)(h:∀b∈u,b≠32):q4y (u++32::r)=u::q4y r:=by
 induction u with
 | nil=>exact q5i r
 | cons c u ih=>
  have A:=ih fun b hb=>h b (by simp[hb])
  rw[List.cons_append,q5j (h c (by simp)) A]
theorem v4i(u:List UInt8)(h:∀b∈u,b≠32):q4y u=[u]:=by
 induction u with
 | nil=>rfl
 | cons c u ih=>rw[q5j (h c (by simp)) (ih fun b hb=>h b (by simp[hb]))]
def q0i(s:List UInt8):List (List UInt8):=if s=[]then []else q4y s
def q3k(s:ByteArray):Int:=q1h ((q0i (btL s)).map wbS)
def q2c(op:Int):Bool:=decide (op=2)||decide (op=3)||decide (op=7)||decide (op=9)
def q0l(x:Td):Int:=
 if x.op<1\/9<x.op then 1
 else if(x.op=1/\(x.n<0\/999999<x.n))\/((x.op=3\/x.op=4)/\(x.n<0\/6<x.n))then 1
 else if(x.op≠1/\x.op≠3/\x.op≠4/\x.n≠0)\/(q2c x.op=false/\0<x.tx.size)then 2
 else if x.op=9 then q3k x.tx
 else if q2c x.op=true/\q1f x.tx=false then 5 else 0
def k8m:List Td->Int
 | []=>0
 | x::r=>if q0l x=0 then k8m r else q0l x
theorem k5j:∀(ds:List Td),(∀x∈ds,q0l x=0)->k8m ds=0
 | [],_=>rfl
 | x::r,h=>by rw[k8m,if_pos (h x (by simp)),k5j r fun y hy=>h y (by simp[hy])]
theorem z9j:∀(ds:List Td),k8m ds=0->∀x∈ds,q0l x=0
 | [],_=>by simp
 | x::r,h=>by
  rw[k8m]at h
  split at h
  ·rename_i h0;intro y hy;rcases List.mem_cons.1 hy with rfl|hy
   ·exact h0
   ·exact z9j r h y hy
  ·rename_i h0;exact absurd h h0
theorem j4b:∀(ds:List Td)(k:Nat)(h:k<ds.length),(∀x∈ds.take k,q0l x=0)->q0l ds[k]≠0->k8m ds=q0l ds[k]
 | x::r,0,_,_,h=>by
  have h':q0l x≠0:=h;rw[k8m,if_neg h'];rfl
 | x::r,k+1,hk,ha,h=>by
  rw[k8m,if_pos (ha x (by simp)),j4b r k (by simpa using hk) (fun y hy=>ha y (by simp[hy])) h];rfl
def j8g(ds:List Td):Bool:=match ds with
 | []=>true
 | x::r=>decide (7<=x.op)&&r.all fun y=>decide (y.op<7)
def q0c(ds:List Td):Int:=
 if 40<ds.length then 3 else if k8m ds≠0 then k8m ds else if z1n ds 0 1=some ds.length/\j8g ds=true then 0 else 2
theorem q4d{ds:List Td}(h:q0c ds=0):ds.length<=40/\(∀x∈ds,q0l x=0)/\z1n ds 0 1=some ds.length/\j8g ds=true:=by
 unfold q0c at h
 split at h
 ·cases h
 ·split at h
  ·rename_i h1;exact absurd h h1
  ·rename_i h0 h1
   split at h
   ·rename_i h2;exact⟨by omega,z9j ds (by omega),h2.1,h2.2⟩
   ·cases h
theorem y4u{x:Td}(h:q0l x=0):kdT x<=6:=by
 unfold q0l at h
 split at h
 ·cases h
 ·split at h
  ·cases h
  ·rename_i h1 h2;unfold kdT
   split
   ·omega
   ·split
    ·omega
    ·split<;>omega
inductive Fo where
 | nil:Fo
 | cons (x:Td) (k n:Fo):Fo
def Fo.len:Fo->Nat
 | .nil=>0
 | .cons _ _ n=>n.len+1
def Fo.N:Fo->List Td
 | .nil=>[]
 | .cons x k n=>x::(k.N++n.N)
def Fo.ok:Fo->Prop
 | .nil=>True
 | .cons x k n=>k.len=kdT x/\k.ok/\n.ok
def Fo.app:Fo->Fo->Fo
 | .nil,g=>g
 | .cons x k n,g=>.cons x k (n.app g)
theorem v9m:∀(l:Nat)(ds:List Td)(m k:Nat),ds.length<=l->k2c ds m=some k->∃F:Fo,F.ok/\F.len=m/\F.N=ds.take k
 | l,ds,0,k,_,h=>by
  rw[q8o]at h;cases h;exact⟨.nil,trivial,rfl,by simp[Fo.N]⟩
 | 0,ds,m+1,k,hl,h=>by
  have:ds=[]:=List.eq_nil_of_length_eq_zero (by omega)
  subst this;rw[q7a]at h;cases h
 | l+1,[],m+1,k,hl,h=>by rw[q7a]at h;cases h
 | l+1,x::r,m+1,k,hl,h=>by
  rw[q5a,Option.map_eq_some_iff]at h;obtain⟨j,h1,rfl⟩:=h;rw[k4v]at h1;cases h2:k2c r (kdT x)with
  | none=>rw[h2]at h1;cases h1
  | some a=>
   rw[h2,Option.bind_some,Option.map_eq_some_iff]at h1;obtain⟨b,h3,rfl⟩:=h1;obtain⟨K,k1,k2,k3⟩:=v9m l r (kdT x) a (by simp at hl;omega) h2;obtain⟨N,n1,n2,n3⟩:=v9m l (r.drop a) m b (by simp at hl⊢;omega) h3;refine⟨.cons x K N,⟨k2,k1,n1⟩,by simp[Fo.len,n2],?_⟩;have ha:=(j2j _ _ _ h2).2;rw[Fo.N,k3,n3,List.take_succ_cons,List.cons.injEq];refine⟨rfl,?_⟩;rw[List.take_add]
abbrev Wd:=List UInt8
def q1u(n:Nat):Wd:=if h:n<=9 then [UInt8.ofNat (48+n)]else q1u (n / 10)++[UInt8.ofNat (48+n % 10)]
termination_by n
decreasing_by omega
def q4m(w:Wd):Nat:=w.foldl (fun a c=>a*10+(c.toNat-48)) 0
theorem z6q{n:Nat}(h:n<=9):(UInt8.ofNat (48+n)).toNat=48+n:=by
 rw[UInt8.toNat_ofNat'];omega
theorem v3i(n:Nat):q4m (q1u n)=n:=by
 induction n using Nat.strongRecOn with
 | ind n ih=>
  rw[q1u]
  split
  ·rename_i h;simp only[q4m,List.foldl_cons,List.foldl_nil,z6q h];omega
  ·rename_i h;have A:=ih (n / 10) (by omega);unfold q4m at A⊢;rw[List.foldl_append,A];simp only[List.foldl_cons,List.foldl_nil,z6q (show n % 10<=9 by omega)];omega
theorem z1z(n:Nat):∀c∈q1u n,q2s c=true:=by
 induction n using Nat.strongRecOn with
 | ind n ih=>
  have B:∀k,k<=9->q2s (UInt8.ofNat (48+k))=true:=fun k hk=>by
   simp only[q2s,z6q hk];simp;omega
  rw[q1u]
  split
  ·rename_i h;intro c A;rw[List.mem_singleton]at A;rw[A];exact B n h
  ·rename_i h;intro c A;rcases List.mem_append.1 A with A|A
   ·exact ih (n / 10) (by omega) c A
   ·rw[List.mem_singleton]at A;rw[A];exact B _ (by omega)
theorem z6p(n:Nat):q1u n≠[]:=by
 rw[q1u]
 split<;>simp
theorem q3f:∀(k n:Nat),n<10 ^ (k+1)->(q1u n).length<=k+1
 | k,n,h=>by
  rw[q1u]
  split
  ·simp
  ·rename_i h9;cases k with
   | zero=>simp at h;omega
   | succ k=>
    have:=q3f k (n / 10) (by rw[Nat.pow_succ]at h;omega)
    simp only[List.length_append,List.length_cons,List.length_nil];omega
theorem z9b(n:Nat)(h:0<n):∃c z,q1u n=c::z/\c≠48:=by
 induction n using Nat.strongRecOn with
 | ind n ih=>
  rw[q1u]
  split
  ·rename_i h9;refine⟨_,[],rfl,fun e=>?_⟩
   have:=congrArg UInt8.toNat e
   rw[z6q h9]at this;simp at this;omega
  ·obtain⟨c,z,e,A⟩:=ih (n / 10) (by omega) (by omega);exact⟨c,z++[UInt8.ofNat (48+n % 10)],by rw[e];rfl,A⟩
structure Tn where
 x:Td
 ns:List Td
 tk:List Wd
 tx:List UInt8
def prc(x:Td):Nat:=if x.op=5 then 0 else if x.op=6 then 1 else 2
def brk(l:Nat)(t:Tn):List Wd:=if prc t.x<l then [40]::(t.tk++[[41]])else t.tk
def brx(l:Nat)(t:Tn):List UInt8:=if prc t.x<l then 40::(t.tx++[41])else t.tx
def cmk:List Tn->List Wd
 | []=>[]
 | t::r=>t.tk++match r with
  | []=>[]
  | _::_=>[44]::cmk r
def cmx:List Tn->List UInt8
 | []=>[]
 | t::r=>t.tx++match r with
  | []=>[]
  | _::_=>44::32::cmx r
def two2{α:Type}(f:Tn->Tn->List α):List Tn->List α
 | [a,b]=>f a b
 | _=>[]
def j0a(x:Td)(ks:List Tn):List Wd:=
 if x.op=1 then [q1u x.n.toNat]
 else if x.op=2 then [btL x.tx]
 else if x.op=3 then btL x.tx::[40]::(cmk ks++[[41]])
 else if x.op=4 then [91]::(cmk ks++[[93]])
 else if x.op=5 then two2 (fun a b=>brk 0 a++[43]::brk 1 b) ks
 else two2 (fun a b=>brk 1 a++[42]::brk 2 b) ks
def q2v(x:Td)(ks:List Tn):List UInt8:=
 if x.op=1 then q1u x.n.toNat
 else if x.op=2 then btL x.tx
 else if x.op=3 then btL x.tx++40::(cmx ks++[41])
 else if x.op=4 then 91::(cmx ks++[93])
 else if x.op=5 then two2 (fun a b=>brx 0 a++32::43::32::brx 1 b) ks
 else two2 (fun a b=>brx 1 a++32::42::32::brx 2 b) ks
def q0x(x:Td)(ks:List Tn):Tn:=⟨x,x::ks.flatMap (·.ns),j0a x ks,q2v x ks⟩
def Fo.R:Fo->List Tn
 | .nil=>[]
 | .cons x k n=>q0x x k.R::n.R
theorem z0y:∀F:Fo,F.R.length=F.len
 | .nil=>rfl
 | .cons _ _ n=>by simp[Fo.R,Fo.len,z0y n]
theorem q9p:∀F:Fo,F.R.flatMap (·.ns)=F.N
 | .nil=>rfl
 | .cons x k n=>by
  rw[Fo.R,List.flatMap_cons,q9p n,q0x,q9p k];simp[Fo.N]
def exN(x:Td):Prop:=q0l x=0/\x.op<7
def Fo.exs(F:Fo):Prop:=∀x∈F.N,exN x
theorem q3i{x:Td}(h:exN x):(x.op=1/\x.tx=⟨#[]⟩/\0<=x.n/\x.n<=999999/\kdT x=0)\/(x.op=2/\q1f x.tx=true/\x.n=0/\kdT x=0)
  \/(x.op=3/\q1f x.tx=true/\0<=x.n/\x.n<=6/\kdT x=x.n.toNat)\/(x.op=4/\x.tx=⟨#[]⟩/\0<=x.n/\x.n<=6/\kdT x=x.n.toNat)
  \/(x.op=5/\x.tx=⟨#[]⟩/\x.n=0/\kdT x=2)\/(x.op=6/\x.tx=⟨#[]⟩/\x.n=0/\kdT x=2):=by
 obtain⟨A,G⟩:=h
 have B:∀s:ByteArray,¬0<s.size->s=⟨#[]⟩:=fun s hs=>by
  apply ByteArray.ext;apply Array.toList_inj.1;exact List.eq_nil_of_length_eq_zero (by have:=q0b s;simp only[btL]at this;omega)
 unfold q0l at A
 split at A
 ·cases A
 ·rename_i h1
  split at A
  ·cases A
  ·rename_i h2
   split at A
   ·cases A
   ·rename_i h3;have D:¬x.op=9:=by omega
    rw[if_neg D]at A
    split at A
    ·cases A
    ·rename_i h4;have E:x.op=1\/x.op=2\/x.op=3\/x.op=4\/x.op=5\/x.op=6:=by omega
     rcases E with e|e|e|e|e|e
     ·refine .inl ⟨e,B _ (fun hh=>h3 (.inr ⟨by rw[e];rfl,hh⟩)),by omega,by omega,by unfold kdT;rw[e];rfl⟩
     ·refine .inr (.inl ⟨e,?_,by omega,by unfold kdT;rw[e];rfl⟩);cases C:q1f x.tx with
      | true=>rfl
      | false=>exact absurd ⟨by rw[e];rfl,C⟩ h4
     ·refine .inr (.inr (.inl ⟨e,?_,by omega,by omega,by unfold kdT;rw[if_pos (.inl e)]⟩));cases C:q1f x.tx with
      | true=>rfl
      | false=>exact absurd ⟨by rw[e];rfl,C⟩ h4
     ·exact .inr (.inr (.inr (.inl ⟨e,B _ (fun hh=>h3 (.inr ⟨by rw[e];rfl,hh⟩)),by omega,by omega,by unfold kdT;rw[if_pos (.inr e)]⟩)))
     ·exact .inr (.inr (.inr (.inr (.inl ⟨e,B _ (fun hh=>h3 (.inr ⟨by rw[e];rfl,hh⟩)),by omega,by unfold kdT;rw[e];rfl⟩))))
     ·exact .inr (.inr (.inr (.inr (.inr ⟨e,B _ (fun hh=>h3 (.inr ⟨by rw[e];rfl,hh⟩)),by omega,by unfold kdT;rw[e];rfl⟩))))
def opT(t:List Td):Int:=match t with
 | []=>0
 | x::_=>x.op
theorem k3o{t:List Td}(h:0<t.length):opT t=t[0].op:=by
 cases t with
 | nil=>simp at h
 | cons x r=>rfl
def q4i(prev:Int)(k:Nat):List (List Td)->Nat × Int
 | []=>(0,0)
 | t::r=>if q0c t≠0 then(k,q0c t)else if opT t=9/\prev=9 then(k,2)else q4i (opT t) (k+1) r
def q0o(ps:List (List Td)):Nat × Int:=if 20<ps.length then(0,3)else q4i 0 0 ps
theorem z8g{t:List Td}(h:q0c t=0):0<t.length:=by
 rcases Nat.eq_zero_or_pos t.length with A|A
 ·have:t=[]:=List.eq_nil_of_length_eq_zero A
  subst this
  have:=(q4d h).2.2.1
  rw[z2a [] 0 0 (by simp)]at this;cases this
 ·exact A
def q6j(ps:List (List Td))(k:Nat):Int:=if k=0 then 0 else opT (ps.getD (k-1) [])
theorem z5u{ps:List (List Td)}{k:Nat}(h:k<ps.length):q6j ps (k+1)=opT ps[k]:=by
 simp[q6j,h]
theorem j7b{ps:List (List Td)}{k:Nat}{A:Int}(h:k<ps.length)(he:q0c ps[k]≠0):q4i A k (ps.drop k)=(k,q0c ps[k]):=by
 rw[List.drop_eq_getElem_cons h,q4i,if_pos he]
theorem j7c{ps:List (List Td)}{k:Nat}{A:Int}(h:k<ps.length)(he:q0c ps[k]=0)(h2:opT ps[k]=9/\A=9):q4i A k (ps.drop k)=(k,2):=by
 rw[List.drop_eq_getElem_cons h,q4i,if_neg (by simp[he]),if_pos h2]
theorem k9h{ps:List (List Td)}{k:Nat}{A:Int}(h:k<ps.length)(he:q0c ps[k]=0)(h2:¬(opT ps[k]=9/\A=9)):q4i A k (ps.drop k)=q4i (q6j ps (k+1)) (k+1) (ps.drop (k+1)):=by
 rw[List.drop_eq_getElem_cons h,q4i,if_neg (by simp[he]),if_neg h2,z5u h]
end Go.Proofs.YtelcnplcpboonaaGreatDoor
