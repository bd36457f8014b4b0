import Derived.Test.YthcpdohdppkmkaaGreatDoorPu02
open Go.Proofs.Tryz
namespace Go.Proofs.YthcpdohdppkmkaaGreatDoor
def q1n(wd:Nat):Nat->List UInt8->Nat × Nat × Nat
 | c,[]=>(0,0,c)
 | c,b::s=>if b=10 then((q1n wd 0 s).1,(q1n wd 0 s).2.1+1,(q1n wd 0 s).2.2)else((if wd<=c then 1 else 0)+(q1n wd (c+1) s).1,(q1n wd (c+1) s).2.1,(q1n wd (c+1) s).2.2)
theorem z3t(wd:Nat):∀(c:Nat)(s t:List UInt8),q1n wd c (s++t)=((q1n wd c s).1+(q1n wd (q1n wd c s).2.2 t).1,(q1n wd c s).2.1+(q1n wd (q1n wd c s).2.2 t).2.1,(q1n wd (q1n wd c s).2.2 t).2.2)
 | c,[],t=>by simp[q1n]
 | c,b::s,t=>by
  simp only[List.cons_append,q1n]
  split
  ·rw[z3t wd 0 s t];simp only[Prod.mk.injEq,and_true,true_and];omega
  ·rw[z3t wd (c+1) s t];simp only[Prod.mk.injEq,and_true];omega
abbrev Crs:=(Nat × Nat) × List Int
def q1q(a b:Nat × Nat):Prop:=a.1<b.1\/(a.1=b.1/\a.2<b.2)
instance(a b:Nat × Nat):Decidable (q1q a b):=by unfold q1q;infer_instance
def j1f(a b:Crs):Crs:=if q1q b.1 a.1 then b else a
def q7l:Option Crs->Option Crs->Option Crs
 | none,y=>y
 | x,none=>x
 | some a,some b=>some (j1f a b)
theorem j3l(a b c:Crs):j1f (j1f a b) c=j1f a (j1f b c):=by
 by_cases h1:q1q b.1 a.1<;>by_cases h2:q1q c.1 b.1<;>by_cases h3:q1q c.1 a.1
 all_goals first
  | (simp[j1f,h1,h2,h3];done)
  | (exfalso;unfold q1q at h1 h2 h3;omega)
theorem k7d(x y z:Option Crs):q7l (q7l x y) z=q7l x (q7l y z):=by
 cases x<;>cases y<;>cases z<;>simp[q7l,j3l]
def fm:List Crs->Option Crs
 | []=>none
 | a::l=>q7l (some a) (fm l)
theorem j8h:∀l m:List Crs,fm (l++m)=q7l (fm l) (fm m)
 | [],m=>by cases h:fm m<;>simp[fm,q7l,h]
 | a::l,m=>by rw[List.cons_append,fm,fm,j8h l m,k7d]
def q5q(o l:Nat)(u:List Int)(a:Crs):Crs:=((o+a.1.1,l+a.1.2),u++a.2)
theorem k2s(o l:Nat)(u:List Int)(a b:Crs):q1q (q5q o l u b).1 (q5q o l u a).1↔q1q b.1 a.1:=by
 unfold q1q q5q;dsimp only;omega
theorem v1o(o l:Nat)(u:List Int)(a b:Crs):j1f (q5q o l u a) (q5q o l u b)=q5q o l u (j1f a b):=by
 unfold j1f;by_cases h:q1q b.1 a.1
 ·rw[if_pos h,if_pos ((k2s o l u a b).2 h)]
 ·rw[if_neg h,if_neg fun k=>h ((k2s o l u a b).1 k)]
theorem z2g(o l:Nat)(u:List Int):∀az:List Crs,fm (az.map (q5q o l u))=(fm az).map (q5q o l u)
 | []=>rfl
 | a::az=>by
  rw[List.map_cons,fm,z2g o l u az,fm];cases fm az with
  | none=>rfl
  | some b=>simp[q7l,v1o]
theorem j8i:∀{l:List Crs},fm l=none->l=[]
 | [],_=>rfl
 | a::l,h=>by
  rw[fm]at h;cases hl:fm l<;>rw[hl]at h<;>simp[q7l]at h
theorem z0l:∀{l:List Crs}{a:Crs},fm l=some a->∃(p q:List Crs),l=p++a::q/\(∀b∈p,q1q a.1 b.1)/\∀b∈q,¬q1q b.1 a.1
 | b::l,a,h=>by
  rw[fm]at h;cases hl:fm l with
  | none=>
   rw[hl]at h;obtain rfl:=j8i hl;simp only[q7l,Option.some.injEq]at h;subst h;exact⟨[],[],rfl,by simp,by simp⟩
  | some c=>
   rw[hl]at h;obtain⟨p,q,rfl,h1,h2⟩:=z0l hl;simp only[q7l,Option.some.injEq,j1f]at h
   split at h
   ·rename_i hlt;subst h;refine⟨b::p,q,rfl,fun d hd=>?_,h2⟩;rcases List.mem_cons.1 hd with rfl|hd
    ·exact hlt
    ·exact h1 d hd
   ·rename_i hlt;subst h;refine⟨[],p++c::q,rfl,by simp,fun d hd=>?_⟩;rcases List.mem_append.1 hd with hd|hd
    ·have:=h1 d hd
     unfold q1q at *;omega
    ·rcases List.mem_cons.1 hd with rfl|hd
     ·exact hlt
     ·have:=h2 d hd
      unfold q1q at *;omega
def Tr.outs:Tr->Nat->List (List UInt8 × List Int)
 | .leaf x,deep=>[(if x.op=1 then x.tx.data.toList else if x.op=5 then []else 10::List.replicate deep 32,[])]
 | .one x a,deep=>if x.op=7 then a.outs (deep+x.n.toNat)else(match a.flat with|none=>[]|some s=>[(s,[0])])++(a.outs deep).map fun p=>(p.1,1::p.2)
 | .two x a b,deep=>if x.op=6 then(a.outs deep).flatMap fun p=>(b.outs deep).map fun q=>(p.1++q.1,p.2++q.2)else((a.outs deep).map fun p=>(p.1,0::p.2))++(b.outs deep).map fun p=>(p.1,1::p.2)
theorem q3n:∀(t:Tr)(deep:Nat),(t.outs deep).map (·.2)=t.ways
 | .leaf x,deep=>by simp[Tr.outs,Tr.ways]
 | .one x a,deep=>by
  simp only[Tr.outs,Tr.ways]
  split
  ·exact q3n a _
  ·rw[List.map_append,<-q3n a deep]
   congr 1
   ·cases h:a.flat<;>simp[Tr.isFlat,h]
   ·rw[List.map_map,List.map_map];rfl
 | .two x a b,deep=>by
  simp only[Tr.outs,Tr.ways]
  split
  ·rw[<-q3n a deep,<-q3n b deep,List.map_flatMap,List.flatMap_map]
   congr 1
   funext p
   rw[List.map_map,List.map_map];rfl
  ·rw[<-q3n a deep,<-q3n b deep,List.map_append,List.map_map,List.map_map,List.map_map,List.map_map];rfl
theorem q6t:∀(t:Tr)(deep:Nat)(p:List UInt8 × List Int),p∈t.outs deep->∀r,t.lay deep (p.2++r)=.ok (p.1,r)
 | .leaf x,deep,p,h,r=>by
  simp only[Tr.outs,List.mem_singleton]at h;subst h;simp only[Tr.lay,List.nil_append]
  split
  ·rfl
  ·split<;>rfl
 | .one x a,deep,p,h,r=>by
  simp only[Tr.outs]at h;simp only[Tr.lay]
  split at h
  ·rename_i h7;rw[if_pos h7];exact q6t a _ p h r
  ·rename_i h7;rw[if_neg h7];rcases List.mem_append.1 h with h|h
   ·cases hf:a.flat with
    | none=>rw[hf]at h;simp at h
    | some s=>
     rw[hf]at h;simp only[List.mem_singleton]at h;subst h;simp
   ·obtain⟨q,hq,rfl⟩:=List.mem_map.1 h;simp only[List.cons_append,if_pos];exact q6t a deep q hq r
 | .two x a b,deep,p,h,r=>by
  simp only[Tr.outs]at h;simp only[Tr.lay]
  split at h
  ·rename_i h6;rw[if_pos h6];obtain⟨u,hu,hp⟩:=List.mem_flatMap.1 h;obtain⟨v,hv,rfl⟩:=List.mem_map.1 hp;dsimp only;rw[List.append_assoc,q6t a deep u hu (v.2++r)];dsimp only;rw[q6t b deep v hv r]
  ·rename_i h6;rw[if_neg h6];rcases List.mem_append.1 h with h|h
   ·obtain⟨q,hq,rfl⟩:=List.mem_map.1 h;simp only[List.cons_append,if_pos];exact q6t a deep q hq r
   ·obtain⟨q,hq,rfl⟩:=List.mem_map.1 h;simp only[List.cons_append];rw[if_neg (by decide)];exact q6t b deep q hq r
def q5d:List (Nat × Tr)->List (List UInt8 × List Int)
 | []=>[([],[])]
 | (d,t)::ks=>(t.outs d).flatMap fun p=>(q5d ks).map fun q=>(p.1++q.1,p.2++q.2)
def q3s(wd c:Nat)(ks:List (Nat × Tr)):List Crs:=(q5d ks).map fun p=>(((q1n wd c p.1).1,(q1n wd c p.1).2.1),p.2)
def bst(wd c:Nat)(ks:List (Nat × Tr)):Option Crs:=fm (q3s wd c ks)
theorem y4h(wd c:Nat):bst wd c []=some ((0,0),[]):=by simp[bst,q3s,q5d,q1n,fm,q7l]
theorem z7m(wd c:Nat)(s:List UInt8)(u:List Int)(ks:List (Nat × Tr)):((q5d ks).map fun q=>(s++q.1,u++q.2)).map (fun p=>(((q1n wd c p.1).1,(q1n wd c p.1).2.1),p.2))=(q3s wd (q1n wd c s).2.2 ks).map (q5q (q1n wd c s).1 (q1n wd c s).2.1 u):=by
 unfold q3s;rw[List.map_map,List.map_map]
 congr 1
 funext q
 simp only[Function.comp,z3t,q5q]
theorem z8u(wd c d:Nat)(x:Nd)(ks:List (Nat × Tr))(s:List UInt8)(hs:s=if x.op=1 then x.tx.data.toList else if x.op=5 then []else 10::List.replicate d 32):
  bst wd c ((d,.leaf x)::ks)=(bst wd (q1n wd c s).2.2 ks).map (q5q (q1n wd c s).1 (q1n wd c s).2.1 []):=by
 unfold bst;rw[<-z2g,<-z7m,q3s,q5d,Tr.outs,<-hs];simp
theorem v5n(wd c d:Nat)(x:Nd)(a:Tr)(ks:List (Nat × Tr))(h:x.op=7):bst wd c ((d,.one x a)::ks)=bst wd c ((d+x.n.toNat,a)::ks):=by
 unfold bst q3s;rw[q5d,q5d,Tr.outs,if_pos h]
theorem z5d(wd c d:Nat)(k:Int)(a:Tr)(ks:List (Nat × Tr)):((((a.outs d).map fun p=>(p.1,k::p.2)).flatMap fun p=>(q5d ks).map fun q=>(p.1++q.1,p.2++q.2)).map (fun p=>(((q1n wd c p.1).1,(q1n wd c p.1).2.1),p.2)))=(q3s wd c ((d,a)::ks)).map (q5q 0 0 [k]):=by
 unfold q3s;rw[q5d,List.flatMap_map,List.map_map,List.map_flatMap,List.map_flatMap]
 congr 1
 funext p
 rw[List.map_map,List.map_map]
 congr 1
 funext q
 simp[Function.comp,q5q]
theorem k1w(wd c d:Nat)(x:Nd)(a:Tr)(ks:List (Nat × Tr))(h:x.op≠7):
  bst wd c ((d,.one x a)::ks)=q7l (match a.flat with|none=>none|some s=>(bst wd (q1n wd c s).2.2 ks).map (q5q (q1n wd c s).1 (q1n wd c s).2.1 [0])) ((bst wd c ((d,a)::ks)).map (q5q 0 0 [1])):=by
 unfold bst;rw[<-z2g,<-z5d];rw[q3s,q5d,Tr.outs,if_neg h,List.flatMap_append,List.map_append,j8h]
 congr 1
 cases hf:a.flat with
 | none=>rfl
 | some s=>
  dsimp only;rw[<-z2g,<-z7m];simp
theorem v5m(wd c d:Nat)(x:Nd)(a b:Tr)(ks:List (Nat × Tr))(h:x.op=6):bst wd c ((d,.two x a b)::ks)=bst wd c ((d,a)::(d,b)::ks):=by
 unfold bst q3s;rw[q5d,q5d,q5d,Tr.outs,if_pos h,List.flatMap_assoc]
 congr 2
 congr 1
 funext p
 rw[List.flatMap_map,List.map_flatMap]
 congr 1
 funext q
 rw[List.map_map]
 congr 1
 funext z
 simp[Function.comp,List.append_assoc]
theorem j2j(wd c d:Nat)(x:Nd)(a b:Tr)(ks:List (Nat × Tr))(h:x.op≠6):
  bst wd c ((d,.two x a b)::ks)=q7l ((bst wd c ((d,a)::ks)).map (q5q 0 0 [0])) ((bst wd c ((d,b)::ks)).map (q5q 0 0 [1])):=by
 unfold bst;rw[<-z2g,<-z2g,<-z5d,<-z5d,q3s,q5d,Tr.outs,if_neg h,List.flatMap_append,List.map_append,j8h]
theorem y7q(t:Tr)(deep:Nat):t.outs deep≠[]:=fun h=>by
 have:=q3n t deep
 rw[h]at this;exact z6c t this.symm
theorem j0w:∀ks:List (Nat × Tr),q5d ks≠[]
 | []=>by simp[q5d]
 | (d,t)::ks=>by
  have h1:=y7q t d;have h2:=j0w ks;obtain⟨p,ps,e⟩:=List.exists_cons_of_ne_nil h1;rw[q5d,e];simp[h2]
theorem k9i(wd c:Nat)(ks:List (Nat × Tr)):∃a,bst wd c ks=some a:=by
 cases h:bst wd c ks with
 | some a=>exact⟨a,rfl⟩
 | none=>
  have:=j8i h
  unfold q3s at this;exact absurd (List.map_eq_nil_iff.1 this) (j0w ks)
theorem z2c(wd:Nat):∀(c:Nat)(s:List UInt8),(q1n (wd+1) c s).1<=(q1n wd c s).1/\(q1n (wd+1) c s).2=(q1n wd c s).2
 | c,[]=>by simp[q1n]
 | c,b::s=>by
  simp only[q1n]
  split
  ·have h:=z2c wd 0 s;exact⟨h.1,by rw[h.2]⟩
  ·have h:=z2c wd (c+1) s;refine⟨?_,by rw[h.2]⟩
   have:=h.1
   split<;>split<;>omega
theorem j6i(wd c:Nat)(ks:List (Nat × Tr))(a b:Crs)(ha:bst wd c ks=some a)(hb:bst (wd+1) c ks=some b):¬q1q a.1 b.1:=by
 obtain⟨p,q,e,_,_⟩:=z0l ha;have hin:a∈q3s wd c ks:=by rw[e];simp
 obtain⟨x,hx,rfl⟩:=List.mem_map.1 hin;obtain⟨p',q',e',h1,h2⟩:=z0l hb;have hin':((((q1n (wd+1) c x.1).1,(q1n (wd+1) c x.1).2.1),x.2):Crs)∈q3s (wd+1) c ks:=List.mem_map.2 ⟨x,hx,rfl⟩;obtain⟨w1,w2⟩:=z2c wd c x.1
 have hn:¬q1q ((q1n (wd+1) c x.1).1,(q1n (wd+1) c x.1).2.1) b.1:=by
  rw[e']at hin';rcases List.mem_append.1 hin' with h|h
  ·have:=h1 _ h
   unfold q1q at *;dsimp only at *;omega
  ·rcases List.mem_cons.1 h with h|h
   ·rw[<-h];unfold q1q;dsimp only;omega
   ·exact h2 _ h
 rw[w2]at hn;unfold q1q at *;dsimp only at *;omega
def Tr.txt(t:Tr)(u:List Int):List UInt8:=match t.show u with| .ok s=>s| .error _=>[]
theorem v1h{t:Tr}{p:List UInt8 × List Int}(h:p∈t.outs 0):t.show p.2=.ok p.1:=by
 have hw:p.2∈t.ways:=by rw[<-q3n t 0];exact List.mem_map.2 ⟨p,h,rfl⟩
 have hl:=q6t t 0 p h [];rw[List.append_nil]at hl;unfold Tr.show;rw[if_pos (j2b.2 (q8e t _ hw)),hl]
theorem v8q{t:Tr}{p:List UInt8 × List Int}(h:p∈t.outs 0):t.txt p.2=p.1:=by rw[Tr.txt,v1h h]
def Tr.cst(t:Tr)(wd:Nat)(u:List Int):Nat × Nat:=((q1n wd 0 (t.txt u)).1,(q1n wd 0 (t.txt u)).2.1)
theorem j3a(t:Tr)(wd:Nat):q3s wd 0 [(0,t)]=t.ways.map fun u=>(t.cst wd u,u):=by
 have h1:q5d [(0,t)]=t.outs 0:=by simp[q5d]
 unfold q3s;rw[h1,<-q3n t 0,List.map_map];refine List.map_congr_left fun p hp=>?_
 simp only[Function.comp,Tr.cst,v8q hp]
def Tr.best(t:Tr)(wd:Nat):Option Crs:=fm (t.ways.map fun u=>(t.cst wd u,u))
theorem q6m(t:Tr)(wd:Nat):t.best wd=bst wd 0 [(0,t)]:=by rw[Tr.best,<-j3a];rfl
theorem j5x(t:Tr)(wd:Nat):∃a,t.best wd=some a:=by rw[q6m];exact k9i wd 0 _
theorem z6z:∀u:List Int,¬q2t u u
 | []=>by simp[q2t]
 | a::u=>by simp only[q2t,if_pos];exact z6z u
theorem z4k:∀{u v:List Int},q2t u v->¬q2t v u
 | a::u,b::v,h=>by
  simp only[q2t]at h⊢;by_cases e:a=b
  ·subst e;rw[if_pos rfl]at h⊢;exact z4k h
  ·rw[if_neg e]at h;rw[if_neg fun k=>e k.symm];omega
theorem q3t{t:Tr}{wd:Nat}{a:Crs}(h:t.best wd=some a):a.2∈t.ways/\t.show a.2=.ok (t.txt a.2)/\a.1=t.cst wd a.2/\∀w∈t.ways,¬q1q (t.cst wd w) a.1/\(t.cst wd w=a.1->¬q2t w a.2):=by
 obtain⟨p,q,e,h1,h2⟩:=z0l h;obtain⟨p',r,e1,e2,e3⟩:=List.map_eq_append_iff.1 e;obtain⟨x,q',e4,e5,e6⟩:=List.map_eq_cons_iff.1 e3;subst e4 e2 e6 e5;have hin:x∈t.ways:=by rw[e1];simp
 have hr:=z1n t;rw[e1]at hr;refine⟨hin,?_,rfl,fun w hw=>?_⟩
 ·obtain⟨s,hs⟩:=(z5s t x).2 hin;simp only[Tr.txt,hs]
 ·rw[e1]at hw;dsimp only;rcases List.mem_append.1 hw with hw|hw
  ·have:=h1 _ (List.mem_map.2 ⟨w,hw,rfl⟩)
   dsimp only at this;refine⟨?_,fun k=>?_⟩
   ·unfold q1q at *;omega
   ·rw[k]at this;unfold q1q at this;omega
  ·rcases List.mem_cons.1 hw with rfl|hw
   ·refine⟨?_,fun _=>z6z _⟩;unfold q1q;omega
   ·refine⟨h2 _ (List.mem_map.2 ⟨w,hw,rfl⟩),fun _=>z4k ?_⟩;exact(List.pairwise_cons.1 (List.pairwise_append.1 hr).2.1).1 w hw
theorem q7x:∀(t t':Tr)(r r':List Nd),t.Wf->t'.Wf->t.N++r=t'.N++r'->t=t'/\r=r'
 | .leaf x,t',r,r',h,h',e=>by
  cases t' with
  | leaf y=>simp only[Tr.N,List.cons_append,List.nil_append,List.cons.injEq]at e;exact⟨by rw[e.1],e.2⟩
  | one y a=>
   simp only[Tr.N,List.cons_append,List.nil_append,List.cons.injEq]at e;have h1:=h.2;have h2:=h'.2.1;rw[e.1,h2]at h1;cases h1
  | two y a b=>
   simp only[Tr.N,List.cons_append,List.nil_append,List.cons.injEq]at e;have h1:=h.2;have h2:=h'.2.1;rw[e.1,h2]at h1;cases h1
 | .one x a,t',r,r',h,h',e=>by
  cases t' with
  | leaf y=>
   simp only[Tr.N,List.cons_append,List.nil_append,List.cons.injEq]at e;have h1:=h.2.1;have h2:=h'.2;rw[e.1,h2]at h1;cases h1
  | one y a'=>
   simp only[Tr.N,List.cons_append,List.cons.injEq]at e;obtain⟨e1,e2⟩:=q7x a a' r r' h.2.2 h'.2.2 e.2;exact⟨by rw[e.1,e1],e2⟩
  | two y a' b=>
   simp only[Tr.N,List.cons_append,List.cons.injEq]at e;have h1:=h.2.1;have h2:=h'.2.1;rw[e.1,h2]at h1;cases h1
 | .two x a b,t',r,r',h,h',e=>by
  cases t' with
  | leaf y=>
   simp only[Tr.N,List.cons_append,List.nil_append,List.cons.injEq]at e;have h1:=h.2.1;have h2:=h'.2;rw[e.1,h2]at h1;cases h1
  | one y a'=>
   simp only[Tr.N,List.cons_append,List.cons.injEq]at e;have h1:=h.2.1;have h2:=h'.2.1;rw[e.1,h2]at h1;cases h1
  | two y a' b'=>
   simp only[Tr.N,List.cons_append,List.append_assoc,List.cons.injEq]at e;obtain⟨e1,e2⟩:=q7x a a' _ _ h.2.2.1 h'.2.2.1 e.2;obtain⟨e3,e4⟩:=q7x b b' r r' h.2.2.2 h'.2.2.2 e2;exact⟨by rw[e.1,e1,e3],e4⟩
theorem v0q{t t':Tr}(h:t.Wf)(h':t'.Wf)(e:t.N=t'.N):t=t':=(q7x t t' [] [] h h' (by rw[e])).1
noncomputable def v6a(ds:List Nd)(h:q3a ds=0):Tr:=Classical.choose (z8z h)
theorem q7q{ds:List Nd}(h:q3a ds=0):(v6a ds h).Wf:=(Classical.choose_spec (z8z h)).1
theorem q3b{ds:List Nd}(h:q3a ds=0):ds=(v6a ds h).N:=(Classical.choose_spec (z8z h)).2
theorem z8y{ds:List Nd}(h:q3a ds=0){t:Tr}(ht:t.Wf)(e:ds=t.N):v6a ds h=t:=v0q (q7q h) ht ((q3b h).symm.trans e)
open Classical in
noncomputable def flS(ds:List Nd):ByteArray:=if h:q3a ds=0 then(v6a ds h).line else⟨#[]⟩
open Classical in
noncomputable def flB(ds:List Nd):Bool:=if h:q3a ds=0 then(v6a ds h).isFlat else false
theorem j8b{ds:List Nd}{t:Tr}(ht:t.Wf)(e:ds=t.N)(hl:ds.length<=400):q3a ds=0/\flS ds=t.line/\flB ds=t.isFlat:=by
 have h:q3a ds=0:=by rw[e];exact z1k ht (by rw[<-e];exact hl)
 refine⟨h,?_,?_⟩
 ·rw[flS,dif_pos h,z8y h ht e]
 ·rw[flB,dif_pos h,z8y h ht e]
theorem g0o{ds:List Nd}(h:q3a ds≠0):flS ds=⟨#[]⟩/\flB ds=false:=⟨by rw[flS,dif_neg h],by rw[flB,dif_neg h]⟩
theorem j9v{x:Nd}{a c:Tr}(h:x.op=6):Tr.line (.two x a c)=(if(a.isFlat&&c.isFlat)=true then a.line++c.line else⟨#[]⟩)/\Tr.isFlat (.two x a c)=(a.isFlat&&c.isFlat):=by
 unfold Tr.line Tr.isFlat;simp only[Tr.flat,if_pos h];cases ha:a.flat with
 | none=>simp
 | some s=>
  cases hc:c.flat with
  | none=>simp
  | some t=>exact⟨k1x (by simp),by simp⟩
theorem z4r(wd:Nat):∀(s:List UInt8)(c c':Nat),wd<=c->wd<=c'->(q1n wd c s).1=(q1n wd c' s).1/\(q1n wd c s).2.1=(q1n wd c' s).2.1
 | [],c,c',_,_=>⟨rfl,rfl⟩
 | b::s,c,c',h,h'=>by
  by_cases hb:b=10
  ·simp only[q1n,if_pos hb,and_self]
  ·simp only[q1n,if_neg hb,if_pos h,if_pos h'];obtain⟨e1,e2⟩:=z4r wd s (c+1) (c'+1) (by omega) (by omega);exact⟨by rw[e1],e2⟩
theorem k9o(wd c:Nat)(s:List UInt8):(q1n wd c s).1=(q1n wd (min c wd) s).1/\(q1n wd c s).2.1=(q1n wd (min c wd) s).2.1:=by
 rcases Nat.le_total c wd with h|h
 ·rw[Nat.min_eq_left h];exact⟨rfl,rfl⟩
 ·rw[Nat.min_eq_right h];exact z4r wd s c wd h Zl
theorem y4g(wd c:Nat)(ks:List (Nat × Tr)):bst wd c ks=bst wd (min c wd) ks:=by
 unfold bst q3s
 congr 2
 funext p
 rw[(k9o wd c p.1).1,(k9o wd c p.1).2]
theorem z0f(wd:Nat):∀(s:List UInt8)(c:Nat),(∀b∈s,b≠10)->q1n wd c s=((c+s.length-wd)-(c-wd),0,c+s.length)
 | [],c,_=>by simp[q1n]
 | b::s,c,h=>by
  have hb:b≠10:=h b (by simp);simp only[q1n,if_neg hb,z0f wd s (c+1) (fun x hx=>h x (by simp[hx])),List.length_cons,Prod.mk.injEq,true_and];refine⟨?_,by omega⟩
  split<;>omega
theorem k1z(wd c d:Nat):q1n wd c (10::List.replicate d 32)=(d-wd,1,d):=by
 simp only[q1n,if_pos];rw[z0f wd (List.replicate d 32) 0 (by intro b hb;rw[(List.mem_replicate.1 hb).2];decide)];simp
/-! ### How much a way may cost at most -/
def Tr.lf:Tr->Nat
 | .leaf _=>1
 | .one _ a=>a.lf
 | .two _ a b=>a.lf+b.lf
def Tr.dsum:Tr->Nat
 | .leaf _=>0
 | .one _ a=>8+a.dsum
 | .two _ a b=>a.dsum+b.dsum
theorem q7v:∀t:Tr,8*t.lf+t.dsum<=8*t.N.length
 | .leaf _=>by simp[Tr.lf,Tr.dsum,Tr.N]
 | .one _ a=>by have:=q7v a;simp only[Tr.lf,Tr.dsum,Tr.N,List.length_cons];omega
 | .two _ a b=>by have:=q7v a;have:=q7v b;simp only[Tr.lf,Tr.dsum,Tr.N,List.length_cons,List.length_append];omega
theorem q9h:∀(t:Tr)(s:List UInt8),t.Wf->t.flat=some s->s.length<=20*t.lf
 | .leaf x,s,h,e=>by
  obtain⟨_,_,_,_,h5,_⟩:=q2b h.1;simp only[Tr.flat]at e;simp only[Tr.lf]
  split at e
  ·rename_i h1;cases e
   have:=q4q (h5 h1)
   have e:=q1a x.tx;omega
  ·split at e
   ·cases e;simp
   ·split at e
    ·cases e
    ·cases e;simp
 | .one x a,s,h,e=>q9h a s h.2.2 e
 | .two x a b,s,h,e=>by
  simp only[Tr.flat]at e;simp only[Tr.lf]
  split at e
  ·cases ha:a.flat with
   | none=>rw[ha]at e;cases e
   | some u=>
    cases hb:b.flat with
    | none=>rw[ha,hb]at e;cases e
    | some v=>
     rw[ha,hb]at e;cases e
     have:=q9h a u h.2.2.1 ha
     have:=q9h b v h.2.2.2 hb
     rw[List.length_append];omega
  ·have:=q9h a s h.2.2.1 e
   omega
theorem q6u:∀(t:Tr)(d:Nat)(p:List UInt8 × List Int),t.Wf->p∈t.outs d->p.1.length<=t.lf*(21+d+t.dsum)
 | .leaf x,d,p,h,hp=>by
  obtain⟨_,_,_,_,h5,_⟩:=q2b h.1;simp only[Tr.outs,List.mem_singleton]at hp;subst hp;simp only[Tr.lf,Tr.dsum]
  split
  ·rename_i h1
   have:=q4q (h5 h1)
   have e:=q1a x.tx;omega
  ·split
   ·simp
   ·simp;omega
 | .one x a,d,p,h,hp=>by
  obtain⟨_,_,_,_,_,h6⟩:=q2b h.1;simp only[Tr.outs]at hp;simp only[Tr.lf,Tr.dsum]
  split at hp
  ·rename_i h7;have h1:=q6u a _ p h.2.2 hp;have h2:a.lf*(21+(d+x.n.toNat)+a.dsum)<=a.lf*(21+d+(8+a.dsum)):=Nat.mul_le_mul_left _ (by have:=h6 h7;omega);omega
  ·rcases List.mem_append.1 hp with hp|hp
   ·cases hf:a.flat with
    | none=>rw[hf]at hp;simp at hp
    | some s=>
     rw[hf]at hp;simp only[List.mem_singleton]at hp;subst hp;have h1:=q9h a s h.2.2 hf;have h2:a.lf*20<=a.lf*(21+d+(8+a.dsum)):=Nat.mul_le_mul_left _ (by omega);dsimp only;omega
   ·obtain⟨q,hq,rfl⟩:=List.mem_map.1 hp;have h1:=q6u a d q h.2.2 hq;have h2:a.lf*(21+d+a.dsum)<=a.lf*(21+d+(8+a.dsum)):=Nat.mul_le_mul_left _ (by omega);dsimp only;omega
 | .two x a b,d,p,h,hp=>by
  simp only[Tr.outs]at hp;simp only[Tr.lf,Tr.dsum];have ma:a.lf*(21+d+a.dsum)<=a.lf*(21+d+(a.dsum+b.dsum)):=Nat.mul_le_mul_left _ (by omega);have mb:b.lf*(21+d+b.dsum)<=b.lf*(21+d+(a.dsum+b.dsum)):=Nat.mul_le_mul_left _ (by omega);rw[Nat.add_mul]
  split at hp
  ·obtain⟨u,hu,hp⟩:=List.mem_flatMap.1 hp;obtain⟨v,hv,rfl⟩:=List.mem_map.1 hp;have h1:=q6u a d u h.2.2.1 hu;have h2:=q6u b d v h.2.2.2 hv;simp only[List.length_append];omega
  ·rcases List.mem_append.1 hp with hp|hp
   ·obtain⟨q,hq,rfl⟩:=List.mem_map.1 hp;have h1:=q6u a d q h.2.2.1 hq;dsimp only;omega
   ·obtain⟨q,hq,rfl⟩:=List.mem_map.1 hp;have h1:=q6u b d q h.2.2.2 hq;dsimp only;omega
def lfK:List (Nat × Tr)->Nat
 | []=>0
 | (_,t)::ks=>t.lf+lfK ks
def KB(M:Nat)(ks:List (Nat × Tr)):Prop:=∀p∈ks,p.1+p.2.dsum<=M/\p.2.Wf
theorem k3u(M:Nat):∀(ks:List (Nat × Tr))(p:List UInt8 × List Int),KB M ks->p∈q5d ks->p.1.length<=lfK ks*(21+M)
 | [],p,_,hp=>by simp only[q5d,List.mem_singleton]at hp;subst hp;simp
 | (d,t)::ks,p,hk,hp=>by
  rw[q5d]at hp;obtain⟨u,hu,hp⟩:=List.mem_flatMap.1 hp;obtain⟨v,hv,rfl⟩:=List.mem_map.1 hp;obtain⟨k1,k2⟩:=hk (d,t) (by simp);have h1:=q6u t d u k2 hu;have h2:=k3u M ks v (fun q hq=>hk q (by simp[hq])) hv;have h3:t.lf*(21+d+t.dsum)<=t.lf*(21+M):=Nat.mul_le_mul_left _ (by dsimp only at k1;omega);simp only[lfK,List.length_append,Nat.add_mul];omega
theorem k5s(wd:Nat):∀(s:List UInt8)(c:Nat),(q1n wd c s).1<=s.length/\(q1n wd c s).2.1<=s.length
 | [],c=>by simp[q1n]
 | b::s,c=>by
  simp only[q1n,List.length_cons]
  split
  ·have:=k5s wd s 0
   dsimp only;omega
  ·have:=k5s wd s (c+1)
   dsimp only
   split<;>omega
def bs(wd c:Nat)(ks:List (Nat × Tr)):Crs:=(bst wd c ks).getD ((0,0),[])
theorem q2i(wd c:Nat)(ks:List (Nat × Tr)):bst wd c ks=some (bs wd c ks):=by
 obtain⟨a,h⟩:=k9i wd c ks;rw[bs,h];rfl
theorem y9q(wd c M:Nat)(ks:List (Nat × Tr))(h:KB M ks):(bs wd c ks).1.1<=lfK ks*(21+M)/\(bs wd c ks).1.2<=lfK ks*(21+M):=by
 obtain⟨p,q,e,_,_⟩:=z0l (q2i wd c ks);have hin:bs wd c ks∈q3s wd c ks:=by rw[e];simp
 obtain⟨x,hx,hxe⟩:=List.mem_map.1 hin;rw[<-hxe];have h1:=k3u M ks x h hx;have h2:=k5s wd x.1 c;dsimp only;omega
theorem most:∀D,D<401->(400-D)*(21+8*D)<=400000:=by
 set_option maxRecDepth 100000 in decide
theorem v0i{L M n:Nat}(h:8*L+M<=8*n)(hn:n<=400):L*(21+M)<=400000:=by
 have h1:=most ((M+7) / 8) (by omega);have h2:L*(21+M)<=(400-(M+7) / 8)*(21+8*((M+7) / 8)):=Nat.mul_le_mul (by omega) (by omega);omega
theorem y9r(wd c:Nat):bs wd c []=((0,0),[]):=by rw[bs,y4h];rfl
theorem j6g(wd c:Nat)(ks:List (Nat × Tr)):bs wd c ks=bs wd (min c wd) ks:=by rw[bs,y4g];rfl
theorem y4e{wd c d:Nat}{x:Nd}{ks:List (Nat × Tr)}(hx:q0u x=0)(h:x.op=1)(hc:c<=wd):bs wd c ((d,.leaf x)::ks)=q5q (c+x.tx.size-wd) 0 [] (bs wd (min (c+x.tx.size) wd) ks):=by
 have hs:∀b∈x.tx.data.toList,b≠10:=v4a hx h;have e:=z8u wd c d x ks x.tx.data.toList (by rw[if_pos h]);rw[z0f wd _ c hs,q1a,q2i,q2i wd (c+x.tx.size),Option.map_some,Option.some.injEq,j6g wd (c+x.tx.size)]at e;rw[e,Nat.sub_eq_zero_of_le hc,Nat.sub_zero]
theorem y4d{wd c d:Nat}{x:Nd}{ks:List (Nat × Tr)}(h:x.op≠1/\x.op≠5):bs wd c ((d,.leaf x)::ks)=q5q (d-wd) 1 [] (bs wd (min d wd) ks):=by
 have e:=z8u wd c d x ks (10::List.replicate d 32) (by rw[if_neg h.1,if_neg h.2]);rw[k1z,q2i,q2i wd d,Option.map_some,Option.some.injEq,j6g wd d]at e;exact e
theorem y4f{wd c d:Nat}{x:Nd}{ks:List (Nat × Tr)}(h:x.op=5):bs wd c ((d,.leaf x)::ks)=q5q 0 0 [] (bs wd c ks):=by
 have e:=z8u wd c d x ks [] (by rw[if_neg (by omega),if_pos h]);rw[q2i,q1n,q2i wd c ks,Option.map_some,Option.some.injEq]at e;exact e
theorem y4a{wd c d:Nat}{x:Nd}{a:Tr}{ks:List (Nat × Tr)}(h:x.op=7):bs wd c ((d,.one x a)::ks)=bs wd c ((d+x.n.toNat,a)::ks):=by rw[bs,v5n wd c d x a ks h];rfl
theorem y3z{wd c d:Nat}{x:Nd}{a b:Tr}{ks:List (Nat × Tr)}(h:x.op=6):bs wd c ((d,.two x a b)::ks)=bs wd c ((d,a)::(d,b)::ks):=by rw[bs,v5m wd c d x a b ks h];rfl
theorem j6f{wd c d:Nat}{x:Nd}{a b:Tr}{ks:List (Nat × Tr)}(h:x.op≠6):bs wd c ((d,.two x a b)::ks)=j1f (q5q 0 0 [0] (bs wd c ((d,a)::ks))) (q5q 0 0 [1] (bs wd c ((d,b)::ks))):=by
 have e:=j2j wd c d x a b ks h;rw[q2i,q2i wd c ((d,a)::ks),q2i wd c ((d,b)::ks),Option.map_some,Option.map_some,q7l,Option.some.injEq]at e;exact e
theorem v5k{wd c d:Nat}{x:Nd}{a:Tr}{ks:List (Nat × Tr)}{s:List UInt8}(h:x.op≠7)(ha:a.Wf)(hf:a.flat=some s)(hc:c<=wd):
  bs wd c ((d,.one x a)::ks)=j1f (q5q (c+s.length-wd) 0 [0] (bs wd (min (c+s.length) wd) ks)) (q5q 0 0 [1] (bs wd c ((d,a)::ks))):=by
 have e:=k1w wd c d x a ks h;rw[hf]at e;dsimp only at e;rw[z0f wd _ c (q6b a s ha hf),q2i,q2i wd (c+s.length),q2i wd c ((d,a)::ks),Option.map_some,Option.map_some,q7l,Option.some.injEq,j6g wd (c+s.length)]at e;rw[e,Nat.sub_eq_zero_of_le hc,Nat.sub_zero]
theorem y4c{wd c d:Nat}{x:Nd}{a:Tr}{ks:List (Nat × Tr)}(h:x.op≠7)(hf:a.flat=none):bs wd c ((d,.one x a)::ks)=q5q 0 0 [1] (bs wd c ((d,a)::ks)):=by
 have e:=k1w wd c d x a ks h;rw[hf]at e;dsimp only at e;rw[q2i,q2i wd c ((d,a)::ks),Option.map_some,q7l,Option.some.injEq]at e;exact e
def z2k(f g:Nat->List Int->Except Int (List UInt8 × List Int))(deep:Nat)(ws:List Int):Except Int (List UInt8 × List Int):=
 match f deep ws with
 | .error e=>.error e
 | .ok (s,ws1)=>match g deep ws1 with
  | .error e=>.error e
  | .ok (t,ws2)=>.ok (s++t,ws2)
def z0q(f:Nat->List Int->Except Int (List UInt8 × List Int))(sA:ByteArray)(fl:Bool)(deep:Nat)(ws:List Int):Except Int (List UInt8 × List Int):=
 match ws with
 | []=>.error 2
 | c::ws=>if c=1 then f deep ws else if fl=true then .ok (sA.data.toList,ws)else .error 4
def q7t(f g:Nat->List Int->Except Int (List UInt8 × List Int))(deep:Nat)(ws:List Int):Except Int (List UInt8 × List Int):=
 match ws with
 | []=>.error 2
 | c::ws=>if c=0 then f deep ws else g deep ws
theorem v6n{t:Tr}{s:List UInt8}(h:t.Wf)(e:t.flat=some s):s.length<=20*t.N.length:=by
 have:=z4z t h
 rw[e]at this;exact this
theorem q7u:∀(t:Tr)(deep:Nat)(ws:List Int)(u:List UInt8)(v:List Int),t.Wf->t.lay deep ws=.ok (u,v)->deep+8*t.N.length<=3300->u.length<=4000*t.N.length
 | .leaf x,deep,ws,u,v,h,e,hd=>by
  obtain⟨_,_,_,_,h5,_⟩:=q2b h.1;simp only[Tr.lay]at e;simp only[Tr.N,List.length_cons,List.length_nil]at hd⊢
  split at e
  ·rename_i h1;cases e
   have:=q4q (h5 h1)
   rw[q1a];omega
  ·split at e
   ·cases e;simp
   ·cases e;simp;omega
 | .one x a,deep,ws,u,v,h,e,hd=>by
  obtain⟨_,_,_,_,_,h6⟩:=q2b h.1;simp only[Tr.lay]at e;simp only[Tr.N,List.length_cons]at hd⊢
  split at e
  ·rename_i h7
   have:=h6 h7
   have:=q7u a _ ws u v h.2.2 e (by omega)
   omega
  ·match ws,e with
   | c::ws,e=>
    simp only at e
    split at e
    ·have:=q7u a deep ws u v h.2.2 e (by omega)
     omega
    ·cases hf:a.flat with
     | none=>rw[hf]at e;cases e
     | some w=>
      rw[hf]at e;cases e
      have:=v6n h.2.2 hf
      omega
 | .two x a b,deep,ws,u,v,h,e,hd=>by
  simp only[Tr.lay]at e;simp only[Tr.N,List.length_cons,List.length_append]at hd⊢
  split at e
  ·cases ha:a.lay deep ws with
   | error e0=>rw[ha]at e;cases e
   | ok p=>
    obtain⟨s1,ws1⟩:=p;rw[ha]at e;simp only at e;cases hb:b.lay deep ws1 with
    | error e0=>rw[hb]at e;cases e
    | ok q=>
     obtain⟨s2,ws2⟩:=q;rw[hb]at e;cases e
     have:=q7u a deep ws s1 ws1 h.2.2.1 ha (by omega)
     have:=q7u b deep ws1 s2 _ h.2.2.2 hb (by omega)
     rw[List.length_append];omega
  ·match ws,e with
   | c::ws,e=>
    simp only at e
    split at e
    ·have:=q7u a deep ws u v h.2.2.1 e (by omega)
     omega
    ·have:=q7u b deep ws u v h.2.2.2 e (by omega)
     omega
theorem y5q{x:Nd}{a b:Tr}(h:x.op=6):Tr.lay (.two x a b)=z2k a.lay b.lay:=by
 funext deep ws
 simp only[Tr.lay,z2k,if_pos h];rfl
theorem j3c{x:Nd}{a b:Tr}(h:x.op=9):Tr.lay (.two x a b)=q7t a.lay b.lay:=by
 funext deep ws
 simp only[Tr.lay,q7t,if_neg (show ¬x.op=6 by omega)];rfl
theorem j9g{x:Nd}{a:Tr}(h:x.op=8):Tr.lay (.one x a)=z0q a.lay a.line a.isFlat:=by
 funext deep ws
 simp only[Tr.lay,z0q,if_neg (show ¬x.op=7 by omega)];cases ws with
 | nil=>rfl
 | cons c ws=>
  simp only[k2u,Tr.isFlat];cases a.flat with
  | none=>rfl
  | some s=>rfl
def shS(r:Except Int (List UInt8)):ByteArray:=match r with| .ok s=>⟨s.toArray⟩| .error _=>⟨#[]⟩
def shE(r:Except Int (List UInt8)):Int:=match r with| .ok _=>0| .error e=>e
theorem v9n{t:Tr}{ws:List Int}(h:q2k ws):t.show ws=match t.lay 0 ws with| .error e=>.error e| .ok (s,[])=>.ok s| .ok (_,_::_)=>.error 2:=by
 unfold Tr.show;rw[if_pos (j2b.2 h)];rfl
theorem q9j:∀(t:Tr)(deep:Nat)(ws:List Int)(e:Int),t.lay deep ws=.error e->e≠0
 | .leaf x,deep,ws,e,h=>by
  simp only[Tr.lay]at h
  split at h
  ·cases h
  ·split at h<;>cases h
 | .one x a,deep,ws,e,h=>by
  simp only[Tr.lay]at h
  split at h
  ·exact q9j a _ ws e h
  ·match ws,h with
   | [],h=>cases h;decide
   | c::ws,h=>
    simp only at h
    split at h
    ·exact q9j a deep ws e h
    ·cases hf:a.flat with
     | none=>rw[hf]at h;cases h;decide
     | some s=>rw[hf]at h;cases h
 | .two x a b,deep,ws,e,h=>by
  simp only[Tr.lay]at h
  split at h
  ·cases ha:a.lay deep ws with
   | error e0=>rw[ha]at h;cases h;exact q9j a deep ws _ ha
   | ok p=>
    obtain⟨s1,ws1⟩:=p;rw[ha]at h;simp only at h;cases hb:b.lay deep ws1 with
    | error e0=>rw[hb]at h;cases h;exact q9j b deep ws1 _ hb
    | ok q=>rw[hb]at h;cases h
  ·match ws,h with
   | [],h=>cases h;decide
   | c::ws,h=>
    simp only at h
    split at h
    ·exact q9j a deep ws e h
    ·exact q9j b deep ws e h
theorem v9m{t:Tr}{ws:List Int}{e:Int}(h:t.show ws=.error e):e≠0:=by
 unfold Tr.show at h
 split at h
 ·cases hl:t.lay 0 ws with
  | error e0=>rw[hl]at h;cases h;exact q9j t 0 ws _ hl
  | ok p=>
   obtain⟨u,r⟩:=p;rw[hl]at h;cases r with
   | nil=>cases h
   | cons c r=>cases h;decide
 ·cases h;decide
noncomputable def q6c(ds:List Nd)(ws:List Int):Except Int (List UInt8):=if h:q3a ds=0 then(v6a ds h).show ws else .error (q3a ds)
theorem k4c{ds:List Nd}{ws:List Int}(h:q3a ds≠0):q6c ds ws=.error (q3a ds):=dif_neg h
theorem z2u{ds:List Nd}{ws:List Int}{t:Tr}(ht:t.Wf)(e:ds=t.N)(hl:ds.length<=400):q6c ds ws=t.show ws:=by
 have h:q3a ds=0:=by rw[e];exact z1k ht (by rw[<-e];exact hl)
 rw[q6c,dif_pos h,z8y h ht e]
theorem v2f{ds:List Nd}{ws:List Int}{e:Int}(h:q6c ds ws=.error e):e≠0:=by
 by_cases h0:q3a ds=0
 ·rw[q6c,dif_pos h0]at h;exact v9m h
 ·rw[k4c h0]at h;cases h;exact h0
theorem q8d:∀(t:Tr)(u:List Int),u∈t.ways->u.length<=t.N.length
 | .leaf _,u,h=>by simp[Tr.ways]at h;subst h;simp
 | .one x a,u,h=>by
  simp only[Tr.ways]at h;simp only[Tr.N,List.length_cons]
  split at h
  ·have:=q8d a u h;omega
  ·rcases List.mem_append.1 h with h|h
   ·split at h
    ·simp at h;subst h;simp
    ·simp at h
   ·obtain⟨v,hv,rfl⟩:=List.mem_map.1 h
    have:=q8d a v hv
    simp;omega
 | .two x a b,u,h=>by
  simp only[Tr.ways]at h;simp only[Tr.N,List.length_cons,List.length_append]
  split at h
  ·obtain⟨p,hp,hpq⟩:=List.mem_flatMap.1 h;obtain⟨q,hq,rfl⟩:=List.mem_map.1 hpq;have h1:=q8d a p hp;have h2:=q8d b q hq;rw[List.length_append];omega
  ·rcases List.mem_append.1 h with h|h
   ·obtain⟨v,hv,rfl⟩:=List.mem_map.1 h
    have:=q8d a v hv
    simp;omega
   ·obtain⟨v,hv,rfl⟩:=List.mem_map.1 h
    have:=q8d b v hv
    simp;omega
end Go.Proofs.YthcpdohdppkmkaaGreatDoor
