import Derived.Test.YtfdppahhbpfnoaaGreatDoorPi00
open Go.Proofs.Tryz
namespace Go.Proofs.YtfdppahhbpfnoaaGreatDoor
def q3a(wd:Nat):Nat->List UInt8->Nat × Nat × Nat
 | c,[]=>(0,0,c)
 | c,b::s=>if b=10 then((q3a wd 0 s).1,(q3a wd 0 s).2.1+1,(q3a wd 0 s).2.2)else((if wd<=c then 1 else 0)+(q3a wd (c+1) s).1,(q3a wd (c+1) s).2.1,(q3a wd (c+1) s).2.2)
theorem z7z(wd:Nat):∀(c:Nat)(s t:List UInt8),q3a wd c (s++t)=((q3a wd c s).1+(q3a wd (q3a wd c s).2.2 t).1,(q3a wd c s).2.1+(q3a wd (q3a wd c s).2.2 t).2.1,(q3a wd (q3a wd c s).2.2 t).2.2)
 | c,[],t=>by simp[q3a]
 | c,b::s,t=>by
  simp only[List.cons_append,q3a]
  split
  ·rw[z7z wd 0 s t];simp only[Prod.mk.injEq,and_true,true_and];omega
  ·rw[z7z wd (c+1) s t];simp only[Prod.mk.injEq,and_true];omega
abbrev Crs:=(Nat × Nat) × List Int
def q2w(a b:Nat × Nat):Prop:=a.1<b.1\/(a.1=b.1/\a.2<b.2)
instance(a b:Nat × Nat):Decidable (q2w a b):=by unfold q2w;infer_instance
def z9x(a b:Crs):Crs:=if q2w b.1 a.1 then b else a
def q6g:Option Crs->Option Crs->Option Crs
 | none,y=>y
 | x,none=>x
 | some a,some b=>some (z9x a b)
theorem j0f(a b c:Crs):z9x (z9x a b) c=z9x a (z9x b c):=by
 by_cases A:q2w b.1 a.1<;>by_cases B:q2w c.1 b.1<;>by_cases C:q2w c.1 a.1
 all_goals first
  | (simp[z9x,A,B,C];done)
  | (exfalso;unfold q2w at A B C;omega)
theorem k4y(x y z:Option Crs):q6g (q6g x y) z=q6g x (q6g y z):=by
 cases x<;>cases y<;>cases z<;>simp[q6g,j0f]
def fm:List Crs->Option Crs
 | []=>none
 | a::l=>q6g (some a) (fm l)
theorem k6m:∀l m:List Crs,fm (l++m)=q6g (fm l) (fm m)
 | [],m=>by cases h:fm m<;>simp[fm,q6g,h]
 | a::l,m=>by rw[List.cons_append,fm,fm,k6m l m,k4y]
def q5w(o l:Nat)(u:List Int)(a:Crs):Crs:=((o+a.1.1,l+a.1.2),u++a.2)
theorem k1c(o l:Nat)(u:List Int)(a b:Crs):q2w (q5w o l u b).1 (q5w o l u a).1↔q2w b.1 a.1:=by
 unfold q2w q5w;dsimp only;omega
theorem j8o(o l:Nat)(u:List Int)(a b:Crs):z9x (q5w o l u a) (q5w o l u b)=q5w o l u (z9x a b):=by
 unfold z9x;by_cases h:q2w b.1 a.1
 ·rw[if_pos h,if_pos ((k1c o l u a b).2 h)]
 ·rw[if_neg h,if_neg fun k=>h ((k1c o l u a b).1 k)]
theorem z1s(o l:Nat)(u:List Int):∀az:List Crs,fm (az.map (q5w o l u))=(fm az).map (q5w o l u)
 | []=>rfl
 | a::az=>by
  rw[List.map_cons,fm,z1s o l u az,fm];cases fm az with
  | none=>rfl
  | some b=>simp[q6g,j8o]
theorem j4k:∀{l:List Crs},fm l=none->l=[]
 | [],_=>rfl
 | a::l,h=>by
  rw[fm]at h;cases hl:fm l<;>rw[hl]at h<;>simp[q6g]at h
theorem z8j:∀{l:List Crs}{a:Crs},fm l=some a->∃(p q:List Crs),l=p++a::q/\(∀b∈p,q2w a.1 b.1)/\∀b∈q,¬q2w b.1 a.1
 | b::l,a,h=>by
  rw[fm]at h;cases hl:fm l with
  | none=>
   rw[hl]at h;obtain rfl:=j4k hl;simp only[q6g,Option.some.injEq]at h;subst h;exact⟨[],[],rfl,by simp,by simp⟩
  | some c=>
   rw[hl]at h;obtain⟨p,q,rfl,h1,h2⟩:=z8j hl;simp only[q6g,Option.some.injEq,z9x]at h
   split at h
   ·rename_i hlt;subst h;refine⟨b::p,q,rfl,fun d hd=>?_,h2⟩;rcases List.mem_cons.1 hd with rfl|hd
    ·exact hlt
    ·exact h1 d hd
   ·rename_i hlt;subst h;refine⟨[],p++c::q,rfl,by simp,fun d hd=>?_⟩;rcases List.mem_append.1 hd with hd|hd
    ·have:=h1 d hd
     unfold q2w at *;omega
    ·rcases List.mem_cons.1 hd with rfl|hd
     ·exact hlt
     ·have:=h2 d hd
      unfold q2w at *;omega
def Tr.outs:Tr->Nat->List (List UInt8 × List Int)
 | .leaf x,deep=>[(if x.op=1 then x.tx.data.toList else if x.op=5 then []else 10::List.replicate deep 32,[])]
 | .one x a,deep=>if x.op=7 then a.outs (deep+x.n.toNat)else(match a.flat with|none=>[]|some s=>[(s,[0])])++(a.outs deep).map fun p=>(p.1,1::p.2)
 | .two x a b,deep=>if x.op=6 then(a.outs deep).flatMap fun p=>(b.outs deep).map fun q=>(p.1++q.1,p.2++q.2)else((a.outs deep).map fun p=>(p.1,0::p.2))++(b.outs deep).map fun p=>(p.1,1::p.2)
theorem q3r:∀(t:Tr)(deep:Nat),(t.outs deep).map (·.2)=t.ways
 | .leaf x,deep=>by simp[Tr.outs,Tr.ways]
 | .one x a,deep=>by
  simp only[Tr.outs,Tr.ways]
  split
  ·exact q3r a _
  ·rw[List.map_append,<-q3r a deep]
   congr 1
   ·cases h:a.flat<;>simp[Tr.isFlat,h]
   ·rw[List.map_map,List.map_map];rfl
 | .two x a b,deep=>by
  simp only[Tr.outs,Tr.ways]
  split
  ·rw[<-q3r a deep,<-q3r b deep,List.map_flatMap,List.flatMap_map]
   congr 1
   funext p
   rw[List.map_map,List.map_map];rfl
  ·rw[<-q3r a deep,<-q3r b deep,List.map_append,List.map_map,List.map_map,List.map_map,List.map_map];rfl
theorem q7b:∀(t:Tr)(deep:Nat)(p:List UInt8 × List Int),p∈t.outs deep->∀r,t.lay deep (p.2++r)=.ok (p.1,r)
 | .leaf x,deep,p,h,r=>by
  simp only[Tr.outs,List.mem_singleton]at h;subst h;simp only[Tr.lay,List.nil_append]
  split
  ·rfl
  ·split<;>rfl
 | .one x a,deep,p,h,r=>by
  simp only[Tr.outs]at h;simp only[Tr.lay]
  split at h
  ·rename_i h7;rw[if_pos h7];exact q7b a _ p h r
  ·rename_i h7;rw[if_neg h7];rcases List.mem_append.1 h with h|h
   ·cases hf:a.flat with
    | none=>rw[hf]at h;simp at h
    | some s=>
     rw[hf]at h;simp only[List.mem_singleton]at h;subst h;simp
   ·obtain⟨q,hq,rfl⟩:=List.mem_map.1 h;simp only[List.cons_append,if_pos];exact q7b a deep q hq r
 | .two x a b,deep,p,h,r=>by
  simp only[Tr.outs]at h;simp only[Tr.lay]
  split at h
  ·rename_i h6;rw[if_pos h6];obtain⟨u,hu,hp⟩:=List.mem_flatMap.1 h;obtain⟨v,hv,rfl⟩:=List.mem_map.1 hp;dsimp only;rw[List.append_assoc,q7b a deep u hu (v.2++r)];dsimp only;rw[q7b b deep v hv r]
  ·rename_i h6;rw[if_neg h6];rcases List.mem_append.1 h with h|h
   ·obtain⟨q,hq,rfl⟩:=List.mem_map.1 h;simp only[List.cons_append,if_pos];exact q7b a deep q hq r
   ·obtain⟨q,hq,rfl⟩:=List.mem_map.1 h;simp only[List.cons_append];rw[if_neg (by decide)];exact q7b b deep q hq r
def q5l:List (Nat × Tr)->List (List UInt8 × List Int)
 | []=>[([],[])]
 | (d,t)::ks=>(t.outs d).flatMap fun p=>(q5l ks).map fun q=>(p.1++q.1,p.2++q.2)
def q4n(wd c:Nat)(ks:List (Nat × Tr)):List Crs:=(q5l ks).map fun p=>(((q3a wd c p.1).1,(q3a wd c p.1).2.1),p.2)
def bst(wd c:Nat)(ks:List (Nat × Tr)):Option Crs:=fm (q4n wd c ks)
theorem v9j(wd c:Nat):bst wd c []=some ((0,0),[]):=by simp[bst,q4n,q5l,q3a,fm,q6g]
theorem z6j(wd c:Nat)(s:List UInt8)(u:List Int)(ks:List (Nat × Tr)):((q5l ks).map fun q=>(s++q.1,u++q.2)).map (fun p=>(((q3a wd c p.1).1,(q3a wd c p.1).2.1),p.2))=(q4n wd (q3a wd c s).2.2 ks).map (q5w (q3a wd c s).1 (q3a wd c s).2.1 u):=by
 unfold q4n;rw[List.map_map,List.map_map]
 congr 1
 funext q
 simp only[Function.comp,z7z,q5w]
theorem z7w(wd c d:Nat)(x:Nd)(ks:List (Nat × Tr))(s:List UInt8)(hs:s=if x.op=1 then x.tx.data.toList else if x.op=5 then []else 10::List.replicate d 32):
  bst wd c ((d,.leaf x)::ks)=(bst wd (q3a wd c s).2.2 ks).map (q5w (q3a wd c s).1 (q3a wd c s).2.1 []):=by
 unfold bst;rw[<-z1s,<-z6j,q4n,q5l,Tr.outs,<-hs];simp
theorem v1t(wd c d:Nat)(x:Nd)(a:Tr)(ks:List (Nat × Tr))(h:x.op=7):bst wd c ((d,.one x a)::ks)=bst wd c ((d+x.n.toNat,a)::ks):=by
 unfold bst q4n;rw[q5l,q5l,Tr.outs,if_pos h]
theorem z4d(wd c d:Nat)(k:Int)(a:Tr)(ks:List (Nat × Tr)):((((a.outs d).map fun p=>(p.1,k::p.2)).flatMap fun p=>(q5l ks).map fun q=>(p.1++q.1,p.2++q.2)).map (fun p=>(((q3a wd c p.1).1,(q3a wd c p.1).2.1),p.2)))=(q4n wd c ((d,a)::ks)).map (q5w 0 0 [k]):=by
 unfold q4n;rw[q5l,List.flatMap_map,List.map_map,List.map_flatMap,List.map_flatMap]
 congr 1
 funext p
 rw[List.map_map,List.map_map]
 congr 1
 funext q
 simp[Function.comp,q5w]
theorem k0k(wd c d:Nat)(x:Nd)(a:Tr)(ks:List (Nat × Tr))(h:x.op≠7):
  bst wd c ((d,.one x a)::ks)=q6g (match a.flat with|none=>none|some s=>(bst wd (q3a wd c s).2.2 ks).map (q5w (q3a wd c s).1 (q3a wd c s).2.1 [0])) ((bst wd c ((d,a)::ks)).map (q5w 0 0 [1])):=by
 unfold bst;rw[<-z1s,<-z4d];rw[q4n,q5l,Tr.outs,if_neg h,List.flatMap_append,List.map_append,k6m]
 congr 1
 cases A:a.flat with
 | none=>rfl
 | some s=>
  dsimp only;rw[<-z1s,<-z6j];simp
theorem v1s(wd c d:Nat)(x:Nd)(a b:Tr)(ks:List (Nat × Tr))(h:x.op=6):bst wd c ((d,.two x a b)::ks)=bst wd c ((d,a)::(d,b)::ks):=by
 unfold bst q4n;rw[q5l,q5l,q5l,Tr.outs,if_pos h,List.flatMap_assoc]
 congr 2
 congr 1
 funext p
 rw[List.flatMap_map,List.map_flatMap]
 congr 1
 funext q
 rw[List.map_map]
 congr 1
 funext z
 simp[Function.comp,List.append_assoc]
theorem k8u(wd c d:Nat)(x:Nd)(a b:Tr)(ks:List (Nat × Tr))(h:x.op≠6):
  bst wd c ((d,.two x a b)::ks)=q6g ((bst wd c ((d,a)::ks)).map (q5w 0 0 [0])) ((bst wd c ((d,b)::ks)).map (q5w 0 0 [1])):=by
 unfold bst;rw[<-z1s,<-z1s,<-z4d,<-z4d,q4n,q5l,Tr.outs,if_neg h,List.flatMap_append,List.map_append,k6m]
theorem y1h(t:Tr)(deep:Nat):t.outs deep≠[]:=fun h=>by
 have:=q3r t deep
 rw[h]at this;exact z5h t this.symm
theorem k7j:∀ks:List (Nat × Tr),q5l ks≠[]
 | []=>by simp[q5l]
 | (d,t)::ks=>by
  have h1:=y1h t d;have h2:=k7j ks;obtain⟨p,ps,e⟩:=List.exists_cons_of_ne_nil h1;rw[q5l,e];simp[h2]
theorem k5w(wd c:Nat)(ks:List (Nat × Tr)):∃a,bst wd c ks=some a:=by
 cases h:bst wd c ks with
 | some a=>exact⟨a,rfl⟩
 | none=>
  have:=j4k h
  unfold q4n at this;exact absurd (List.map_eq_nil_iff.1 this) (k7j ks)
theorem z3t(wd:Nat):∀(s:List UInt8)(c c':Nat),wd<=c->wd<=c'->(q3a wd c s).1=(q3a wd c' s).1/\(q3a wd c s).2.1=(q3a wd c' s).2.1
 | [],c,c',_,_=>⟨rfl,rfl⟩
 | b::s,c,c',h,h'=>by
  by_cases hb:b=10
  ·simp only[q3a,if_pos hb,and_self]
  ·simp only[q3a,if_neg hb,if_pos h,if_pos h'];obtain⟨e1,e2⟩:=z3t wd s (c+1) (c'+1) (by omega) (by omega);exact⟨by rw[e1],e2⟩
theorem k5z(wd c:Nat)(s:List UInt8):(q3a wd c s).1=(q3a wd (min c wd) s).1/\(q3a wd c s).2.1=(q3a wd (min c wd) s).2.1:=by
 rcases Nat.le_total c wd with h|h
 ·rw[Nat.min_eq_left h];exact⟨rfl,rfl⟩
 ·rw[Nat.min_eq_right h];exact z3t wd s c wd h Zl
theorem v9i(wd c:Nat)(ks:List (Nat × Tr)):bst wd c ks=bst wd (min c wd) ks:=by
 unfold bst q4n
 congr 2
 funext p
 rw[(k5z wd c p.1).1,(k5z wd c p.1).2]
theorem z3a(wd:Nat):∀(s:List UInt8)(c:Nat),(∀b∈s,b≠10)->q3a wd c s=((c+s.length-wd)-(c-wd),0,c+s.length)
 | [],c,_=>by simp[q3a]
 | b::s,c,h=>by
  have hb:b≠10:=h b (by simp);simp only[q3a,if_neg hb,z3a wd s (c+1) (fun x hx=>h x (by simp[hx])),List.length_cons,Prod.mk.injEq,true_and];refine⟨?_,by omega⟩
  split<;>omega
theorem j3f(wd c d:Nat):q3a wd c (10::List.replicate d 32)=(d-wd,1,d):=by
 simp only[q3a,if_pos];rw[z3a wd (List.replicate d 32) 0 (by intro b A;rw[(List.mem_replicate.1 A).2];decide)];simp
/-! ### How much a way may cost at most -/
def Tr.lf:Tr->Nat
 | .leaf _=>1
 | .one _ a=>a.lf
 | .two _ a b=>a.lf+b.lf
def Tr.dsum:Tr->Nat
 | .leaf _=>0
 | .one _ a=>8+a.dsum
 | .two _ a b=>a.dsum+b.dsum
theorem q9o:∀t:Tr,8*t.lf+t.dsum<=8*t.N.length
 | .leaf _=>by simp[Tr.lf,Tr.dsum,Tr.N]
 | .one _ a=>by have:=q9o a;simp only[Tr.lf,Tr.dsum,Tr.N,List.length_cons];omega
 | .two _ a b=>by have:=q9o a;have:=q9o b;simp only[Tr.lf,Tr.dsum,Tr.N,List.length_cons,List.length_append];omega
theorem q9j:∀(t:Tr)(s:List UInt8),t.Wf->t.flat=some s->s.length<=20*t.lf
 | .leaf x,s,h,e=>by
  obtain⟨_,_,_,_,h5,_⟩:=q2a h.1;simp only[Tr.flat]at e;simp only[Tr.lf]
  split at e
  ·rename_i h1;cases e
   have:=q4c (h5 h1)
   have e:=q0x x.tx;omega
  ·split at e
   ·cases e;simp
   ·split at e
    ·cases e
    ·cases e;simp
 | .one x a,s,h,e=>q9j a s h.2.2 e
 | .two x a b,s,h,e=>by
  simp only[Tr.flat]at e;simp only[Tr.lf]
  split at e
  ·cases ha:a.flat with
   | none=>rw[ha]at e;cases e
   | some u=>
    cases hb:b.flat with
    | none=>rw[ha,hb]at e;cases e
    | some v=>
     rw[ha,hb]at e;cases e
     have:=q9j a u h.2.2.1 ha
     have:=q9j b v h.2.2.2 hb
     rw[List.length_append];omega
  ·have:=q9j a s h.2.2.1 e
   omega
theorem q7c:∀(t:Tr)(d:Nat)(p:List UInt8 × List Int),t.Wf->p∈t.outs d->p.1.length<=t.lf*(21+d+t.dsum)
 | .leaf x,d,p,h,hp=>by
  obtain⟨_,_,_,_,h5,_⟩:=q2a h.1;simp only[Tr.outs,List.mem_singleton]at hp;subst hp;simp only[Tr.lf,Tr.dsum]
  split
  ·rename_i h1
   have:=q4c (h5 h1)
   have e:=q0x x.tx;omega
  ·split
   ·simp
   ·simp;omega
 | .one x a,d,p,h,hp=>by
  obtain⟨_,_,_,_,_,h6⟩:=q2a h.1;simp only[Tr.outs]at hp;simp only[Tr.lf,Tr.dsum]
  split at hp
  ·rename_i h7;have h1:=q7c a _ p h.2.2 hp;have h2:a.lf*(21+(d+x.n.toNat)+a.dsum)<=a.lf*(21+d+(8+a.dsum)):=Nat.mul_le_mul_left _ (by have:=h6 h7;omega);omega
  ·rcases List.mem_append.1 hp with hp|hp
   ·cases hf:a.flat with
    | none=>rw[hf]at hp;simp at hp
    | some s=>
     rw[hf]at hp;simp only[List.mem_singleton]at hp;subst hp;have h1:=q9j a s h.2.2 hf;have h2:a.lf*20<=a.lf*(21+d+(8+a.dsum)):=Nat.mul_le_mul_left _ (by omega);dsimp only;omega
   ·obtain⟨q,hq,rfl⟩:=List.mem_map.1 hp;have h1:=q7c a d q h.2.2 hq;have h2:a.lf*(21+d+a.dsum)<=a.lf*(21+d+(8+a.dsum)):=Nat.mul_le_mul_left _ (by omega);dsimp only;omega
 | .two x a b,d,p,h,hp=>by
  simp only[Tr.outs]at hp;simp only[Tr.lf,Tr.dsum];have ma:a.lf*(21+d+a.dsum)<=a.lf*(21+d+(a.dsum+b.dsum)):=Nat.mul_le_mul_left _ (by omega);have mb:b.lf*(21+d+b.dsum)<=b.lf*(21+d+(a.dsum+b.dsum)):=Nat.mul_le_mul_left _ (by omega);rw[Nat.add_mul]
  split at hp
  ·obtain⟨u,hu,hp⟩:=List.mem_flatMap.1 hp;obtain⟨v,hv,rfl⟩:=List.mem_map.1 hp;have h1:=q7c a d u h.2.2.1 hu;have h2:=q7c b d v h.2.2.2 hv;simp only[List.length_append];omega
  ·rcases List.mem_append.1 hp with hp|hp
   ·obtain⟨q,hq,rfl⟩:=List.mem_map.1 hp;have h1:=q7c a d q h.2.2.1 hq;dsimp only;omega
   ·obtain⟨q,hq,rfl⟩:=List.mem_map.1 hp;have h1:=q7c b d q h.2.2.2 hq;dsimp only;omega
def lfK:List (Nat × Tr)->Nat
 | []=>0
 | (_,t)::ks=>t.lf+lfK ks
def KB(M:Nat)(ks:List (Nat × Tr)):Prop:=∀p∈ks,p.1+p.2.dsum<=M/\p.2.Wf
theorem k2b(M:Nat):∀(ks:List (Nat × Tr))(p:List UInt8 × List Int),KB M ks->p∈q5l ks->p.1.length<=lfK ks*(21+M)
 | [],p,_,hp=>by simp only[q5l,List.mem_singleton]at hp;subst hp;simp
 | (d,t)::ks,p,hk,hp=>by
  rw[q5l]at hp;obtain⟨u,hu,hp⟩:=List.mem_flatMap.1 hp;obtain⟨v,hv,rfl⟩:=List.mem_map.1 hp;obtain⟨k1,k2⟩:=hk (d,t) (by simp);have h1:=q7c t d u k2 hu;have h2:=k2b M ks v (fun q hq=>hk q (by simp[hq])) hv;have h3:t.lf*(21+d+t.dsum)<=t.lf*(21+M):=Nat.mul_le_mul_left _ (by dsimp only at k1;omega);simp only[lfK,List.length_append,Nat.add_mul];omega
theorem k3i(wd:Nat):∀(s:List UInt8)(c:Nat),(q3a wd c s).1<=s.length/\(q3a wd c s).2.1<=s.length
 | [],c=>by simp[q3a]
 | b::s,c=>by
  simp only[q3a,List.length_cons]
  split
  ·have:=k3i wd s 0
   dsimp only;omega
  ·have:=k3i wd s (c+1)
   dsimp only
   split<;>omega
def bs(wd c:Nat)(ks:List (Nat × Tr)):Crs:=(bst wd c ks).getD ((0,0),[])
theorem q3o(wd c:Nat)(ks:List (Nat × Tr)):bst wd c ks=some (bs wd c ks):=by
 obtain⟨a,h⟩:=k5w wd c ks;rw[bs,h];rfl
theorem y7e(wd c M:Nat)(ks:List (Nat × Tr))(h:KB M ks):(bs wd c ks).1.1<=lfK ks*(21+M)/\(bs wd c ks).1.2<=lfK ks*(21+M):=by
 obtain⟨p,q,e,_,_⟩:=z8j (q3o wd c ks);have A:bs wd c ks∈q4n wd c ks:=by rw[e];simp
 obtain⟨x,C,B⟩:=List.mem_map.1 A;rw[<-B];have D:=k2b M ks x h C;have E:=k3i wd x.1 c;dsimp only;omega
theorem most:∀D,D<401->(400-D)*(21+8*D)<=400000:=by
 set_option maxRecDepth 100000 in decide
theorem y1d{L M n:Nat}(h:8*L+M<=8*n)(hn:n<=400):L*(21+M)<=400000:=by
 have A:=most ((M+7) / 8) (by omega);have B:L*(21+M)<=(400-(M+7) / 8)*(21+8*((M+7) / 8)):=Nat.mul_le_mul (by omega) (by omega);omega
theorem y3l(wd c:Nat):bs wd c []=((0,0),[]):=by rw[bs,v9j];rfl
theorem j2u(wd c:Nat)(ks:List (Nat × Tr)):bs wd c ks=bs wd (min c wd) ks:=by rw[bs,v9i];rfl
theorem v9g{wd c d:Nat}{x:Nd}{ks:List (Nat × Tr)}(hx:q1a x=0)(h:x.op=1)(hc:c<=wd):bs wd c ((d,.leaf x)::ks)=q5w (c+x.tx.size-wd) 0 [] (bs wd (min (c+x.tx.size) wd) ks):=by
 have A:∀b∈x.tx.data.toList,b≠10:=v0o hx h;have e:=z7w wd c d x ks x.tx.data.toList (by rw[if_pos h]);rw[z3a wd _ c A,q0x,q3o,q3o wd (c+x.tx.size),Option.map_some,Option.some.injEq,j2u wd (c+x.tx.size)]at e;rw[e,Nat.sub_eq_zero_of_le hc,Nat.sub_zero]
theorem v9f{wd c d:Nat}{x:Nd}{ks:List (Nat × Tr)}(h:x.op≠1/\x.op≠5):bs wd c ((d,.leaf x)::ks)=q5w (d-wd) 1 [] (bs wd (min d wd) ks):=by
 have e:=z7w wd c d x ks (10::List.replicate d 32) (by rw[if_neg h.1,if_neg h.2]);rw[j3f,q3o,q3o wd d,Option.map_some,Option.some.injEq,j2u wd d]at e;exact e
theorem v9h{wd c d:Nat}{x:Nd}{ks:List (Nat × Tr)}(h:x.op=5):bs wd c ((d,.leaf x)::ks)=q5w 0 0 [] (bs wd c ks):=by
 have e:=z7w wd c d x ks [] (by rw[if_neg (by omega),if_pos h]);rw[q3o,q3a,q3o wd c ks,Option.map_some,Option.some.injEq]at e;exact e
theorem v9d{wd c d:Nat}{x:Nd}{a:Tr}{ks:List (Nat × Tr)}(h:x.op=7):bs wd c ((d,.one x a)::ks)=bs wd c ((d+x.n.toNat,a)::ks):=by rw[bs,v1t wd c d x a ks h];rfl
theorem v9c{wd c d:Nat}{x:Nd}{a b:Tr}{ks:List (Nat × Tr)}(h:x.op=6):bs wd c ((d,.two x a b)::ks)=bs wd c ((d,a)::(d,b)::ks):=by rw[bs,v1s wd c d x a b ks h];rfl
theorem j2t{wd c d:Nat}{x:Nd}{a b:Tr}{ks:List (Nat × Tr)}(h:x.op≠6):bs wd c ((d,.two x a b)::ks)=z9x (q5w 0 0 [0] (bs wd c ((d,a)::ks))) (q5w 0 0 [1] (bs wd c ((d,b)::ks))):=by
 have e:=k8u wd c d x a b ks h;rw[q3o,q3o wd c ((d,a)::ks),q3o wd c ((d,b)::ks),Option.map_some,Option.map_some,q6g,Option.some.injEq]at e;exact e
theorem v1r{wd c d:Nat}{x:Nd}{a:Tr}{ks:List (Nat × Tr)}{s:List UInt8}(h:x.op≠7)(ha:a.Wf)(hf:a.flat=some s)(hc:c<=wd):
  bs wd c ((d,.one x a)::ks)=z9x (q5w (c+s.length-wd) 0 [0] (bs wd (min (c+s.length) wd) ks)) (q5w 0 0 [1] (bs wd c ((d,a)::ks))):=by
 have e:=k0k wd c d x a ks h;rw[hf]at e;dsimp only at e;rw[z3a wd _ c (q7z a s ha hf),q3o,q3o wd (c+s.length),q3o wd c ((d,a)::ks),Option.map_some,Option.map_some,q6g,Option.some.injEq,j2u wd (c+s.length)]at e;rw[e,Nat.sub_eq_zero_of_le hc,Nat.sub_zero]
theorem v9e{wd c d:Nat}{x:Nd}{a:Tr}{ks:List (Nat × Tr)}(h:x.op≠7)(hf:a.flat=none):bs wd c ((d,.one x a)::ks)=q5w 0 0 [1] (bs wd c ((d,a)::ks)):=by
 have e:=k0k wd c d x a ks h;rw[hf]at e;dsimp only at e;rw[q3o,q3o wd c ((d,a)::ks),Option.map_some,q6g,Option.some.injEq]at e;exact e
def Tr.txt(t:Tr)(u:List Int):List UInt8:=match t.show u with| .ok s=>s| .error _=>[]
theorem j8i{t:Tr}{p:List UInt8 × List Int}(h:p∈t.outs 0):t.show p.2=.ok p.1:=by
 have B:p.2∈t.ways:=by rw[<-q3r t 0];exact List.mem_map.2 ⟨p,h,rfl⟩
 have A:=q7b t 0 p h [];rw[List.append_nil]at A;unfold Tr.show;rw[if_pos (k3a.2 (q8j t _ B)),A]
theorem v4i{t:Tr}{p:List UInt8 × List Int}(h:p∈t.outs 0):t.txt p.2=p.1:=by rw[Tr.txt,j8i h]
def Tr.cst(t:Tr)(wd:Nat)(u:List Int):Nat × Nat:=((q3a wd 0 (t.txt u)).1,(q3a wd 0 (t.txt u)).2.1)
theorem k9q(t:Tr)(wd:Nat):q4n wd 0 [(0,t)]=t.ways.map fun u=>(t.cst wd u,u):=by
 have A:q5l [(0,t)]=t.outs 0:=by simp[q5l]
 unfold q4n;rw[A,<-q3r t 0,List.map_map];refine List.map_congr_left fun p hp=>?_
 simp only[Function.comp,Tr.cst,v4i hp]
def Tr.best(t:Tr)(wd:Nat):Option Crs:=fm (t.ways.map fun u=>(t.cst wd u,u))
theorem q9w(t:Tr)(wd:Nat):t.best wd=bst wd 0 [(0,t)]:=by rw[Tr.best,<-k9q];rfl
theorem k0h(t:Tr)(wd:Nat):∃a,t.best wd=some a:=by rw[q9w];exact k5w wd 0 _
theorem y0b{f:List Int->Crs}{l:List (List Int)}{k:Nat}(hk:k<l.length):fm ((l.take (k+1)).map f)=q6g (fm ((l.take k).map f)) (some (f l[k])):=by
 rw[List.take_add_one,List.getElem?_eq_getElem hk,List.map_append,k6m];rfl
theorem z5u:∀u:List Int,¬q3d u u
 | []=>by simp[q3d]
 | a::u=>by simp only[q3d,if_pos];exact z5u u
theorem z3n:∀{u v:List Int},q3d u v->¬q3d v u
 | a::u,b::v,h=>by
  simp only[q3d]at h⊢;by_cases e:a=b
  ·subst e;rw[if_pos rfl]at h⊢;exact z3n h
  ·rw[if_neg e]at h;rw[if_neg fun k=>e k.symm];omega
theorem q6d{t:Tr}{wd:Nat}{a:Crs}(h:t.best wd=some a):a.2∈t.ways/\t.show a.2=.ok (t.txt a.2)/\a.1=t.cst wd a.2/\∀w∈t.ways,¬q2w (t.cst wd w) a.1/\(t.cst wd w=a.1->¬q3d w a.2):=by
 obtain⟨p,q,e,K,L⟩:=z8j h;obtain⟨N,r,C,E,G⟩:=List.map_eq_append_iff.1 e;obtain⟨x,O,H,I,J⟩:=List.map_eq_cons_iff.1 G;subst H E J I;have B:x∈t.ways:=by rw[C];simp
 have D:=z1c t;rw[C]at D;refine⟨B,?_,rfl,fun w A=>?_⟩
 ·obtain⟨s,M⟩:=(z4v t x).2 B;simp only[Tr.txt,M]
 ·rw[C]at A;dsimp only;rcases List.mem_append.1 A with A|A
  ·have:=K _ (List.mem_map.2 ⟨w,A,rfl⟩)
   dsimp only at this;refine⟨?_,fun k=>?_⟩
   ·unfold q2w at *;omega
   ·rw[k]at this;unfold q2w at this;omega
  ·rcases List.mem_cons.1 A with rfl|A
   ·refine⟨?_,fun _=>z5u _⟩;unfold q2w;omega
   ·refine⟨L _ (List.mem_map.2 ⟨w,A,rfl⟩),fun _=>z3n ?_⟩;exact(List.pairwise_cons.1 (List.pairwise_append.1 D).2.1).1 w A
end Go.Proofs.YtfdppahhbpfnoaaGreatDoor
namespace Go.Proofs.YtfdppahhbpfnoaaGreatDoor
open Go Go.RowKit
set_option maxRecDepth 100000
set_option maxHeartbeats 2000000
theorem v0w(T B b:Nat)(l:List UInt8)(R:List Value)(w:World)(h:IsX T B b (Lib.byteCells l) R w)(h0:l≠[]):
  Calls prog 39 #[.pointer (some ⟨b,0,none⟩)] w fun e w'=>e=.returned (.string ⟨l.toArray⟩)/\Below B w w':=by
 obtain⟨p,G⟩:=h.at;obtain⟨v,I,D,V,_⟩:=G;have L:l.length≠0:=by simpa using h0
 rw[Lib.byteCells_length]at D
 obtain⟨g,A,C,E,rfl,H,S,Q,U,J,P,M⟩:∃g A C E,v=.slice (some ⟨g,0,none⟩) l.length A/\B<=g/\w.heap[g]?=some (.cells C 5 E)/\E.2<=l.length*1/\l.length<=A/\A<=maxLen/\C.size=A*1/\C.toList.take (l.length*1)=Lib.byteCells l:=by
  rcases D.2 with⟨_,Y⟩|⟨g,A,C,E,W,r⟩
  ·exact absurd Y L
  ·exact⟨g,A,C,E,W,r⟩
 have Z:w.drew.cell? ⟨b,1,none⟩=some (.slice (some ⟨g,0,none⟩) l.length A):=by
  have:w.drew.heap[b]?=some (.cells (p::.slice (some ⟨g,0,none⟩) l.length A::R).toArray T (0,0)):=I
  rw[Lib.cell_of_heap this];rfl
 have N:(Builtin.unsafeSliceData_ #[79] 130 #[.slice (some ⟨g,0,none⟩) l.length A]).run prog w.drew=.ok (.pointer (some ⟨g,0,none⟩)) w.drew:=
  Lib.run_unsafeSliceData_row _ _ _ _ _ _ (by omega)
 have O:(Builtin.unsafeString_ #[130,3] 9 #[.pointer (some ⟨g,0,none⟩),.int .i64 l.length]).run prog w.drew=.ok (.string ⟨l.toArray⟩) (w.drew.freeze ⟨g,0,none⟩ l.length):=by
  refine Lib.run_unsafeString_row w.drew 130 3 9 5 Tryz.underlying130 v8o g C.size (by have K:w.drew.heap[g]?=some (.cells C 5 E):=S;simp[World.shape?,K]) l h0 (by omega) (by unfold maxLen at J;omega) ?_;intro j x X
  have:=D.cells (g:=g) rfl j (.int .u8 x.toNat) (by simp[Lib.byteCells,X])
  exact this
 go_in;go_wp2
 go_region
 all_goals (go_wp2;go_ret;exact⟨rfl,Lib.below_freeze (Below.drew (Below.refl B w)) (p:=⟨g,0,none⟩) H _⟩)
theorem v0v(T B b:Nat)(R:List Value)(w:World)(h:IsX T B b [] R w):
  Calls prog 39 #[.pointer (some ⟨b,0,none⟩)] w fun e w'=>e=.returned (.string ⟨#[]⟩)/\Below B w w':=by
 obtain⟨p,C⟩:=h.at;obtain⟨v,D,A,E,G⟩:=C;obtain rfl:=G rfl;clear A E G;have I:∀(W:World)(q:Option Addr),(Builtin.unsafeString_ #[130,3] 9 #[.pointer q,.int .i64 0]).run prog W=.ok (.string .empty) W:=fun W q=>Lib.run_unsafeString_none W _ _ _ q
 have J:w.drew.cell? ⟨b,1,none⟩=some (.slice none 0 0):=by
  have:w.drew.heap[b]?=some (.cells (p::.slice none 0 0::R).toArray T (0,0)):=D
  rw[Lib.cell_of_heap this];rfl
 have H:(Builtin.unsafeSliceData_ #[79] 130 #[.slice none 0 0]).run prog w.drew=.ok (.pointer none) w.drew:=rfl;go_in;go_wp2
 go_region
 all_goals (go_wp2;go_ret;exact⟨rfl,Below.drew (Below.refl B w)⟩)
theorem k8e(T B b:Nat)(l:List UInt8)(R:List Value)(w:World)(h:IsX T B b (Lib.byteCells l) R w):
  Calls prog 39 #[.pointer (some ⟨b,0,none⟩)] w fun e w'=>e=.returned (.string ⟨l.toArray⟩)/\Below B w w':=by
 by_cases A:l=[]
 ·subst A;exact v0v T B b R w h
 ·exact v0w T B b l R w h A
end Go.Proofs.YtfdppahhbpfnoaaGreatDoor
namespace Go.Proofs.YtfdppahhbpfnoaaGreatDoor
structure Pl where
 nd:Nd
 en:Nat
 nx:Nat
 dp:Nat
 lg:Int
 t:Tr
 ks:List (Nat × Tr)
def Tr.root:Tr->Nd
 | .leaf x=>x
 | .one x _=>x
 | .two x _ _=>x
def lgF:Option (List UInt8)->Int
 | none=>-1
 | some s=>(s.length:Int)
def Tr.lg:Tr->Int
 | .one x a=>if x.op=8 then lgF a.flat else 0
 | _=>0
def Tr.sz(t:Tr):Nat:=t.N.length
theorem j9l(x:Nd):(Tr.leaf x).sz=1:=rfl
theorem k2m(x:Nd)(a:Tr):(Tr.one x a).sz=1+a.sz:=by simp[Tr.sz,Tr.N];omega
theorem z4y(x:Nd)(a b:Tr):(Tr.two x a b).sz=1+a.sz+b.sz:=by simp[Tr.sz,Tr.N];omega
theorem k7v(t:Tr):0<t.sz:=t.pos
def z6u(t:Tr)(i nx dp:Nat)(ks:List (Nat × Tr)):Pl:=⟨t.root,i+t.sz,nx,dp,t.lg,t,ks⟩
def k2e:Tr->Nat->Nat->Nat->List (Nat × Tr)->List Pl
 | .leaf x,i,nx,dp,ks=>[z6u (.leaf x) i nx dp ks]
 | .one x a,i,nx,dp,ks=>z6u (.one x a) i nx dp ks::k2e a (i+1) nx (dp+x.n.toNat) ks
 | .two x a b,i,nx,dp,ks=>z6u (.two x a b) i nx dp ks::((if x.op=6 then k2e a (i+1) (i+1+a.sz) dp ((dp,b)::ks)else k2e a (i+1) nx dp ks)++k2e b (i+1+a.sz) nx dp ks)
theorem z0m:∀(t:Tr)(i nx dp:Nat)(ks:List (Nat × Tr)),(k2e t i nx dp ks).length=t.sz
 | .leaf x,i,nx,dp,ks=>rfl
 | .one x a,i,nx,dp,ks=>by rw[k2e,List.length_cons,z0m a,k2m];omega
 | .two x a b,i,nx,dp,ks=>by
  rw[k2e,List.length_cons,List.length_append,z0m b,z4y]
  split<;>rw[z0m a]<;>omega
theorem j8q(t:Tr)(i nx dp:Nat)(ks:List (Nat × Tr)):∃r,k2e t i nx dp ks=z6u t i nx dp ks::r:=by
 cases t<;>exact⟨_,rfl⟩
theorem z2d:∀(t:Tr)(i nx dp:Nat)(ks:List (Nat × Tr)),(k2e t i nx dp ks).map (·.nd)=t.N
 | .leaf x,i,nx,dp,ks=>rfl
 | .one x a,i,nx,dp,ks=>by rw[k2e,List.map_cons,z2d a];rfl
 | .two x a b,i,nx,dp,ks=>by
  rw[k2e,List.map_cons,List.map_append,z2d b]
  split<;>rw[z2d a]<;>rfl
def kont(R:List Pl)(i:Nat):List (Nat × Tr):=match R[i]? with|some r=>(r.dp,r.t)::r.ks|none=>[]
theorem k6r{R:List Pl}{i:Nat}(h:R.length<=i):kont R i=[]:=by rw[kont,List.getElem?_eq_none h]
structure Sp(R:List Pl)(L M:Nat)(i:Nat)(t:Tr)(nx dp:Nat)(ks:List (Nat × Tr)):Prop where
 pl:∃post,R.drop i=k2e t i nx dp ks++post
 kx:kont R nx=ks
 lo:i+t.sz<=nx
 hi:nx<=R.length
 wf:t.Wf
 bl:t.lf+lfK ks<=L
 bd:dp+t.dsum<=M
 bk:KB M ks
section
variable {R:List Pl} {L M i nx dp:Nat} {ks:List (Nat × Tr)} {t a b:Tr} {x:Nd}
theorem z0c{l:List Pl}{i:Nat}{r:Pl}{q:List Pl}(h:l.drop i=r::q):l[i]?=some r/\l.drop (i+1)=q:=by
 have B:i<l.length:=by
  rcases Nat.lt_or_ge i l.length with A|A
  ·exact A
  ·rw[List.drop_eq_nil_of_le A]at h;cases h
 rw[List.drop_eq_getElem_cons B,List.cons.injEq]at h;exact⟨by rw[List.getElem?_eq_getElem B,h.1],h.2⟩
theorem v9z{l p q:List Pl}{i:Nat}(h:l.drop i=p++q):l.drop (i+p.length)=q:=by rw[<-List.drop_drop,h,List.drop_left]
theorem Sp.get(h:Sp R L M i t nx dp ks):R[i]?=some (z6u t i nx dp ks):=by
 obtain⟨A,h⟩:=h.pl;obtain⟨r,e⟩:=j8q t i nx dp ks;rw[e]at h;exact(z0c h).1
theorem Sp.kont(h:Sp R L M i t nx dp ks):kont R i=(dp,t)::ks:=by rw[Proofs.YtfdppahhbpfnoaaGreatDoor.kont,h.get];rfl
theorem Sp.lt(h:Sp R L M i t nx dp ks):i<R.length:=by have:=k7v t;have:=h.lo;have:=h.hi;omega
theorem Sp.one(h:Sp R L M i (.one x a) nx dp ks):Sp R L M (i+1) a nx (dp+x.n.toNat) ks where
 pl:=by
  obtain⟨A,e⟩:=h.pl;rw[k2e]at e;exact⟨A,(z0c e).2⟩
 kx:=h.kx
 lo:=by have:=h.lo;rw[k2m]at this;omega
 hi:=h.hi
 wf:=h.wf.2.2
 bl:=h.bl
 bd:=by
  have:=h.bd
  have B:=q2a h.wf.1;simp only[Tr.dsum]at this;omega
 bk:=h.bk
theorem Sp.two2(h:Sp R L M i (.two x a b) nx dp ks):Sp R L M (i+1+a.sz) b nx dp ks where
 pl:=by
  obtain⟨A,e⟩:=h.pl;rw[k2e]at e;have B:=(z0c (q:=_++A) e).2;rw[List.append_assoc]at B;have C:=v9z B;refine⟨A,?_⟩;rw[<-C]
  congr 1
  split<;>rw[z0m]
 kx:=h.kx
 lo:=by have:=h.lo;rw[z4y]at this;omega
 hi:=h.hi
 wf:=h.wf.2.2.2
 bl:=by have:=h.bl;simp only[Tr.lf]at this;omega
 bd:=by have:=h.bd;simp only[Tr.dsum]at this;omega
 bk:=h.bk
theorem Sp.both1(h:Sp R L M i (.two x a b) nx dp ks)(h6:x.op=6):Sp R L M (i+1) a (i+1+a.sz) dp ((dp,b)::ks) where
 pl:=by
  obtain⟨B,e⟩:=h.pl;rw[k2e,if_pos h6,List.cons_append,List.append_assoc]at e;exact⟨_,(z0c e).2⟩
 kx:=h.two2.kont
 lo:=Nat.le_refl _
 hi:=by have:=h.lo;have:=h.hi;rw[z4y]at *;omega
 wf:=h.wf.2.2.1
 bl:=by have:=h.bl;simp only[Tr.lf,lfK]at this⊢;omega
 bd:=by have:=h.bd;simp only[Tr.dsum]at this;omega
 bk:=by
  intro p A;rcases List.mem_cons.1 A with rfl|A
  ·exact⟨by have:=h.bd;simp only[Tr.dsum]at this;dsimp only;omega,h.wf.2.2.2⟩
  ·exact h.bk p A
theorem Sp.either1(h:Sp R L M i (.two x a b) nx dp ks)(h6:x.op≠6):Sp R L M (i+1) a nx dp ks where
 pl:=by
  obtain⟨A,e⟩:=h.pl;rw[k2e,if_neg h6,List.cons_append,List.append_assoc]at e;exact⟨_,(z0c e).2⟩
 kx:=h.kx
 lo:=by have:=h.lo;rw[z4y]at this;omega
 hi:=h.hi
 wf:=h.wf.2.2.1
 bl:=by have:=h.bl;simp only[Tr.lf]at this⊢;omega
 bd:=by have:=h.bd;simp only[Tr.dsum]at this;omega
 bk:=h.bk
theorem Sp.two1(h:Sp R L M i (.two x a b) nx dp ks):∃nx' ks',Sp R L M (i+1) a nx' dp ks':=by
 by_cases A:x.op=6
 ·exact⟨_,_,h.both1 A⟩
 ·exact⟨_,_,h.either1 A⟩
end
theorem k7r{R:List Pl}{L M:Nat}:∀(t:Tr)(i nx dp:Nat)(ks:List (Nat × Tr)),Sp R L M i t nx dp ks->∀j,i<=j->j<i+t.sz->∃t' nx' dp' ks',Sp R L M j t' nx' dp' ks'
 | .leaf x,i,nx,dp,ks,h,j,h1,h2=>by
  rw[j9l]at h2;obtain rfl:j=i:=by omega
  exact⟨_,_,_,_,h⟩
 | .one x a,i,nx,dp,ks,h,j,h1,h2=>by
  rw[k2m]at h2;by_cases e:j=i
  ·subst e;exact⟨_,_,_,_,h⟩
  ·exact k7r a _ _ _ _ h.one j (by omega) (by omega)
 | .two x a b,i,nx,dp,ks,h,j,h1,h2=>by
  rw[z4y]at h2;by_cases e:j=i
  ·subst e;exact⟨_,_,_,_,h⟩
  ·by_cases B:j<i+1+a.sz
   ·obtain⟨_,_,A⟩:=h.two1;exact k7r a _ _ _ _ A j (by omega) (by omega)
   ·exact k7r b _ _ _ _ h.two2 j (by omega) (by omega)
def j1m(R:List Pl)(L M:Nat)(p j:Nat):Prop:=(∃x a nx dp ks,Sp R L M p (.one x a) nx dp ks/\j=p+1)\/∃x a b nx dp ks,Sp R L M p (.two x a b) nx dp ks/\(j=p+1\/j=p+1+a.sz)
theorem k7o{R:List Pl}{L M:Nat}:∀(t:Tr)(i nx dp:Nat)(ks:List (Nat × Tr)),Sp R L M i t nx dp ks->∀j,i<j->j<i+t.sz->∃p,p<j/\j1m R L M p j
 | .leaf x,i,nx,dp,ks,h,j,h1,h2=>by rw[j9l]at h2;omega
 | .one x a,i,nx,dp,ks,h,j,h1,h2=>by
  rw[k2m]at h2;by_cases e:j=i+1
  ·exact⟨i,h1,.inl ⟨_,_,_,_,_,h,e⟩⟩
  ·exact k7o a _ _ _ _ h.one j (by omega) (by omega)
 | .two x a b,i,nx,dp,ks,h,j,h1,h2=>by
  rw[z4y]at h2;by_cases e:j=i+1
  ·exact⟨i,h1,.inr ⟨_,_,_,_,_,_,h,.inl e⟩⟩
  ·by_cases e3:j=i+1+a.sz
   ·exact⟨i,h1,.inr ⟨_,_,_,_,_,_,h,.inr e3⟩⟩
   ·by_cases e2:j<i+1+a.sz
    ·obtain⟨_,_,h'⟩:=h.two1;exact k7o a _ _ _ _ h' j (by omega) (by omega)
    ·exact k7o b _ _ _ _ h.two2 j (by omega) (by omega)
def q0a(t:Tr):List Pl:=k2e t 0 t.sz 0 []
theorem q2y(t:Tr):(q0a t).length=t.sz:=z0m t _ _ _ _
theorem z9g{t:Tr}(h:t.Wf):Sp (q0a t) t.lf t.dsum 0 t t.sz 0 [] where
 pl:=⟨[],by simp[q0a]⟩
 kx:=k6r (Nat.le_of_eq (q2y t))
 lo:=by omega
 hi:=Nat.le_of_eq (q2y t).symm
 wf:=h
 bl:=by simp[lfK]
 bd:=by simp
 bk:=by intro p A;simp at A
theorem j9f{t:Tr}(h:t.Wf){j:Nat}(hj:j<(q0a t).length):∃t' nx dp ks,Sp (q0a t) t.lf t.dsum j t' nx dp ks:=
 k7r t 0 _ _ _ (z9g h) j (Nat.zero_le _) (by rw[q2y]at hj;omega)
theorem k2c{t:Tr}(h:t.Wf){j:Nat}(h0:0<j)(hj:j<(q0a t).length):∃p,p<j/\j1m (q0a t) t.lf t.dsum p j:=
 k7o t 0 _ _ _ (z9g h) j h0 (by rw[q2y]at hj;omega)
/-! ### Moves and courses -/
def vv(R:List Pl)(wd i c:Nat):Crs:=bs wd c (kont R i)
theorem v8n{R:List Pl}{wd i c:Nat}(h:R.length<=i):vv R wd i c=((0,0),[]):=by rw[vv,k6r h,y3l]
theorem y8k{R:List Pl}{wd L M i c nx dp:Nat}{ks:List (Nat × Tr)}{t:Tr}(h:Sp R L M i t nx dp ks)(hm:L*(21+M)<=400000):(vv R wd i c).1.1<=400000/\(vv R wd i c).1.2<=400000:=by
 have B:=y7e wd c M (kont R i) (by rw[h.kont];intro p A;rcases List.mem_cons.1 A with rfl|A;exact⟨h.bd,h.wf⟩;exact h.bk p A);have C:lfK (kont R i)*(21+M)<=L*(21+M):=Nat.mul_le_mul_right _ (by rw[h.kont];exact h.bl);rw[vv];omega
structure Mv where
 np:Nat
 nc:Nat
 o:Nat
 l:Nat
def mvP(wd:Nat)(op:Int)(k nx dp lg e i c ch:Nat):Mv:=
 if op=1 then⟨nx,min (c+k) wd,c+k-wd,0⟩
 else if op=2\/op=3\/op=4 then⟨nx,min dp wd,dp-wd,1⟩
 else if op=5 then⟨nx,c,0,0⟩
 else if op=8/\ch=0 then⟨nx,min (c+lg) wd,c+lg-wd,0⟩
 else if op=9/\ch=1 then⟨e,c,0,0⟩
 else⟨i+1,c,0,0⟩
section
variable {wd k nx dp lg e i c ch:Nat} {op:Int}
theorem z8t(h:op=1):mvP wd op k nx dp lg e i c ch=⟨nx,min (c+k) wd,c+k-wd,0⟩:=by rw[mvP,if_pos h]
theorem z0i(h:op=2\/op=3\/op=4):mvP wd op k nx dp lg e i c ch=⟨nx,min dp wd,dp-wd,1⟩:=by rw[mvP,if_neg (by omega),if_pos h]
theorem z8u(h:op=5):mvP wd op k nx dp lg e i c ch=⟨nx,c,0,0⟩:=by rw[mvP,if_neg (by omega),if_neg (by omega),if_pos h]
theorem z8s(h:op=8)(h0:ch=0):mvP wd op k nx dp lg e i c ch=⟨nx,min (c+lg) wd,c+lg-wd,0⟩:=by rw[mvP,if_neg (by omega),if_neg (by omega),if_neg (by omega),if_pos ⟨h,h0⟩]
theorem z1z(h:op=9)(h0:ch=1):mvP wd op k nx dp lg e i c ch=⟨e,c,0,0⟩:=by rw[mvP,if_neg (by omega),if_neg (by omega),if_neg (by omega),if_neg (by omega),if_pos ⟨h,h0⟩]
theorem z0h(h:op=6\/op=7\/(op=8/\ch≠0)\/(op=9/\ch≠1)):mvP wd op k nx dp lg e i c ch=⟨i+1,c,0,0⟩:=by rw[mvP,if_neg (by omega),if_neg (by omega),if_neg (by omega),if_neg (by omega),if_neg (by omega)]
end
def mv(wd:Nat)(r:Pl)(e i c ch:Nat):Mv:=mvP wd r.nd.op r.nd.tx.size r.nx r.dp r.lg.toNat e i c ch
def z1v(op:Int):Bool:=decide (op=8)||decide (op=9)
structure Cv where
 o:Nat
 l:Nat
 ch:Nat
 np:Nat
 nc:Nat
def j3k(R:List Pl)(wd ch:Nat)(m:Mv):Cv:=⟨m.o+(vv R wd m.np m.nc).1.1,m.l+(vv R wd m.np m.nc).1.2,ch,m.np,m.nc⟩
def q1o(R:List Pl)(i:Nat):Pl:=R.getD i ⟨⟨0,⟨#[]⟩,0⟩,0,0,0,0,.leaf ⟨0,⟨#[]⟩,0⟩,[]⟩
theorem Sp.at{R:List Pl}{L M i nx dp:Nat}{ks:List (Nat × Tr)}{t:Tr}(h:Sp R L M i t nx dp ks):q1o R i=z6u t i nx dp ks:=by rw[q1o,List.getD,h.get];rfl
def q3k(R:List Pl)(wd i c ch:Nat):Mv:=mv wd (q1o R i) (q1o R (i+1)).en i c ch
def tkC(R:List Pl)(wd i c ch:Nat):Cv:=j3k R wd ch (q3k R wd i c ch)
def crs(R:List Pl)(wd i c:Nat):Cv:=
 if(q1o R i).lg=-1 then tkC R wd i c 1
 else if z1v (q1o R i).nd.op=false then tkC R wd i c 0
 else if q2w ((tkC R wd i c 1).o,(tkC R wd i c 1).l) ((tkC R wd i c 0).o,(tkC R wd i c 0).l)then tkC R wd i c 1 else tkC R wd i c 0
structure y8n(R:List Pl)(wd i:Nat)(m:Mv):Prop where
 lo:i<m.np
 hi:m.np<=R.length
 cl:m.nc<=wd
 bo:m.o<=20000
 bl:m.l<=1
section
variable {R:List Pl} {L M i nx dp wd c ch:Nat} {ks:List (Nat × Tr)} {t:Tr}
theorem y4e{a:Tr}(h:a.Wf)(hn:a.lf<=400):(lgF a.flat).toNat<=8000:=by
 cases A:a.flat with
 | none=>simp[lgF]
 | some s=>have:=q9j a s h A;simp[lgF];omega
theorem q5h{x:Nd}(h:Sp R L M i (.leaf x) nx dp ks):q3k R wd i c ch=mvP wd x.op x.tx.size nx dp 0 (q1o R (i+1)).en i c ch:=by rw[q3k,h.at];rfl
theorem q7a{x:Nd}{a:Tr}(h:Sp R L M i (.one x a) nx dp ks):q3k R wd i c ch=mvP wd x.op x.tx.size nx dp (Tr.lg (.one x a)).toNat (q1o R (i+1)).en i c ch:=by rw[q3k,h.at];rfl
theorem q8s{x:Nd}{a b:Tr}(h:Sp R L M i (.two x a b) nx dp ks):q3k R wd i c ch=mvP wd x.op x.tx.size nx dp 0 (i+1+a.sz) i c ch:=by
 obtain⟨C,B,A⟩:=h.two1;rw[q3k,h.at,A.at];rfl
theorem j6l(h:Sp R L M i t nx dp ks)(hc:c<=wd)(hw:wd<=100)(hL:L<=400)(hM:M<=3200):y8n R wd i (q3k R wd i c ch):=by
 have S:=h.lo;have A:=h.hi;have U:=k7v t;have K:=h.bd;have C:=h.bl;cases t with
 | leaf x=>
  have O:=q2a h.wf.1;rw[q5h h];rcases q3y h.wf.1 h.wf.2 with e|e|e|e|e
  ·rw[z8t e]
   have:=q4c (O.2.2.2.2.1 e)
   exact⟨by dsimp only;omega,A,Nat.min_le_right _ _,by dsimp only;omega,by simp⟩
  all_goals first
   | (rw[z0i (by omega)];exact⟨by dsimp only;omega,A,Nat.min_le_right _ _,by dsimp only;omega,by simp⟩)
   | (rw[z8u (by omega)];exact⟨by dsimp only;omega,A,hc,by simp,by simp⟩)
 | one x a=>
  have E:=h.one;have D:=E.lt;have J:=q8d h.wf.2.1;rw[q7a h];by_cases B:x.op=8/\ch=0
  ·rw[z8s B.1 B.2];have N:(Tr.lg (.one x a)).toNat<=8000:=by rw[Tr.lg,if_pos B.1];exact y4e h.wf.2.2 (by simp only[Tr.lf]at C;omega)
   exact⟨by dsimp only;omega,A,Nat.min_le_right _ _,by dsimp only;omega,by simp⟩
  ·rw[z0h (by omega)];exact⟨by simp,by dsimp only;omega,hc,by simp,by simp⟩
 | two x a b=>
  obtain⟨Q,P,E⟩:=h.two1;have D:=E.lt;have H:=h.two2.lt;have I:=q7p h.wf.2.1;rw[q8s h];by_cases G:x.op=9/\ch=1
  ·rw[z1z G.1 G.2];exact⟨by dsimp only;omega,by dsimp only;omega,hc,by simp,by simp⟩
  ·rw[z0h (by omega)];exact⟨by simp,by dsimp only;omega,hc,by simp,by simp⟩
theorem y4u(o l:Nat)(u:List Int)(a:Crs):q5w o l u a=((o+a.1.1,l+a.1.2),u++a.2):=rfl
theorem j3h(h:Sp R L M i t nx dp ks)(hc:c<=wd):
  vv R wd i c=(((crs R wd i c).o,(crs R wd i c).l),(if z1v t.root.op=true then [((crs R wd i c).ch:Int)]else [])++(vv R wd (crs R wd i c).np (crs R wd i c).nc).2)/\∃ch,(ch=0\/ch=1)/\crs R wd i c=tkC R wd i c ch:=by
 have D:=h.at;have E:=h.kont;have N:=h.kx;refine⟨?_,?_⟩
 ·cases t with
  | leaf x=>
   have B:(q1o R i).lg≠-1:=by rw[D];simp[z6u,Tr.lg]
   have C:(q1o R i).nd.op=x.op:=by rw[D];rfl
   have A:z1v x.op=false:=by rcases q3y h.wf.1 h.wf.2 with e|e|e|e|e<;>simp[z1v,e]
   rw[crs,if_neg B,C,if_pos A,tkC,j3k,Tr.root,A];dsimp only
   have X:vv R wd i c=q5w (q3k R wd i c 0).o (q3k R wd i c 0).l [] (vv R wd (q3k R wd i c 0).np (q3k R wd i c 0).nc):=by
    rw[q5h h,vv,E];rcases q3y h.wf.1 h.wf.2 with e|e|e|e|e
    ·rw[z8t e,v9g h.wf.1 e hc];dsimp only;rw[vv,N]
    all_goals first
     | (rw[z0i (by omega),v9f (by omega)];dsimp only;rw[vv,N])
     | (rw[z8u (by omega),v9h e];dsimp only;rw[vv,N])
   rw[X];rfl
  | one x a=>
   have V:=q8d h.wf.2.1;have C:(q1o R i).nd.op=x.op:=by rw[D];rfl
   have J:=h.one;have O:q3k R wd i c 1=⟨i+1,c,0,0⟩:=by rw[q7a h,z0h (by omega)]
   rcases V with e|e
   ·have B:(q1o R i).lg≠-1:=by rw[D];simp[z6u,Tr.lg,e]
    have A:z1v x.op=false:=by simp[z1v,e]
    have G:q3k R wd i c 0=⟨i+1,c,0,0⟩:=by rw[q7a h,z0h (by omega)]
    rw[crs,if_neg B,C,if_pos A,tkC,j3k,Tr.root,A,G];dsimp only;rw[vv,E,v9d e,vv,J.kont];simp
   ·have A:z1v x.op=true:=by simp[z1v,e]
    have B:(q1o R i).lg=lgF a.flat:=by rw[D];simp[z6u,Tr.lg,e]
    have W:x.n.toNat=0:=by have:=q2a h.wf.1;omega
    have S:kont R (i+1)=(dp,a)::ks:=by rw[J.kont,W];rfl
    cases H:a.flat with
    | none=>
     rw[H]at B;rw[crs,if_pos (show(q1o R i).lg=-1 from B),tkC,j3k,Tr.root,A,O];dsimp only;rw[vv,E,v9e (by omega) H,y4u,vv,S];simp
    | some s=>
     rw[H]at B;have I:(q1o R i).lg≠-1:=by rw[B,lgF];omega
     have G:q3k R wd i c 0=⟨nx,min (c+s.length) wd,c+s.length-wd,0⟩:=by
      rw[q7a h,z8s e rfl,Tr.lg,if_pos e,H];rfl
     rw[crs,if_neg I,C,if_neg (by rw[A];simp),Tr.root,A];rw[vv,E,v1r (by omega) h.wf.2.2 H hc]
     have P:tkC R wd i c 0=⟨(q5w (c+s.length-wd) 0 [0] (bs wd (min (c+s.length) wd) ks)).1.1,(q5w (c+s.length-wd) 0 [0] (bs wd (min (c+s.length) wd) ks)).1.2,0,nx,min (c+s.length) wd⟩:=by
      rw[tkC,j3k,G];simp only[vv,N,q5w]
     have Q:tkC R wd i c 1=⟨(q5w 0 0 [1] (bs wd c ((dp,a)::ks))).1.1,(q5w 0 0 [1] (bs wd c ((dp,a)::ks))).1.2,1,i+1,c⟩:=by
      rw[tkC,j3k,O];simp only[vv,S,q5w]
     rw[P,Q];unfold z9x;dsimp only
     split
     ·simp only[if_true,vv,S,q5w];rfl
     ·simp only[if_true,vv,N,q5w];rfl
  | two x a b=>
   have U:=q7p h.wf.2.1;have C:(q1o R i).nd.op=x.op:=by rw[D];rfl
   have B:(q1o R i).lg≠-1:=by rw[D];simp[z6u,Tr.lg]
   have G:q3k R wd i c 0=⟨i+1,c,0,0⟩:=by rw[q8s h,z0h (by omega)]
   rcases U with e|e
   ·have A:z1v x.op=false:=by simp[z1v,e]
    rw[crs,if_neg B,C,if_pos A,tkC,j3k,Tr.root,A,G];dsimp only;rw[vv,E,v9c e,vv,(h.both1 e).kont];simp
   ·have A:z1v x.op=true:=by simp[z1v,e]
    have J:=h.either1 (by omega);have K:=h.two2;have O:q3k R wd i c 1=⟨i+1+a.sz,c,0,0⟩:=by rw[q8s h,z1z e rfl]
    rw[crs,if_neg B,C,if_neg (by rw[A];simp),Tr.root,A];rw[vv,E,j2t (by omega)]
    have P:tkC R wd i c 0=⟨(q5w 0 0 [0] (bs wd c ((dp,a)::ks))).1.1,(q5w 0 0 [0] (bs wd c ((dp,a)::ks))).1.2,0,i+1,c⟩:=by
     rw[tkC,j3k,G];simp only[vv,J.kont,q5w]
    have Q:tkC R wd i c 1=⟨(q5w 0 0 [1] (bs wd c ((dp,b)::ks))).1.1,(q5w 0 0 [1] (bs wd c ((dp,b)::ks))).1.2,1,i+1+a.sz,c⟩:=by
     rw[tkC,j3k,O];simp only[vv,K.kont,q5w]
    rw[P,Q];unfold z9x;dsimp only
    split
    ·simp only[if_true,vv,K.kont,q5w];rfl
    ·simp only[if_true,vv,J.kont,q5w];rfl
 ·unfold crs
  split
  ·exact⟨1,.inr rfl,rfl⟩
  ·split
   ·exact⟨0,.inl rfl,rfl⟩
   ·split
    ·exact⟨1,.inr rfl,rfl⟩
    ·exact⟨0,.inl rfl,rfl⟩
end
end Go.Proofs.YtfdppahhbpfnoaaGreatDoor
