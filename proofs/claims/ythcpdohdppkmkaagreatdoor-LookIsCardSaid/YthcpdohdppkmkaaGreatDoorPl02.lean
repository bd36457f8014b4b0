import Derived.Test.YthcpdohdppkmkaaGreatDoorPl01
open Go.Proofs.Tryz
namespace Go.Proofs.YthcpdohdppkmkaaGreatDoor
def Tr.lay:Tr->Nat->List Int->Except Int (List UInt8 × List Int)
 | .leaf x,deep,ws=>if x.op=1 then .ok (x.tx.data.toList,ws)else if x.op=5 then .ok ([],ws)else .ok (10::List.replicate deep 32,ws)
 | .one x a,deep,ws=>
  if x.op=7 then a.lay (deep+x.n.toNat) ws
  else match ws with
   | []=>.error 2
   | c::ws=>if c=1 then a.lay deep ws else match a.flat with
    | none=>.error 4
    | some s=>.ok (s,ws)
 | .two x a b,deep,ws=>
  if x.op=6 then match a.lay deep ws with
   | .error e=>.error e
   | .ok (s,ws1)=>match b.lay deep ws1 with
    | .error e=>.error e
    | .ok (t,ws2)=>.ok (s++t,ws2)
  else match ws with
   | []=>.error 2
   | c::ws=>if c=0 then a.lay deep ws else b.lay deep ws
def Tr.ways:Tr->List (List Int)
 | .leaf _=>[[]]
 | .one x a=>if x.op=7 then a.ways else(if a.isFlat=true then [[0]]else [])++a.ways.map (1::·)
 | .two x a b=>if x.op=6 then a.ways.flatMap fun u=>b.ways.map (u++·)else a.ways.map (0::·)++b.ways.map (1::·)
def q2q(ws:List Int):Prop:=∀c∈ws,c=0\/c=1
theorem z5e:∀t:Tr,t.ways≠[]
 | .leaf _=>by simp[Tr.ways]
 | .one x a=>by
  simp only[Tr.ways]
  split
  ·exact z5e a
  ·have:=z5e a
   simp[this]
 | .two x a b=>by
  have h1:=z5e a;have h2:=z5e b;simp only[Tr.ways]
  split
  ·obtain⟨u,us,e⟩:=List.exists_cons_of_ne_nil h1;rw[e];simp[h2]
  ·simp[h1]
theorem q8e:∀(t:Tr)(u:List Int),u∈t.ways->q2q u
 | .leaf _,u,h=>by simp[Tr.ways]at h;subst h;simp[q2q]
 | .one x a,u,h=>by
  simp only[Tr.ways]at h
  split at h
  ·exact q8e a u h
  ·rcases List.mem_append.1 h with h|h
   ·split at h
    ·simp at h;subst h;simp[q2q]
    ·simp at h
   ·obtain⟨v,hv,rfl⟩:=List.mem_map.1 h
    have:=q8e a v hv
    intro c hc;rcases List.mem_cons.1 hc with rfl|hc
    ·exact .inr rfl
    ·exact this c hc
 | .two x a b,u,h=>by
  simp only[Tr.ways]at h
  split at h
  ·obtain⟨p,hp,hpq⟩:=List.mem_flatMap.1 h;obtain⟨q,hq,rfl⟩:=List.mem_map.1 hpq;have h1:=q8e a p hp;have h2:=q8e b q hq;intro c hc;rcases List.mem_append.1 hc with hc|hc
   ·exact h1 c hc
   ·exact h2 c hc
  ·rcases List.mem_append.1 h with h|h
   ·obtain⟨v,hv,rfl⟩:=List.mem_map.1 h
    have:=q8e a v hv
    intro c hc;rcases List.mem_cons.1 hc with rfl|hc
    ·exact .inl rfl
    ·exact this c hc
   ·obtain⟨v,hv,rfl⟩:=List.mem_map.1 h
    have:=q8e b v hv
    intro c hc;rcases List.mem_cons.1 hc with rfl|hc
    ·exact .inr rfl
    ·exact this c hc
theorem q7e:∀(t:Tr)(deep:Nat)(u r:List Int),u∈t.ways->∃s,t.lay deep (u++r)=.ok (s,r)
 | .leaf x,deep,u,r,h=>by
  simp[Tr.ways]at h;subst h;simp only[Tr.lay,List.nil_append]
  split
  ·exact⟨_,rfl⟩
  ·split
   ·exact⟨_,rfl⟩
   ·exact⟨_,rfl⟩
 | .one x a,deep,u,r,h=>by
  simp only[Tr.ways]at h;simp only[Tr.lay]
  split at h
  ·rename_i h7;rw[if_pos h7];exact q7e a _ u r h
  ·rename_i h7;rw[if_neg h7];rcases List.mem_append.1 h with h|h
   ·split at h
    ·rename_i hf;simp at h;subst h;simp only[List.cons_append,List.nil_append];rw[if_neg (by decide)];rw[Tr.isFlat]at hf;cases hfl:a.flat with
     | none=>rw[hfl]at hf;cases hf
     | some s=>exact⟨s,rfl⟩
    ·simp at h
   ·obtain⟨v,hv,rfl⟩:=List.mem_map.1 h;simp only[List.cons_append,if_pos];exact q7e a deep v r hv
 | .two x a b,deep,u,r,h=>by
  simp only[Tr.ways]at h;simp only[Tr.lay]
  split at h
  ·rename_i h6;rw[if_pos h6];obtain⟨p,hp,hpq⟩:=List.mem_flatMap.1 h;obtain⟨q,hq,rfl⟩:=List.mem_map.1 hpq;obtain⟨s1,e1⟩:=q7e a deep p (q++r) hp;obtain⟨s2,e2⟩:=q7e b deep q r hq;rw[List.append_assoc,e1];simp only[e2];exact⟨_,rfl⟩
  ·rename_i h6;rw[if_neg h6];rcases List.mem_append.1 h with h|h
   ·obtain⟨v,hv,rfl⟩:=List.mem_map.1 h;simp only[List.cons_append,if_pos];exact q7e a deep v r hv
   ·obtain⟨v,hv,rfl⟩:=List.mem_map.1 h;simp only[List.cons_append];rw[if_neg (by decide)];exact q7e b deep v r hv
theorem q5n:∀(t:Tr)(deep:Nat)(ws r:List Int)(s:List UInt8),q2q ws->t.lay deep ws=.ok (s,r)->∃u∈t.ways,ws=u++r
 | .leaf x,deep,ws,r,s,_,h=>by
  refine⟨[],by simp[Tr.ways],?_⟩;simp only[Tr.lay]at h
  split at h
  ·cases h;rfl
  ·split at h
   ·cases h;rfl
   ·cases h;rfl
 | .one x a,deep,ws,r,s,h0,h=>by
  simp only[Tr.lay]at h;simp only[Tr.ways]
  split at h
  ·rename_i h7;rw[if_pos h7];exact q5n a _ ws r s h0 h
  ·rename_i h7;rw[if_neg h7]
   match ws,h0,h with
   | [],_,h=>cases h
   | c::ws,h0,h=>
    simp only at h
    split at h
    ·rename_i h1;subst h1;obtain⟨u,hu,e⟩:=q5n a deep ws r s (fun d hd=>h0 d (by simp[hd])) h;exact⟨1::u,List.mem_append.2 (.inr (List.mem_map.2 ⟨u,hu,rfl⟩)),by rw[e];rfl⟩
    ·rename_i h1;have hc:c=0:=by have:=h0 c (by simp);omega
     subst hc;cases D:a.flat with
     | none=>rw[D]at h;cases h
     | some v=>
      rw[D]at h;cases h;refine⟨[0],List.mem_append.2 (.inl ?_),rfl⟩;rw[if_pos (by rw[Tr.isFlat,D];rfl)];simp
 | .two x a b,deep,ws,r,s,h0,h=>by
  simp only[Tr.lay]at h;simp only[Tr.ways]
  split at h
  ·rename_i h6;rw[if_pos h6];cases B:a.lay deep ws with
   | error e=>rw[B]at h;cases h
   | ok p=>
    obtain⟨I,A⟩:=p;rw[B]at h;simp only at h;cases C:b.lay deep A with
    | error e=>rw[C]at h;cases h
    | ok q=>
     obtain⟨J,K⟩:=q;rw[C]at h;cases h;obtain⟨u,hu,E⟩:=q5n a deep ws A I h0 B;obtain⟨v,H,G⟩:=q5n b deep A r J (fun d hd=>h0 d (by rw[E];simp[hd])) C;exact⟨u++v,List.mem_flatMap.2 ⟨u,hu,List.mem_map.2 ⟨v,H,rfl⟩⟩,by rw[E,G,List.append_assoc]⟩
  ·rename_i h6;rw[if_neg h6]
   match ws,h0,h with
   | [],_,h=>cases h
   | c::ws,h0,h=>
    simp only at h
    split at h
    ·rename_i h1;subst h1;obtain⟨u,hu,e⟩:=q5n a deep ws r s (fun d hd=>h0 d (by simp[hd])) h;exact⟨0::u,List.mem_append.2 (.inl (List.mem_map.2 ⟨u,hu,rfl⟩)),by rw[e];rfl⟩
    ·rename_i h1;have hc:c=1:=by have:=h0 c (by simp);omega
     subst hc;obtain⟨u,hu,e⟩:=q5n b deep ws r s (fun d hd=>h0 d (by simp[hd])) h;exact⟨1::u,List.mem_append.2 (.inr (List.mem_map.2 ⟨u,hu,rfl⟩)),by rw[e];rfl⟩
def Tr.show(t:Tr)(ws:List Int):Except Int (List UInt8):=
 if ws.all (fun c=>c==0||c==1)=true then match t.lay 0 ws with
  | .error e=>.error e
  | .ok (s,[])=>.ok s
  | .ok (_,_::_)=>.error 2
 else .error 1
theorem k3b{ws:List Int}:ws.all (fun c=>c==0||c==1)=true↔q2q ws:=by
 simp[q2q]
theorem z4s(t:Tr)(ws:List Int):(∃s,t.show ws=.ok s)↔ws∈t.ways:=by
 constructor
 ·rintro⟨s,h⟩;unfold Tr.show at h
  split at h
  ·rename_i h0;cases A:t.lay 0 ws with
   | error e=>rw[A]at h;cases h
   | ok p=>
    obtain⟨u,r⟩:=p;rw[A]at h;cases r with
    | cons c r=>cases h
    | nil=>
     obtain⟨v,C,e⟩:=q5n t 0 ws [] u (k3b.1 h0) A;rw[List.append_nil]at e;rw[e];exact C
  ·cases h
 ·intro h;obtain⟨s,B⟩:=q7e t 0 ws [] h;rw[List.append_nil]at B;refine⟨s,?_⟩;unfold Tr.show;rw[if_pos (k3b.2 (q8e t ws h)),B]
def q3b:List Int->List Int->Prop
 | a::al,b::bs=>if a=b then q3b al bs else a<b
 | _,_=>False
theorem z3k:∀(u v r s:List Int),q3b u v->q3b (u++r) (v++s)
 | a::al,b::bs,r,s,h=>by
  simp only[List.cons_append,q3b]at h⊢
  split
  ·rename_i e;rw[if_pos e]at h;exact z3k al bs r s h
  ·rename_i e;rw[if_neg e]at h;exact h
theorem z5q:∀(u r s:List Int),q3b r s->q3b (u++r) (u++s)
 | [],r,s,h=>h
 | a::u,r,s,h=>by simp only[List.cons_append,q3b,if_pos];exact z5q u r s h
theorem z0h{α β:Type}{R:β->β->Prop}(f:α->List β):∀l:List α,(∀x∈l,(f x).Pairwise R)->l.Pairwise (fun x y=>∀p∈f x,∀q∈f y,R p q)->(l.flatMap f).Pairwise R
 | [],_,_=>List.Pairwise.nil
 | x::l,h1,h2=>by
  rw[List.flatMap_cons];rw[List.pairwise_cons]at h2;refine List.pairwise_append.2 ⟨h1 x (by simp),z0h f l (fun y hy=>h1 y (by simp[hy])) h2.2,?_⟩;intro p hp q hq;obtain⟨y,hy,hq⟩:=List.mem_flatMap.1 hq;exact h2.1 y hy p hp q hq
theorem z1a:∀t:Tr,t.ways.Pairwise q3b
 | .leaf _=>by simp[Tr.ways]
 | .one x a=>by
  simp only[Tr.ways];have ih:=z1a a
  split
  ·exact ih
  ·refine List.pairwise_append.2 ⟨?_,?_,?_⟩
   ·split<;>simp
   ·exact List.pairwise_map.2 (ih.imp fun h=>by simp only[q3b,if_pos];exact h)
   ·intro p hp q hq
    split at hp
    ·simp at hp;subst hp;obtain⟨v,_,rfl⟩:=List.mem_map.1 hq;simp[q3b]
    ·simp at hp
 | .two x a b=>by
  simp only[Tr.ways];have ia:=z1a a;have ib:=z1a b
  split
  ·refine z0h _ _ ?_ ?_
   ·intro u _;exact List.pairwise_map.2 (ib.imp fun h=>z5q u _ _ h)
   ·refine ia.imp ?_;intro u v h p hp q hq;obtain⟨r,_,rfl⟩:=List.mem_map.1 hp;obtain⟨s,_,rfl⟩:=List.mem_map.1 hq;exact z3k u v r s h
  ·refine List.pairwise_append.2 ⟨?_,?_,?_⟩
   ·exact List.pairwise_map.2 (ia.imp fun h=>by simp only[q3b,if_pos];exact h)
   ·exact List.pairwise_map.2 (ib.imp fun h=>by simp only[q3b,if_pos];exact h)
   ·intro p hp q hq;obtain⟨u,_,rfl⟩:=List.mem_map.1 hp;obtain⟨v,_,rfl⟩:=List.mem_map.1 hq;simp[q3b]
theorem v1b{x:Nd}(h:q1b x=0)(h1:x.op=1):∀b∈x.tx.data.toList,b≠10:=by
 obtain⟨_,_,_,_,B,_⟩:=q2c h;have A:=B h1;simp only[isW,Bool.and_eq_true,List.all_eq_true]at A;intro b C D
 have:=A.2 b C
 subst D;simp[q5x]at this
end Go.Proofs.YthcpdohdppkmkaaGreatDoor
namespace Go.Proofs.YthcpdohdppkmkaaGreatDoor
open Go
abbrev wdD(s:List UInt8):Tr:=.leaf ⟨1,wbS s,0⟩
abbrev blD:Tr:=.leaf ⟨2,⟨#[]⟩,0⟩
abbrev sfD:Tr:=.leaf ⟨3,⟨#[]⟩,0⟩
abbrev twD(a b:Tr):Tr:=.two ⟨6,⟨#[]⟩,0⟩ a b
abbrev dpD(a:Tr):Tr:=.one ⟨7,⟨#[]⟩,2⟩ a
abbrev grD(a:Tr):Tr:=.one ⟨8,⟨#[]⟩,0⟩ a
def inD(l:Nat)(x:Td)(d:Tr):Tr:=if prc x<l then twD (wdD [40]) (twD d (wdD [41]))else d
def kdD:List (Td × Tr)->Tr
 | []=>wdD []
 | p::r=>match r with
  | []=>p.2
  | _::_=>twD (twD p.2 (wdD [44])) (twD blD (kdD r))
def tw2(f:Td->Tr->Td->Tr->Tr):List (Td × Tr)->Tr
 | [a,b]=>f a.1 a.2 b.1 b.2
 | _=>wdD []
def q3h(op cl:List UInt8)(ks:List (Td × Tr)):Tr:=if ks.length=0 then wdD (op++cl)else grD (twD (wdD op) (twD (dpD (twD sfD (kdD ks))) (twD sfD (wdD cl))))
def q0m(x:Td)(ks:List (Td × Tr)):Tr:=
 if x.op=1 then wdD (q7m x.n.toNat)
 else if x.op=2 then wdD (btL x.tx)
 else if x.op=3 then q3h (btL x.tx++[40]) [41] ks
 else if x.op=4 then q3h [91] [93] ks
 else if x.op=5 then tw2 (fun x a y b=>grD (twD (inD 0 x a) (dpD (twD blD (twD (wdD [43,32]) (inD 1 y b)))))) ks
 else tw2 (fun x a y b=>grD (twD (inD 1 x a) (dpD (twD blD (twD (wdD [42,32]) (inD 2 y b)))))) ks
def Fo.D:Fo->List (Td × Tr)
 | .nil=>[]
 | .cons x k n=>(x,q0m x k.D)::n.D
theorem q6q:∀F:Fo,F.D.length=F.len
 | .nil=>rfl
 | .cons _ _ n=>by simp[Fo.D,Fo.len,q6q n]
def stD(x:Td)(d:Tr):Tr:=
 if x.op=7 then grD (twD (wdD ([108,101,116,32]++btL x.tx++[32,61])) (dpD (twD blD (twD d (wdD [59])))))else twD d (wdD [59])
theorem z3z(s:List UInt8):(wdD s).flat=some s:=rfl
theorem q6s{a b:Tr}{s t:List UInt8}(ha:a.flat=some s)(hb:b.flat=some t):(twD a b).flat=some (s++t):=by
 simp only[Tr.flat,if_true,ha,hb]
theorem v3c(a:Tr):(dpD a).flat=a.flat:=rfl
theorem v3d(a:Tr):(grD a).flat=a.flat:=rfl
theorem v3b:blD.flat=some [32]:=rfl
theorem y4y:sfD.flat=some []:=rfl
def Mt(p:Td × Tr)(t:Tn):Prop:=p.1=t.x/\p.2.flat=some t.tx
theorem v3e{p:Td × Tr}{t:Tn}(h:Mt p t)(l:Nat):(inD l p.1 p.2).flat=some (brx l t):=by
 unfold inD brx;rw[h.1]
 split
 ·rw[q6s (z3z _) (q6s h.2 (z3z _))];rfl
 ·exact h.2
inductive Mts:List (Td × Tr)->List Tn->Prop where
 | nil:Mts [] []
 | cons {p t ps ts}:Mt p t->Mts ps ts->Mts (p::ps) (t::ts)
theorem y4x:∀{ps:List (Td × Tr)}{ts:List Tn},Mts ps ts->ps≠[]->(kdD ps).flat=some (cmx ts)
 | _,_,.cons h .nil,_=>by simp only[kdD,cmx,List.append_nil];exact h.2
 | _,_,.cons (ps:=p::ps) (ts:=t::ts) h (.cons h2 h3),_=>by
  have ih:=y4x (Mts.cons h2 h3) (by simp)
  show(twD (twD _ (wdD [44])) (twD blD (kdD (p::ps)))).flat=_
  rw[q6s (q6s h.2 (z3z _)) (q6s v3b ih)];simp[cmx]
theorem j4f{ps:List (Td × Tr)}{ts:List Tn}(h:Mts ps ts)(op cl:List UInt8):(q3h op cl ps).flat=some (op++cmx ts++cl):=by
 unfold q3h
 split
 ·rename_i h0;cases h with
  | nil=>rw[z3z];simp[cmx]
  | cons=>simp at h0
 ·rename_i h0;have A:ps≠[]:=fun e=>h0 (by rw[e];rfl)
  rw[v3d,q6s (z3z _) (q6s (by rw[v3c];exact q6s y4y (y4x h A)) (q6s y4y (z3z _)))];simp
theorem y8m{x:Td}{ps:List (Td × Tr)}{ts:List Tn}(h:Mts ps ts)(hx:exN x)(hk:ps.length=kdT x):(q0m x ps).flat=some (k8h x ts):=by
 have E:kdT x=2->∃a b c d,ps=[a,b]/\ts=[c,d]/\Mt a c/\Mt b d:=fun e=>by
  rw[e]at hk;cases h with
  | nil=>simp at hk
  | cons h1 B=>cases B with
   | nil=>simp at hk
   | cons C D=>cases D with
    | nil=>exact⟨_,_,_,_,rfl,rfl,h1,C⟩
    | cons=>simp at hk
 rcases q6d hx with⟨A,_⟩|⟨A,_⟩|⟨A,_⟩|⟨A,_⟩|⟨A,_,_,B⟩|⟨A,_,_,B⟩
 ·rw[show q0m x ps=wdD (q7m x.n.toNat) by simp[q0m,A],show k8h x ts=q7m x.n.toNat by simp[k8h,A]];rfl
 ·rw[show q0m x ps=wdD (btL x.tx) by simp[q0m,A],show k8h x ts=btL x.tx by simp[k8h,A]];rfl
 ·rw[show q0m x ps=q3h (btL x.tx++[40]) [41] ps by simp[q0m,A],show k8h x ts=btL x.tx++40::(cmx ts++[41]) by simp[k8h,A],j4f h];simp
 ·rw[show q0m x ps=q3h [91] [93] ps by simp[q0m,A],show k8h x ts=91::(cmx ts++[93]) by simp[k8h,A],j4f h];simp
 ·obtain⟨a,b,c,d,rfl,rfl,C,D⟩:=E B;rw[show q0m x [a,b]=grD (twD (inD 0 a.1 a.2) (dpD (twD blD (twD (wdD [43,32]) (inD 1 b.1 b.2))))) by simp[q0m,tw2,A],show k8h x [c,d]=brx 0 c++32::43::32::brx 1 d by simp[k8h,two2,A]];rw[v3d,q6s (v3e C 0) (by rw[v3c];exact q6s v3b (q6s (z3z _) (v3e D 1)))];rfl
 ·obtain⟨a,b,c,d,rfl,rfl,C,D⟩:=E B;rw[show q0m x [a,b]=grD (twD (inD 1 a.1 a.2) (dpD (twD blD (twD (wdD [42,32]) (inD 2 b.1 b.2))))) by simp[q0m,tw2,A],show k8h x [c,d]=brx 1 c++32::42::32::brx 2 d by simp[k8h,two2,A]];rw[v3d,q6s (v3e C 1) (by rw[v3c];exact q6s v3b (q6s (z3z _) (v3e D 2)))];rfl
theorem z7z:∀F:Fo,F.ok->F.exs->Mts F.D F.R
 | .nil,_,_=>.nil
 | .cons x k n,hok,hex=>by
  have h1:=z7z k hok.2.1 fun y hy=>hex y (by simp[Fo.N,hy])
  have h2:=z7z n hok.2.2 fun y hy=>hex y (by simp[Fo.N,hy])
  exact .cons ⟨rfl,y8m h1 (hex x (by simp[Fo.N])) (by rw[q6q];exact hok.1)⟩ h2
def Tr.noE:Tr->Prop
 | .leaf x=>x.op≠4
 | .one _ a=>a.noE
 | .two x a b=>x.op=6/\a.noE/\b.noE
theorem v4n{c:UInt8}(h:q2j c=true):q5x c=true:=by
 simp only[q2j,Bool.and_eq_true,decide_eq_true_eq]at h;simp only[q5x,Bool.and_eq_true,decide_eq_true_eq];omega
theorem v3a{c:UInt8}(h:q2a c=true):q5x c=true:=by
 simp only[q2a,Bool.and_eq_true,decide_eq_true_eq]at h;simp only[q5x,Bool.and_eq_true,decide_eq_true_eq];omega
theorem z2s{s:List UInt8}(h1:1<=s.length)(h2:s.length<=20)(h3:∀c∈s,q5x c=true):(wdD s).Wf:=by
 have e:(wbS s).size=s.length:=by rw[<-q0b];rfl
 have A:isW (wbS s)=true:=by
  simp only[isW,Bool.and_eq_true,decide_eq_true_eq,List.all_eq_true];exact⟨⟨by omega,by omega⟩,h3⟩
 refine⟨?_,rfl⟩;simp only[q1b,A];rfl
theorem v6w:blD.Wf:=⟨rfl,rfl⟩
theorem y6z:sfD.Wf:=⟨rfl,rfl⟩
theorem q7f{a b:Tr}(ha:a.Wf)(hb:b.Wf):(twD a b).Wf:=⟨rfl,rfl,ha,hb⟩
theorem v6x{a:Tr}(ha:a.Wf):(dpD a).Wf:=⟨rfl,rfl,ha⟩
theorem v6y{a:Tr}(ha:a.Wf):(grD a).Wf:=⟨rfl,rfl,ha⟩
theorem v6z{l:Nat}{x:Td}{d:Tr}(h:d.Wf):(inD l x d).Wf:=by
 unfold inD
 split
 ·exact q7f (z2s (by decide) (by decide) (by decide)) (q7f h (z2s (by decide) (by decide) (by decide)))
 ·exact h
theorem y6y:∀ps:List (Td × Tr),(∀p∈ps,p.2.Wf)->ps≠[]->(kdD ps).Wf
 | [p],h,_=>h p (by simp)
 | p::q::r,h,_=>q7f (q7f (h p (by simp)) (z2s (by decide) (by decide) (by decide))) (q7f v6w (y6y (q::r) (fun z hz=>h z (by simp at hz⊢;right;exact hz)) (by simp)))
theorem v0y{op cl:List UInt8}{ps:List (Td × Tr)}(h:∀p∈ps,p.2.Wf)(h1:1<=op.length)(h2:op.length+cl.length<=20)(h3:∀c∈op,q5x c=true)(h4:1<=cl.length)(h5:∀c∈cl,q5x c=true):(q3h op cl ps).Wf:=by
 unfold q3h
 split
 ·refine z2s (by simp;omega) (by simp;omega) fun c A=>?_
  rcases List.mem_append.1 A with A|A
  ·exact h3 c A
  ·exact h5 c A
 ·rename_i h0;exact v6y (q7f (z2s h1 (by omega) h3) (q7f (v6x (q7f y6z (y6y ps h fun e=>h0 (by rw[e];rfl)))) (q7f y6z (z2s h4 (by omega) h5))))
theorem z4k{s:ByteArray}(h:q0p s=true):1<=(btL s).length/\(btL s).length<=8/\∀c∈btL s,q5x c=true:=by
 have A:=q5p h;simp only[q0p,Bool.and_eq_true,decide_eq_true_eq,List.all_eq_true]at h;exact⟨by rw[q0b];exact h.1.1.1,A,fun c hc=>v4n (h.2 c hc)⟩
theorem y9q{x:Td}{ps:List (Td × Tr)}(h:∀p∈ps,p.2.Wf)(hx:exN x)(hk:ps.length=kdT x):(q0m x ps).Wf:=by
 have C:kdT x=2->∃a b,ps=[a,b]/\a.2.Wf/\b.2.Wf:=fun e=>by
  rw[e]at hk
  match ps,hk with
  | [a,b],_=>exact⟨a,b,rfl,h a (by simp),h b (by simp)⟩
 rcases q6d hx with⟨A,_,L,N,_⟩|⟨A,H,_⟩|⟨A,H,_⟩|⟨A,_⟩|⟨A,_,_,D⟩|⟨A,_,_,D⟩
 ·rw[show q0m x ps=wdD (q7m x.n.toNat) by simp[q0m,A]];have M:=z8a 5 x.n.toNat (by omega);have D:=List.length_pos_iff.2 (y0s x.n.toNat);exact z2s (by omega) (by omega) fun c B=>v3a (v2w _ c B)
 ·obtain⟨J,K,I⟩:=z4k H;rw[show q0m x ps=wdD (btL x.tx) by simp[q0m,A]];exact z2s J (by omega) I
 ·obtain⟨J,K,I⟩:=z4k H;rw[show q0m x ps=q3h (btL x.tx++[40]) [41] ps by simp[q0m,A]];refine v0y h (by simp) (by rw[List.length_append];simp only[List.length_cons,List.length_nil];omega) (fun c B=>?_) (by decide) (by decide);rcases List.mem_append.1 B with B|B
  ·exact I c B
  ·simp at B;subst B;decide
 ·rw[show q0m x ps=q3h [91] [93] ps by simp[q0m,A]];exact v0y h (by decide) (by decide) (by decide) (by decide) (by decide)
 ·obtain⟨a,b,rfl,E,G⟩:=C D;rw[show q0m x [a,b]=grD (twD (inD 0 a.1 a.2) (dpD (twD blD (twD (wdD [43,32]) (inD 1 b.1 b.2))))) by simp[q0m,tw2,A]];exact v6y (q7f (v6z E) (v6x (q7f v6w (q7f (z2s (by decide) (by decide) (by decide)) (v6z G)))))
 ·obtain⟨a,b,rfl,E,G⟩:=C D;rw[show q0m x [a,b]=grD (twD (inD 1 a.1 a.2) (dpD (twD blD (twD (wdD [42,32]) (inD 2 b.1 b.2))))) by simp[q0m,tw2,A]];exact v6y (q7f (v6z E) (v6x (q7f v6w (q7f (z2s (by decide) (by decide) (by decide)) (v6z G)))))
theorem j3n:∀F:Fo,F.ok->F.exs->∀p∈F.D,p.2.Wf
 | .nil,_,_,p,hp=>by cases hp
 | .cons x k n,hok,hex,p,hp=>by
  have h1:=j3n k hok.2.1 fun y hy=>hex y (by simp[Fo.N,hy])
  have h2:=j3n n hok.2.2 fun y hy=>hex y (by simp[Fo.N,hy])
  rcases List.mem_cons.1 hp with rfl|hp
  ·exact y9q h1 (hex x (by simp[Fo.N])) (by rw[q6q];exact hok.1)
  ·exact h2 p hp
theorem v4u{l:Nat}{x:Td}{d:Tr}(h:d.noE):(inD l x d).noE:=by
 unfold inD
 split
 ·exact⟨rfl,by show(1:Int)≠4;decide,rfl,h,by show(1:Int)≠4;decide⟩
 ·exact h
theorem y5l:∀ps:List (Td × Tr),(∀p∈ps,p.2.noE)->(kdD ps).noE
 | [],_=>by show(1:Int)≠4;decide
 | [p],h=>h p (by simp)
 | p::q::r,h=>⟨rfl,⟨rfl,h p (by simp),by show(1:Int)≠4;decide⟩,rfl,by show(2:Int)≠4;decide,y5l (q::r) (fun z hz=>h z (by simp at hz⊢;right;exact hz))⟩
theorem j6w{op cl:List UInt8}{ps:List (Td × Tr)}(h:∀p∈ps,p.2.noE):(q3h op cl ps).noE:=by
 unfold q3h
 split
 ·show(1:Int)≠4;decide
 ·exact⟨rfl,by show(1:Int)≠4;decide,rfl,⟨rfl,by show(3:Int)≠4;decide,y5l ps h⟩,rfl,by show(3:Int)≠4;decide,by show(1:Int)≠4;decide⟩
theorem v8l{f:Td->Tr->Td->Tr->Tr}{ps:List (Td × Tr)}(h:∀p∈ps,p.2.noE)(hf:∀x a y b,a.noE->b.noE->(f x a y b).noE):(tw2 f ps).noE:=by
 unfold tw2
 split
 ·exact hf _ _ _ _ (h _ (by simp)) (h _ (by simp))
 ·show(1:Int)≠4;decide
theorem y9b{x:Td}{ps:List (Td × Tr)}(h:∀p∈ps,p.2.noE):(q0m x ps).noE:=by
 have A:(1:Int)≠4:=by decide
 have B:(2:Int)≠4:=by decide
 unfold q0m
 split
 ·exact A
 ·split
  ·exact A
  ·split
   ·exact j6w h
   ·split
    ·exact j6w h
    ·split
     ·exact v8l h fun x a y b ha hb=>⟨rfl,v4u ha,rfl,B,rfl,A,v4u hb⟩
     ·exact v8l h fun x a y b ha hb=>⟨rfl,v4u ha,rfl,B,rfl,A,v4u hb⟩
theorem k3l:∀F:Fo,∀p∈F.D,p.2.noE
 | .nil,p,hp=>by cases hp
 | .cons x k n,p,hp=>by
  rcases List.mem_cons.1 hp with rfl|hp
  ·exact y9b (k3l k)
  ·exact k3l n p hp
def z3e(ps:List (Td × Tr)):Nat:=(ps.map fun p=>p.2.N.length+5).sum
theorem q2l(p:Td × Tr)(r:List (Td × Tr)):z3e (p::r)=p.2.N.length+5+z3e r:=by simp[z3e]
theorem k9v(l:Nat)(x:Td)(d:Tr):(inD l x d).N.length<=d.N.length+4:=by
 unfold inD
 split
 ·simp only[Tr.N,List.length_cons,List.length_append,List.length_nil];omega
 ·omega
theorem k9w:∀ps:List (Td × Tr),(kdD ps).N.length<=z3e ps+1
 | []=>by simp[kdD,z3e,Tr.N]
 | [p]=>by simp only[kdD,q2l];omega
 | p::q::r=>by
  have ih:=k9w (q::r)
  show(twD (twD p.2 (wdD [44])) (twD blD (kdD (q::r)))).N.length<=_
  rw[q2l];simp only[Tr.N,List.length_cons,List.length_append,List.length_nil];omega
theorem y9c{x:Td}{ps:List (Td × Tr)}:(q0m x ps).N.length<=15+z3e ps:=by
 have A:∀op cl:List UInt8,(q3h op cl ps).N.length<=15+z3e ps:=fun op cl=>by
  have G:=k9w ps;unfold q3h
  split
  ·simp only[Tr.N,List.length_cons,List.length_nil];omega
  ·simp only[Tr.N,List.length_cons,List.length_append,List.length_nil];omega
 have C:∀f:Td->Tr->Td->Tr->Tr,(∀x a y b,(f x a y b).N.length<=15+a.N.length+b.N.length)->(tw2 f ps).N.length<=15+z3e ps:=fun f hf=>by
  unfold tw2
  split
  ·rename_i a b
   have:=hf a.1 a.2 b.1 b.2
   rw[q2l,q2l];omega
  ·simp only[Tr.N,List.length_cons,List.length_nil];omega
 have B:∀(l m:Nat)(sg:List UInt8)(x:Td)(a:Tr)(y:Td)(b:Tr),(grD (twD (inD l x a) (dpD (twD blD (twD (wdD sg) (inD m y b)))))).N.length<=15+a.N.length+b.N.length:=fun l m sg x a y b=>by
  have D:=k9v l x a;have E:=k9v m y b;simp only[Tr.N,List.length_cons,List.length_append,List.length_nil];omega
 unfold q0m
 split
 ·simp only[Tr.N,List.length_cons,List.length_nil];omega
 ·split
  ·simp only[Tr.N,List.length_cons,List.length_nil];omega
  ·split
   ·exact A _ _
   ·split
    ·exact A _ _
    ·split
     ·exact C _ (B 0 1 [43,32])
     ·exact C _ (B 1 2 [42,32])
theorem z5x:∀F:Fo,z3e F.D<=20*F.N.length
 | .nil=>by simp[Fo.D,z3e]
 | .cons x k n=>by
  have h1:=z5x k;have h2:=z5x n;have h3:=y9c (x:=x) (ps:=k.D);rw[Fo.D,q2l,Fo.N];simp only[List.length_cons,List.length_append];omega
def opT(t:List Td):Int:=match t with
 | []=>0
 | x::_=>x.op
theorem z4n{t:List Td}(h:0<t.length):opT t=t[0].op:=by
 cases t with
 | nil=>simp at h
 | cons x r=>rfl
def q3z(prev:Int)(k:Nat):List (List Td)->Nat × Int
 | []=>(0,0)
 | t::r=>if q0c t≠0 then(k,q0c t)else if opT t=9/\prev=9 then(k,2)else q3z (opT t) (k+1) r
def q0r(ps:List (List Td)):Nat × Int:=if 20<ps.length then(0,3)else q3z 0 0 ps
theorem z0x{t:List Td}(h:q0c t=0):0<t.length:=by
 rcases Nat.eq_zero_or_pos t.length with A|A
 ·have:t=[]:=List.eq_nil_of_length_eq_zero A
  subst this
  have:=(q4b h).2.2.1
  rw[q8j [] 0 0 (by simp)]at this;cases this
 ·exact A
def q2v(ps:List (List Td))(k:Nat):Int:=if k=0 then 0 else opT (ps.getD (k-1) [])
theorem z2b{ps:List (List Td)}{k:Nat}(h:k<ps.length):q2v ps (k+1)=opT ps[k]:=by
 simp[q2v,h]
theorem k2f{ps:List (List Td)}{k:Nat}{A:Int}(h:k<ps.length)(he:q0c ps[k]≠0):q3z A k (ps.drop k)=(k,q0c ps[k]):=by
 rw[List.drop_eq_getElem_cons h,q3z,if_pos he]
theorem k2g{ps:List (List Td)}{k:Nat}{A:Int}(h:k<ps.length)(he:q0c ps[k]=0)(h2:opT ps[k]=9/\A=9):q3z A k (ps.drop k)=(k,2):=by
 rw[List.drop_eq_getElem_cons h,q3z,if_neg (by simp[he]),if_pos h2]
theorem z6t{ps:List (List Td)}{k:Nat}{A:Int}(h:k<ps.length)(he:q0c ps[k]=0)(h2:¬(opT ps[k]=9/\A=9)):q3z A k (ps.drop k)=q3z (q2v ps (k+1)) (k+1) (ps.drop (k+1)):=by
 rw[List.drop_eq_getElem_cons h,q3z,if_neg (by simp[he]),if_neg h2,z2b h]
def hdD(ps:List (Td × Tr)):Tr:=match ps with
 | p::_=>p.2
 | []=>wdD []
def q0s(t:List Td):Tr:=match j2n t with
 | .nil=>wdD []
 | .cons x k _=>stD x (hdD k.D)
theorem z9h{x:Td}{F:Fo}(h:F.ok)(hl:F.len=kdT x):q0s (x::F.N)=stD x (hdD F.D):=by
 rw[q0s,v9h h hl]
structure y7z(t:List Td):Prop where
 f:(q0s t).flat=some (y3y t)
 w:(q0s t).Wf
 e:(q0s t).noE
 n:(q0s t).N.length<=900
theorem y2j{F:Fo}(hl:F.len=1):∃y k,F=.cons y k .nil:=by
 cases F with
 | nil=>cases hl
 | cons y k n=>cases n with
  | nil=>exact⟨y,k,rfl⟩
  | cons _ _ _=>simp[Fo.len]at hl
theorem z9j{t:List Td}(h:q0c t=0)(h9:opT t≠9):∃(x y:Td)(k:Fo),t=x::(Fo.cons y k .nil).N/\(Fo.cons y k .nil).ok/\(Fo.cons y k .nil).exs/\(Fo.cons y k .nil).len=kdT x/\((x.op=7/\q0p x.tx=true/\x.n=0)\/(x.op=8/\x.tx=⟨#[]⟩/\x.n=0)):=by
 rcases z9i h with⟨x,rfl,A,_⟩|⟨x,F,rfl,C,B,D,E⟩
 ·exact absurd A h9
 ·obtain⟨y,k,rfl⟩:=y2j D;refine⟨x,y,k,rfl,C,B,?_,E⟩;rw[D];unfold kdT;rcases E with⟨A,_⟩|⟨A,_⟩<;>rw[A]<;>rfl
theorem z5z{t:List Td}(h:q0c t=0)(h9:opT t≠9):y7z t:=by
 have J:=(q4b h).1;obtain⟨x,y,k,rfl,E,I,U,Z⟩:=z9j h h9;have X:=z7z _ E I;have Y:=j3n _ E I;have W:=k3l (.cons y k .nil);have V:=z5x (.cons y k .nil);have B:q0s (x::(Fo.cons y k .nil).N)=stD x (q0m y k.D):=z9h E U;have S:y3y (x::(Fo.cons y k .nil).N)=stX x (Fo.cons y k .nil).R:=(y6k E U).1
 have M:(q0m y k.D).flat=some (y9s y k.R).tx:=by
  cases X with
  | cons h1 _=>exact h1.2
 have H:(q0m y k.D).Wf:=Y (y,q0m y k.D) (by simp[Fo.D]);have G:(q0m y k.D).noE:=W (y,q0m y k.D) (by simp[Fo.D])
 have O:(q0m y k.D).N.length+5<=20*(Fo.cons y k .nil).N.length:=by
  rw[Fo.D,q2l]at V
  have:z3e Fo.nil.D=0:=rfl
  exact Nat.le_trans (Nat.le_add_right _ _) V
 simp only[List.length_cons]at J;generalize q0m y k.D=D at B M H G O;have K:(wdD [59]).Wf:=z2s (by decide) (by decide) (by decide);have Q:(1:Int)≠4:=by decide
 have b:(2:Int)≠4:=by decide
 rcases Z with⟨L,P,_⟩|⟨L,_,_⟩
 ·obtain⟨d,e,a⟩:=z4k P;have C:stD x D=grD (twD (wdD ([108,101,116,32]++btL x.tx++[32,61])) (dpD (twD blD (twD D (wdD [59]))))):=by rw[stD,if_pos L]
  refine⟨?_,?_,?_,?_⟩
  ·rw[B,S,C,v3d,q6s (z3z _) (by rw[v3c];exact q6s v3b (q6s M (z3z _)))];simp[stX,L,hdT,Fo.R]
  ·rw[B,C];refine v6y (q7f (z2s (by simp) (by simp only[List.length_append,List.length_cons,List.length_nil];omega) fun c A=>?_) (v6x (q7f v6w (q7f H K))));rcases List.mem_append.1 A with A|A
   ·rcases List.mem_append.1 A with A|A
    ·simp at A;rcases A with rfl|rfl|rfl|rfl<;>decide
    ·exact a c A
   ·simp at A;rcases A with rfl|rfl<;>decide
  ·rw[B,C];exact⟨rfl,Q,rfl,b,rfl,G,Q⟩
  ·rw[B,C];simp only[Tr.N,List.length_cons,List.length_append,List.length_nil];omega
 ·have C:stD x D=twD D (wdD [59]):=by rw[stD,if_neg (by omega)]
  refine⟨?_,?_,?_,?_⟩
  ·rw[B,S,C,q6s M (z3z _)];simp[stX,L,hdT,Fo.R]
  ·rw[B,C];exact q7f H K
  ·rw[B,C];exact⟨rfl,G,Q⟩
  ·rw[B,C];simp only[Tr.N,List.length_cons,List.length_append,List.length_nil];omega
def q6n(t l:Wd):Wd:=(if l≠[]/\t≠[]then t++[32]else t)++l
def ntx(ws:List Wd):Wd:=ws.foldl q6n []
def q0y(w:Wd):Wd:=ntx (q0f (w.drop 1))
def jb:List Wd->Wd
 | []=>[]
 | w::r=>w++match r with
  | []=>[]
  | _::_=>32::jb r
theorem j4v:∀s:List UInt8,jb (q5l s)=s
 | []=>rfl
 | c::r=>by
  have ih:=j4v r;by_cases hc:c=32
  ·subst hc;rw[q6j];cases hs:q5l r with
   | nil=>exact absurd hs (q9n r)
   | cons w ws=>
    rw[hs]at ih;simp[jb,<-ih]
  ·cases hs:q5l r with
   | nil=>exact absurd hs (q9n r)
   | cons w ws=>
    rw[q4y hc hs];rw[hs]at ih;rw[<-ih];simp[jb]
theorem j4p:∀(ws:List Wd)(t:Wd),(∀w∈ws,w≠[])->t≠[]->ws.foldl q6n t=t++(match ws with|[]=>[]|_::_=>32::jb ws)
 | [],t,_,_=>by simp
 | w::r,t,h,ht=>by
  have hw:=h w (by simp);have e:q6n t w=t++32::w:=by simp[q6n,hw,ht]
  rw[List.foldl_cons,e,j4p r _ (fun x hx=>h x (by simp[hx])) (by simp)];cases r with
  | nil=>simp[jb]
  | cons u r=>simp[jb]
theorem y5p{ws:List Wd}(h:∀w∈ws,w≠[]):ntx ws=jb ws:=by
 cases ws with
 | nil=>rfl
 | cons w r=>
  have A:=h w (by simp);have e:q6n [] w=w:=by simp[q6n]
  rw[ntx,List.foldl_cons,e,j4p r w (fun x hx=>h x (by simp[hx])) A];cases r<;>simp[jb]
theorem j8c{tx:ByteArray}(h:q2x tx=0):(q0f (btL tx)).length<=60/\∀w∈q0f (btL tx),w≠[]/\w.length<=20/\∀b∈w,q8c b=true:=by
 obtain⟨B,C⟩:=q9q h;refine⟨by simpa using B,fun w hw=>?_⟩;have A:=C (wbS w) (List.mem_map.2 ⟨w,hw,rfl⟩);have D:(wbS w).size=w.length:=by rw[<-q0b];rfl
 simp only[okW,Bool.and_eq_true,decide_eq_true_eq,List.all_eq_true,D]at A;refine⟨fun e=>?_,A.1.2,A.2⟩;rw[e]at A;simp at A
def y9t(tx:ByteArray):Wd:=if tx.size=0 then [35]else [35,32]++btL tx
theorem k6s{p:UInt8->Bool}(A:p 32=true):∀ws:List Wd,(∀w∈ws,∀b∈w,p b=true)->∀b∈jb ws,p b=true
 | [],_,b,hb=>by cases hb
 | [w],h,b,hb=>by
  have e:jb [w]=w:=by simp[jb]
  rw[e]at hb;exact h w (by simp) b hb
 | w::u::r,h,b,hb=>by
  have e:jb (w::u::r)=w++32::jb (u::r):=by simp[jb]
  rw[e]at hb;rcases List.mem_append.1 hb with hb|hb
  ·exact h w (by simp) b hb
  ·rcases List.mem_cons.1 hb with rfl|hb
   ·exact A
   ·exact k6s A (u::r) (fun x hx=>h x (by simp[hx])) b hb
inductive Rp where
 | ok (ps:List (List Td)):Rp
 | bad (rest:List Wd):Rp
abbrev z1u:Wd:=[108,101,116]
def ntT(t:Wd):Td:=⟨9,wbS t,0⟩
def j1o(w:Wd):Td:=⟨7,wbS w,0⟩
def doT:Td:=⟨8,⟨#[]⟩,0⟩
def q5m(acc:List (List Td)):Wd:=match acc.getLast? with
 | some (x::_)=>btL x.tx
 | _=>[]
def k0d(pv:Bool)(acc:List (List Td))(t:Wd):List (List Td):=if pv then acc.dropLast++[[ntT (q6n (q5m acc) t)]]else acc++[[ntT t]]
inductive PG:Bool->List (List Td)->List Wd->Rp->Prop where
 | done {pv acc}:PG pv acc [] (.ok acc)
 | note {pv acc w ts r}:w.headD 0=35->PG true (k0d pv acc (q0y w)) ts r->PG pv acc (w::ts) r
 | letN {pv acc ts}:(∀w,ts.head?=some w->nmW w=false)->PG pv acc (z1u::ts) (.bad ts)
 | letE {pv acc nm ts}:nmW nm=true->ts.head?≠some [61]->PG pv acc (z1u::nm::ts) (.bad ts)
 | letB {pv acc nm ts u}:nmW nm=true->PR (.level 0) ts (.bad u)->PG pv acc (z1u::nm::[61]::ts) (.bad u)
 | letX {pv acc nm ts m ns u}:nmW nm=true->PR (.level 0) ts (.ok m ns u)->u.head?≠some [59]->PG pv acc (z1u::nm::[61]::ts) (.bad u)
 | letO {pv acc nm ts m ns u r}:nmW nm=true->PR (.level 0) ts (.ok m ns ([59]::u))->PG false (acc++[j1o nm::ns]) u r->PG pv acc (z1u::nm::[61]::ts) r
 | doB {pv acc w ts u}:w.headD 0≠35->w≠z1u->PR (.level 0) (w::ts) (.bad u)->PG pv acc (w::ts) (.bad u)
 | doX {pv acc w ts m ns u}:w.headD 0≠35->w≠z1u->PR (.level 0) (w::ts) (.ok m ns u)->u.head?≠some [59]->PG pv acc (w::ts) (.bad u)
 | doO {pv acc w ts m ns u r}:w.headD 0≠35->w≠z1u->PR (.level 0) (w::ts) (.ok m ns ([59]::u))->PG false (acc++[doT::ns]) u r->PG pv acc (w::ts) r
theorem q9a:z1u.headD 0≠35:=by decide
theorem z0j{pv:Bool}{B:List (List Td)}{ts:List Wd}{r:Rp}(h:PG pv B ts r):∀{r':Rp},PG pv B ts r'->r=r':=by
 induction h with
 | done=>intro r' A;cases A;rfl
 | note h0 _ ih=>intro r' A;cases A with
  | note _ h2=>exact ih h2
  | letN=>exact absurd h0 q9a
  | letE=>exact absurd h0 q9a
  | letB=>exact absurd h0 q9a
  | letX=>exact absurd h0 q9a
  | letO=>exact absurd h0 q9a
  | doB h2=>exact absurd h0 h2
  | doX h2=>exact absurd h0 h2
  | doO h2=>exact absurd h0 h2
 | letN h0=>intro r' A;cases A with
  | note h2=>exact absurd h2 q9a
  | letN=>rfl
  | letE h2=>rw[h0 _ rfl]at h2;cases h2
  | letB h2=>rw[h0 _ rfl]at h2;cases h2
  | letX h2=>rw[h0 _ rfl]at h2;cases h2
  | letO h2=>rw[h0 _ rfl]at h2;cases h2
  | doB _ h2=>exact absurd rfl h2
  | doX _ h2=>exact absurd rfl h2
  | doO _ h2=>exact absurd rfl h2
 | letE h0 h1=>intro r' A;cases A with
  | note h2=>exact absurd h2 q9a
  | letN h2=>rw[h2 _ rfl]at h0;cases h0
  | letE=>rfl
  | letB=>simp at h1
  | letX=>simp at h1
  | letO=>simp at h1
  | doB _ h2=>exact absurd rfl h2
  | doX _ h2=>exact absurd rfl h2
  | doO _ h2=>exact absurd rfl h2
 | letB h0 h1=>intro r' A;cases A with
  | note h2=>exact absurd h2 q9a
  | letN h2=>rw[h2 _ rfl]at h0;cases h0
  | letE _ h2=>simp at h2
  | letB _ h2=>cases q3f h1 h2;rfl
  | letX _ h2=>cases q3f h1 h2
  | letO _ h2=>cases q3f h1 h2
  | doB _ h2=>exact absurd rfl h2
  | doX _ h2=>exact absurd rfl h2
  | doO _ h2=>exact absurd rfl h2
 | letX h0 h1 h3=>intro r' A;cases A with
  | note h2=>exact absurd h2 q9a
  | letN h2=>rw[h2 _ rfl]at h0;cases h0
  | letE _ h2=>simp at h2
  | letB _ h2=>cases q3f h1 h2
  | letX _ h2 _=>cases q3f h1 h2;rfl
  | letO _ h2 _=>cases q3f h1 h2;simp at h3
  | doB _ h2=>exact absurd rfl h2
  | doX _ h2=>exact absurd rfl h2
  | doO _ h2=>exact absurd rfl h2
 | letO h0 h1 _ ih=>intro r' A;cases A with
  | note h2=>exact absurd h2 q9a
  | letN h2=>rw[h2 _ rfl]at h0;cases h0
  | letE _ h2=>simp at h2
  | letB _ h2=>cases q3f h1 h2
  | letX _ h2 h4=>cases q3f h1 h2;simp at h4
  | letO _ h2 h4=>cases q3f h1 h2;exact ih h4
  | doB _ h2=>exact absurd rfl h2
  | doX _ h2=>exact absurd rfl h2
  | doO _ h2=>exact absurd rfl h2
 | doB h0 h1 h3=>intro r' A;cases A with
  | note h2=>exact absurd h2 h0
  | letN=>exact absurd rfl h1
  | letE=>exact absurd rfl h1
  | letB=>exact absurd rfl h1
  | letX=>exact absurd rfl h1
  | letO=>exact absurd rfl h1
  | doB _ _ h2=>cases q3f h3 h2;rfl
  | doX _ _ h2=>cases q3f h3 h2
  | doO _ _ h2=>cases q3f h3 h2
 | doX h0 h1 h3 h4=>intro r' A;cases A with
  | note h2=>exact absurd h2 h0
  | letN=>exact absurd rfl h1
  | letE=>exact absurd rfl h1
  | letB=>exact absurd rfl h1
  | letX=>exact absurd rfl h1
  | letO=>exact absurd rfl h1
  | doB _ _ h2=>cases q3f h3 h2
  | doX _ _ h2 _=>cases q3f h3 h2;rfl
  | doO _ _ h2 _=>cases q3f h3 h2;simp at h4
 | doO h0 h1 h3 _ ih=>intro r' A;cases A with
  | note h2=>exact absurd h2 h0
  | letN=>exact absurd rfl h1
  | letE=>exact absurd rfl h1
  | letB=>exact absurd rfl h1
  | letX=>exact absurd rfl h1
  | letO=>exact absurd rfl h1
  | doB _ _ h2=>cases q3f h3 h2
  | doX _ _ h2 h4=>cases q3f h3 h2;simp at h4
  | doO _ _ h2 h4=>cases q3f h3 h2;exact ih h4
def okP:Int->List (List Td)->Prop
 | _,[]=>True
 | prev,t::r=>q0c t=0/\¬(opT t=9/\prev=9)/\okP (opT t) r
theorem v9a:∀(ps:List (List Td))(prev:Int)(k:Nat),(q3z prev k ps).2=0->okP prev ps
 | [],_,_,_=>trivial
 | t::r,prev,k,h=>by
  rw[q3z]at h
  split at h
  ·rename_i h1;exact absurd h h1
  ·rename_i h1
   split at h
   ·cases h
   ·rename_i h2;exact⟨by omega,h2,v9a r _ _ h⟩
theorem z9c{ps:List (List Td)}(h:(q0r ps).2=0):ps.length<=20/\okP 0 ps:=by
 unfold q0r at h
 split at h
 ·cases h
 ·exact⟨by omega,v9a ps 0 0 h⟩
end Go.Proofs.YthcpdohdppkmkaaGreatDoor
