/- Texts as one: WayP, LayP, LayQ, TreF, LayR, SynK, LnP, SynU. -/
import Derived.Test.YthjapabokcajhaaGreatDoorPi01
open Go.Proofs.Tryz
namespace Go.Proofs.YthjapabokcajhaaGreatDoor
def Tr.lay:Tr->Nat->List Int->Except Int (List UInt8 × List Int)
 | .leaf x,deep,ws=>if x.op=1 then .ok (x.tx.data.toList,ws)else if x.op=5 then .ok ([],ws)else .ok (10::List.replicate deep 32,ws)
 | .one x a,deep,ws=>
  if x.op=7 then a.lay (deep+x.n.toNat) ws
  else match ws with
   | []=>.error 2
   | c::ws=>if c=1 then a.lay deep ws else match a.flat with
    | none=>.error 4
    | some s=>.ok (s,ws)
 | .two x a b,deep,ws=>
  if x.op=6 then match a.lay deep ws with
   | .error e=>.error e
   | .ok (s,ws1)=>match b.lay deep ws1 with
    | .error e=>.error e
    | .ok (t,ws2)=>.ok (s++t,ws2)
  else match ws with
   | []=>.error 2
   | c::ws=>if c=0 then a.lay deep ws else b.lay deep ws
def Tr.ways:Tr->List (List Int)
 | .leaf _=>[[]]
 | .one x a=>if x.op=7 then a.ways else(if a.isFlat=true then [[0]]else [])++a.ways.map (1::·)
 | .two x a b=>if x.op=6 then a.ways.flatMap fun u=>b.ways.map (u++·)else a.ways.map (0::·)++b.ways.map (1::·)
def q3g(ws:List Int):Prop:=∀c∈ws,c=0\/c=1
theorem z5i:∀t:Tr,t.ways≠[]
 | .leaf _=>by simp[Tr.ways]
 | .one x a=>by
  simp only[Tr.ways]
  split
  ·exact z5i a
  ·have:=z5i a
   simp[this]
 | .two x a b=>by
  have h1:=z5i a;have h2:=z5i b;simp only[Tr.ways]
  split
  ·obtain⟨u,us,e⟩:=List.exists_cons_of_ne_nil h1;rw[e];simp[h2]
  ·simp[h1]
theorem q8h:∀(t:Tr)(u:List Int),u∈t.ways->q3g u
 | .leaf _,u,h=>by simp[Tr.ways]at h;subst h;simp[q3g]
 | .one x a,u,h=>by
  simp only[Tr.ways]at h
  split at h
  ·exact q8h a u h
  ·rcases List.mem_append.1 h with h|h
   ·split at h
    ·simp at h;subst h;simp[q3g]
    ·simp at h
   ·obtain⟨v,hv,rfl⟩:=List.mem_map.1 h
    have:=q8h a v hv
    intro c hc;rcases List.mem_cons.1 hc with rfl|hc
    ·exact .inr rfl
    ·exact this c hc
 | .two x a b,u,h=>by
  simp only[Tr.ways]at h
  split at h
  ·obtain⟨p,hp,hpq⟩:=List.mem_flatMap.1 h;obtain⟨q,hq,rfl⟩:=List.mem_map.1 hpq;have h1:=q8h a p hp;have h2:=q8h b q hq;intro c hc;rcases List.mem_append.1 hc with hc|hc
   ·exact h1 c hc
   ·exact h2 c hc
  ·rcases List.mem_append.1 h with h|h
   ·obtain⟨v,hv,rfl⟩:=List.mem_map.1 h
    have:=q8h a v hv
    intro c hc;rcases List.mem_cons.1 hc with rfl|hc
    ·exact .inl rfl
    ·exact this c hc
   ·obtain⟨v,hv,rfl⟩:=List.mem_map.1 h
    have:=q8h b v hv
    intro c hc;rcases List.mem_cons.1 hc with rfl|hc
    ·exact .inr rfl
    ·exact this c hc
theorem q7e:∀(t:Tr)(deep:Nat)(u r:List Int),u∈t.ways->∃s,t.lay deep (u++r)=.ok (s,r)
 | .leaf x,deep,u,r,h=>by
  simp[Tr.ways]at h;subst h;simp only[Tr.lay,List.nil_append]
  split
  ·exact⟨_,rfl⟩
  ·split
   ·exact⟨_,rfl⟩
   ·exact⟨_,rfl⟩
 | .one x a,deep,u,r,h=>by
  simp only[Tr.ways]at h;simp only[Tr.lay]
  split at h
  ·rename_i h7;rw[if_pos h7];exact q7e a _ u r h
  ·rename_i h7;rw[if_neg h7];rcases List.mem_append.1 h with h|h
   ·split at h
    ·rename_i hf;simp at h;subst h;simp only[List.cons_append,List.nil_append];rw[if_neg (by decide)];rw[Tr.isFlat]at hf;cases hfl:a.flat with
     | none=>rw[hfl]at hf;cases hf
     | some s=>exact⟨s,rfl⟩
    ·simp at h
   ·obtain⟨v,hv,rfl⟩:=List.mem_map.1 h;simp only[List.cons_append,if_pos];exact q7e a deep v r hv
 | .two x a b,deep,u,r,h=>by
  simp only[Tr.ways]at h;simp only[Tr.lay]
  split at h
  ·rename_i h6;rw[if_pos h6];obtain⟨p,hp,hpq⟩:=List.mem_flatMap.1 h;obtain⟨q,hq,rfl⟩:=List.mem_map.1 hpq;obtain⟨s1,e1⟩:=q7e a deep p (q++r) hp;obtain⟨s2,e2⟩:=q7e b deep q r hq;rw[List.append_assoc,e1];simp only[e2];exact⟨_,rfl⟩
  ·rename_i h6;rw[if_neg h6];rcases List.mem_append.1 h with h|h
   ·obtain⟨v,hv,rfl⟩:=List.mem_map.1 h;simp only[List.cons_append,if_pos];exact q7e a deep v r hv
   ·obtain⟨v,hv,rfl⟩:=List.mem_map.1 h;simp only[List.cons_append];rw[if_neg (by decide)];exact q7e b deep v r hv
theorem q5l:∀(t:Tr)(deep:Nat)(ws r:List Int)(s:List UInt8),q3g ws->t.lay deep ws=.ok (s,r)->∃u∈t.ways,ws=u++r
 | .leaf x,deep,ws,r,s,_,h=>by
  refine⟨[],by simp[Tr.ways],?_⟩;simp only[Tr.lay]at h
  split at h
  ·cases h;rfl
  ·split at h
   ·cases h;rfl
   ·cases h;rfl
 | .one x a,deep,ws,r,s,h0,h=>by
  simp only[Tr.lay]at h;simp only[Tr.ways]
  split at h
  ·rename_i h7;rw[if_pos h7];exact q5l a _ ws r s h0 h
  ·rename_i h7;rw[if_neg h7]
   match ws,h0,h with
   | [],_,h=>cases h
   | c::ws,h0,h=>
    simp only at h
    split at h
    ·rename_i h1;subst h1;obtain⟨u,hu,e⟩:=q5l a deep ws r s (fun d hd=>h0 d (by simp[hd])) h;exact⟨1::u,List.mem_append.2 (.inr (List.mem_map.2 ⟨u,hu,rfl⟩)),by rw[e];rfl⟩
    ·rename_i h1;have hc:c=0:=by have:=h0 c (by simp);omega
     subst hc;cases hf:a.flat with
     | none=>rw[hf]at h;cases h
     | some v=>
      rw[hf]at h;cases h;refine⟨[0],List.mem_append.2 (.inl ?_),rfl⟩;rw[if_pos (by rw[Tr.isFlat,hf];rfl)];simp
 | .two x a b,deep,ws,r,s,h0,h=>by
  simp only[Tr.lay]at h;simp only[Tr.ways]
  split at h
  ·rename_i h6;rw[if_pos h6];cases ha:a.lay deep ws with
   | error e=>rw[ha]at h;cases h
   | ok p=>
    obtain⟨s1,ws1⟩:=p;rw[ha]at h;simp only at h;cases hb:b.lay deep ws1 with
    | error e=>rw[hb]at h;cases h
    | ok q=>
     obtain⟨s2,ws2⟩:=q;rw[hb]at h;cases h;obtain⟨u,hu,e1⟩:=q5l a deep ws ws1 s1 h0 ha;obtain⟨v,hv,e2⟩:=q5l b deep ws1 r s2 (fun d hd=>h0 d (by rw[e1];simp[hd])) hb;exact⟨u++v,List.mem_flatMap.2 ⟨u,hu,List.mem_map.2 ⟨v,hv,rfl⟩⟩,by rw[e1,e2,List.append_assoc]⟩
  ·rename_i h6;rw[if_neg h6]
   match ws,h0,h with
   | [],_,h=>cases h
   | c::ws,h0,h=>
    simp only at h
    split at h
    ·rename_i h1;subst h1;obtain⟨u,hu,e⟩:=q5l a deep ws r s (fun d hd=>h0 d (by simp[hd])) h;exact⟨0::u,List.mem_append.2 (.inl (List.mem_map.2 ⟨u,hu,rfl⟩)),by rw[e];rfl⟩
    ·rename_i h1;have hc:c=1:=by have:=h0 c (by simp);omega
     subst hc;obtain⟨u,hu,e⟩:=q5l b deep ws r s (fun d hd=>h0 d (by simp[hd])) h;exact⟨1::u,List.mem_append.2 (.inr (List.mem_map.2 ⟨u,hu,rfl⟩)),by rw[e];rfl⟩
def Tr.show(t:Tr)(ws:List Int):Except Int (List UInt8):=
 if ws.all (fun c=>c==0||c==1)=true then match t.lay 0 ws with
  | .error e=>.error e
  | .ok (s,[])=>.ok s
  | .ok (_,_::_)=>.error 2
 else .error 1
theorem k3a{ws:List Int}:ws.all (fun c=>c==0||c==1)=true↔q3g ws:=by
 simp[q3g]
theorem z4w(t:Tr)(ws:List Int):(∃s,t.show ws=.ok s)↔ws∈t.ways:=by
 constructor
 ·rintro⟨s,h⟩;unfold Tr.show at h
  split at h
  ·rename_i h0;cases hl:t.lay 0 ws with
   | error e=>rw[hl]at h;cases h
   | ok p=>
    obtain⟨u,r⟩:=p;rw[hl]at h;cases r with
    | cons c r=>cases h
    | nil=>
     obtain⟨v,hv,e⟩:=q5l t 0 ws [] u (k3a.1 h0) hl;rw[List.append_nil]at e;rw[e];exact hv
  ·cases h
 ·intro h;obtain⟨s,hs⟩:=q7e t 0 ws [] h;rw[List.append_nil]at hs;refine⟨s,?_⟩;unfold Tr.show;rw[if_pos (k3a.2 (q8h t ws h)),hs]
def q3a:List Int->List Int->Prop
 | a::al,b::bs=>if a=b then q3a al bs else a<b
 | _,_=>False
theorem z3j:∀(u v r s:List Int),q3a u v->q3a (u++r) (v++s)
 | a::al,b::bs,r,s,h=>by
  simp only[List.cons_append,q3a]at h⊢
  split
  ·rename_i e;rw[if_pos e]at h;exact z3j al bs r s h
  ·rename_i e;rw[if_neg e]at h;exact h
theorem z6a:∀(u r s:List Int),q3a r s->q3a (u++r) (u++s)
 | [],r,s,h=>h
 | a::u,r,s,h=>by simp only[List.cons_append,q3a,if_pos];exact z6a u r s h
theorem z0l{α β:Type}{R:β->β->Prop}(f:α->List β):∀l:List α,(∀x∈l,(f x).Pairwise R)->l.Pairwise (fun x y=>∀p∈f x,∀q∈f y,R p q)->(l.flatMap f).Pairwise R
 | [],_,_=>List.Pairwise.nil
 | x::l,h1,h2=>by
  rw[List.flatMap_cons];rw[List.pairwise_cons]at h2;refine List.pairwise_append.2 ⟨h1 x (by simp),z0l f l (fun y hy=>h1 y (by simp[hy])) h2.2,?_⟩;intro p hp q hq;obtain⟨y,hy,hq⟩:=List.mem_flatMap.1 hq;exact h2.1 y hy p hp q hq
theorem z1d:∀t:Tr,t.ways.Pairwise q3a
 | .leaf _=>by simp[Tr.ways]
 | .one x a=>by
  simp only[Tr.ways];have ih:=z1d a
  split
  ·exact ih
  ·refine List.pairwise_append.2 ⟨?_,?_,?_⟩
   ·split<;>simp
   ·exact List.pairwise_map.2 (ih.imp fun h=>by simp only[q3a,if_pos];exact h)
   ·intro p hp q hq
    split at hp
    ·simp at hp;subst hp;obtain⟨v,_,rfl⟩:=List.mem_map.1 hq;simp[q3a]
    ·simp at hp
 | .two x a b=>by
  simp only[Tr.ways];have ia:=z1d a;have ib:=z1d b
  split
  ·refine z0l _ _ ?_ ?_
   ·intro u _;exact List.pairwise_map.2 (ib.imp fun h=>z6a u _ _ h)
   ·refine ia.imp ?_;intro u v h p hp q hq;obtain⟨r,_,rfl⟩:=List.mem_map.1 hp;obtain⟨s,_,rfl⟩:=List.mem_map.1 hq;exact z3j u v r s h
  ·refine List.pairwise_append.2 ⟨?_,?_,?_⟩
   ·exact List.pairwise_map.2 (ia.imp fun h=>by simp only[q3a,if_pos];exact h)
   ·exact List.pairwise_map.2 (ib.imp fun h=>by simp only[q3a,if_pos];exact h)
   ·intro p hp q hq;obtain⟨u,_,rfl⟩:=List.mem_map.1 hp;obtain⟨v,_,rfl⟩:=List.mem_map.1 hq;simp[q3a]
theorem v0a{x:Nd}(h:q1c x=0)(h1:x.op=1):∀b∈x.tx.data.toList,b≠10:=by
 obtain⟨_,_,_,_,h5,_⟩:=q1x h;have hw:=h5 h1;simp only[isW,Bool.and_eq_true,List.all_eq_true]at hw;intro b hb hc
 have:=hw.2 b hb
 subst hc;simp[q5x]at this
end Go.Proofs.YthjapabokcajhaaGreatDoor
namespace Go.Proofs.YthjapabokcajhaaGreatDoor
open Go
abbrev wdD(s:List UInt8):Tr:=.leaf ⟨1,wbS s,0⟩
abbrev blD:Tr:=.leaf ⟨2,⟨#[]⟩,0⟩
abbrev sfD:Tr:=.leaf ⟨3,⟨#[]⟩,0⟩
abbrev twD(a b:Tr):Tr:=.two ⟨6,⟨#[]⟩,0⟩ a b
abbrev dpD(a:Tr):Tr:=.one ⟨7,⟨#[]⟩,2⟩ a
abbrev grD(a:Tr):Tr:=.one ⟨8,⟨#[]⟩,0⟩ a
def inD(l:Nat)(x:Td)(d:Tr):Tr:=if prc x<l then twD (wdD [40]) (twD d (wdD [41]))else d
def kdD:List (Td × Tr)->Tr
 | []=>wdD []
 | p::r=>match r with
  | []=>p.2
  | _::_=>twD (twD p.2 (wdD [44])) (twD blD (kdD r))
def tw2(f:Td->Tr->Td->Tr->Tr):List (Td × Tr)->Tr
 | [a,b]=>f a.1 a.2 b.1 b.2
 | _=>wdD []
def q2p(op cl:List UInt8)(ks:List (Td × Tr)):Tr:=if ks.length=0 then wdD (op++cl)else grD (twD (wdD op) (twD (dpD (twD sfD (kdD ks))) (twD sfD (wdD cl))))
def q0l(x:Td)(ks:List (Td × Tr)):Tr:=
 if x.op=1 then wdD (q7l x.n.toNat)
 else if x.op=2 then wdD (btL x.tx)
 else if x.op=3 then q2p (btL x.tx++[40]) [41] ks
 else if x.op=4 then q2p [91] [93] ks
 else if x.op=5 then tw2 (fun x a y b=>grD (twD (inD 0 x a) (dpD (twD blD (twD (wdD [43,32]) (inD 1 y b)))))) ks
 else tw2 (fun x a y b=>grD (twD (inD 1 x a) (dpD (twD blD (twD (wdD [42,32]) (inD 2 y b)))))) ks
def Fo.dcs:Fo->List (Td × Tr)
 | .nil=>[]
 | .cons x k n=>(x,q0l x k.dcs)::n.dcs
theorem q5q:∀F:Fo,F.dcs.length=F.len
 | .nil=>rfl
 | .cons _ _ n=>by simp[Fo.dcs,Fo.len,q5q n]
def stD(x:Td)(d:Tr):Tr:=
 if x.op=7 then grD (twD (wdD ([108,101,116,32]++btL x.tx++[32,61])) (dpD (twD blD (twD d (wdD [59])))))else twD d (wdD [59])
theorem z4a(s:List UInt8):(wdD s).flat=some s:=rfl
theorem q6p{a b:Tr}{s t:List UInt8}(ha:a.flat=some s)(hb:b.flat=some t):(twD a b).flat=some (s++t):=by
 simp only[Tr.flat,if_true,ha,hb]
theorem v1y(a:Tr):(dpD a).flat=a.flat:=rfl
theorem v1z(a:Tr):(grD a).flat=a.flat:=rfl
theorem v1x:blD.flat=some [32]:=rfl
theorem y4a:sfD.flat=some []:=rfl
def Mt(p:Td × Tr)(t:Tn):Prop:=p.1=t.x/\p.2.flat=some t.tx
theorem v2a{p:Td × Tr}{t:Tn}(h:Mt p t)(l:Nat):(inD l p.1 p.2).flat=some (brx l t):=by
 unfold inD brx;rw[h.1]
 split
 ·rw[q6p (z4a _) (q6p h.2 (z4a _))];rfl
 ·exact h.2
inductive Mts:List (Td × Tr)->List Tn->Prop where
 | nil:Mts [] []
 | cons {p t ps ts}:Mt p t->Mts ps ts->Mts (p::ps) (t::ts)
theorem y3z:∀{ps:List (Td × Tr)}{ts:List Tn},Mts ps ts->ps≠[]->(kdD ps).flat=some (cmx ts)
 | _,_,.cons h .nil,_=>by simp only[kdD,cmx,List.append_nil];exact h.2
 | _,_,.cons (ps:=p::ps) (ts:=t::ts) h (.cons h2 h3),_=>by
  have ih:=y3z (Mts.cons h2 h3) (by simp)
  show(twD (twD _ (wdD [44])) (twD blD (kdD (p::ps)))).flat=_
  rw[q6p (q6p h.2 (z4a _)) (q6p v1x ih)];simp[cmx]
theorem j3v{ps:List (Td × Tr)}{ts:List Tn}(h:Mts ps ts)(op cl:List UInt8):(q2p op cl ps).flat=some (op++cmx ts++cl):=by
 unfold q2p
 split
 ·rename_i h0;cases h with
  | nil=>rw[z4a];simp[cmx]
  | cons=>simp at h0
 ·rename_i h0;have hne:ps≠[]:=fun e=>h0 (by rw[e];rfl)
  rw[v1z,q6p (z4a _) (q6p (by rw[v1y];exact q6p y4a (y3z h hne)) (q6p y4a (z4a _)))];simp
theorem y7p{x:Td}{ps:List (Td × Tr)}{ts:List Tn}(h:Mts ps ts)(hx:exN x)(hk:ps.length=kdT x):(q0l x ps).flat=some (k7v x ts):=by
 have two:kdT x=2->∃a b c d,ps=[a,b]/\ts=[c,d]/\Mt a c/\Mt b d:=fun e=>by
  rw[e]at hk;cases h with
  | nil=>simp at hk
  | cons h1 h2=>cases h2 with
   | nil=>simp at hk
   | cons h3 h4=>cases h4 with
    | nil=>exact⟨_,_,_,_,rfl,rfl,h1,h3⟩
    | cons=>simp at hk
 rcases q5a hx with⟨ho,_⟩|⟨ho,_⟩|⟨ho,_⟩|⟨ho,_⟩|⟨ho,_,_,h2⟩|⟨ho,_,_,h2⟩
 ·rw[show q0l x ps=wdD (q7l x.n.toNat) by simp[q0l,ho],show k7v x ts=q7l x.n.toNat by simp[k7v,ho]];rfl
 ·rw[show q0l x ps=wdD (btL x.tx) by simp[q0l,ho],show k7v x ts=btL x.tx by simp[k7v,ho]];rfl
 ·rw[show q0l x ps=q2p (btL x.tx++[40]) [41] ps by simp[q0l,ho],show k7v x ts=btL x.tx++40::(cmx ts++[41]) by simp[k7v,ho],j3v h];simp
 ·rw[show q0l x ps=q2p [91] [93] ps by simp[q0l,ho],show k7v x ts=91::(cmx ts++[93]) by simp[k7v,ho],j3v h];simp
 ·obtain⟨a,b,c,d,rfl,rfl,h3,h4⟩:=two h2;rw[show q0l x [a,b]=grD (twD (inD 0 a.1 a.2) (dpD (twD blD (twD (wdD [43,32]) (inD 1 b.1 b.2))))) by simp[q0l,tw2,ho],show k7v x [c,d]=brx 0 c++32::43::32::brx 1 d by simp[k7v,two2,ho]];rw[v1z,q6p (v2a h3 0) (by rw[v1y];exact q6p v1x (q6p (z4a _) (v2a h4 1)))];rfl
 ·obtain⟨a,b,c,d,rfl,rfl,h3,h4⟩:=two h2;rw[show q0l x [a,b]=grD (twD (inD 1 a.1 a.2) (dpD (twD blD (twD (wdD [42,32]) (inD 2 b.1 b.2))))) by simp[q0l,tw2,ho],show k7v x [c,d]=brx 1 c++32::42::32::brx 2 d by simp[k7v,two2,ho]];rw[v1z,q6p (v2a h3 1) (by rw[v1y];exact q6p v1x (q6p (z4a _) (v2a h4 2)))];rfl
theorem z8e:∀F:Fo,F.ok->F.exs->Mts F.dcs F.trs
 | .nil,_,_=>.nil
 | .cons x k n,hok,hex=>by
  have h1:=z8e k hok.2.1 fun y hy=>hex y (by simp[Fo.nodes,hy])
  have h2:=z8e n hok.2.2 fun y hy=>hex y (by simp[Fo.nodes,hy])
  exact .cons ⟨rfl,y7p h1 (hex x (by simp[Fo.nodes])) (by rw[q5q];exact hok.1)⟩ h2
def dnB(c:UInt8):Bool:=c != 32&&c != 10
def Tr.noE:Tr->Prop
 | .leaf x=>x.op≠4
 | .one _ a=>a.noE
 | .two x a b=>x.op=6/\a.noE/\b.noE
theorem q7w:∀(t:Tr)(s:List UInt8),t.noE->t.Wf->t.flat=some s->∀(deep:Nat)(ws ws':List Int)(r:List UInt8),t.lay deep ws=.ok (r,ws')->r.filter dnB=s.filter dnB
 | .leaf x,s,hn,hw,hf,deep,ws,ws',r,h=>by
  simp only[Tr.flat]at hf;simp only[Tr.lay]at h
  have hrep:(10::List.replicate deep (32:UInt8)).filter dnB=[]:=by
   rw[List.filter_eq_nil_iff];intro c hc;rcases List.mem_cons.1 hc with rfl|hc
   ·decide
   ·rw[List.eq_of_mem_replicate hc];decide
  split at hf
  ·rename_i h1;rw[if_pos h1]at h;cases hf;cases h;rfl
  ·rename_i h1;rw[if_neg h1]at h
   split at hf
   ·rename_i h2;rw[if_neg (by omega)]at h;cases hf;cases h;rw[hrep];rfl
   ·split at hf
    ·cases hf
    ·cases hf
     split at h
     ·cases h;rfl
     ·cases h;rw[hrep];rfl
 | .one x a,s,hn,hw,hf,deep,ws,ws',r,h=>by
  have hf':a.flat=some s:=hf;simp only[Tr.lay]at h
  split at h
  ·exact q7w a s hn hw.2.2 hf' _ _ _ _ h
  ·cases ws with
   | nil=>cases h
   | cons c ws=>
    simp only at h
    split at h
    ·exact q7w a s hn hw.2.2 hf' _ _ _ _ h
    ·rw[hf']at h;cases h;rfl
 | .two x a b,s,hn,hw,hf,deep,ws,ws',r,h=>by
  obtain⟨h6,ha,hb⟩:=hn;simp only[Tr.flat,if_pos h6]at hf;simp only[Tr.lay,if_pos h6]at h;cases ea:a.flat with
  | none=>rw[ea]at hf;cases hf
  | some s1=>
   cases eb:b.flat with
   | none=>rw[ea,eb]at hf;cases hf
   | some s2=>
    rw[ea,eb]at hf;cases hf;cases la:a.lay deep ws with
    | error e=>rw[la]at h;cases h
    | ok p=>
     obtain⟨r1,ws1⟩:=p;rw[la]at h;simp only at h;cases lb:b.lay deep ws1 with
     | error e=>rw[lb]at h;cases h
     | ok p2=>
      obtain⟨r2,ws2⟩:=p2;rw[lb]at h;cases h;rw[List.filter_append,List.filter_append,q7w a s1 ha hw.2.2.1 ea _ _ _ _ la,q7w b s2 hb hw.2.2.2 eb _ _ _ _ lb]
theorem v3f{c:UInt8}(h:q2j c=true):q5x c=true:=by
 simp only[q2j,Bool.and_eq_true,decide_eq_true_eq]at h;simp only[q5x,Bool.and_eq_true,decide_eq_true_eq];omega
theorem v1w{c:UInt8}(h:q1z c=true):q5x c=true:=by
 simp only[q1z,Bool.and_eq_true,decide_eq_true_eq]at h;simp only[q5x,Bool.and_eq_true,decide_eq_true_eq];omega
theorem z2t{s:List UInt8}(h1:1<=s.length)(h2:s.length<=20)(h3:∀c∈s,q5x c=true):(wdD s).Wf:=by
 have e:(wbS s).size=s.length:=by rw[<-q0c];rfl
 have hw:isW (wbS s)=true:=by
  simp only[isW,Bool.and_eq_true,decide_eq_true_eq,List.all_eq_true];exact⟨⟨by omega,by omega⟩,h3⟩
 refine⟨?_,rfl⟩;simp only[q1c,hw];rfl
theorem v5p:blD.Wf:=⟨rfl,rfl⟩
theorem y6d:sfD.Wf:=⟨rfl,rfl⟩
theorem q7f{a b:Tr}(ha:a.Wf)(hb:b.Wf):(twD a b).Wf:=⟨rfl,rfl,ha,hb⟩
theorem v5q{a:Tr}(ha:a.Wf):(dpD a).Wf:=⟨rfl,rfl,ha⟩
theorem v5r{a:Tr}(ha:a.Wf):(grD a).Wf:=⟨rfl,rfl,ha⟩
theorem v5s{l:Nat}{x:Td}{d:Tr}(h:d.Wf):(inD l x d).Wf:=by
 unfold inD
 split
 ·exact q7f (z2t (by decide) (by decide) (by decide)) (q7f h (z2t (by decide) (by decide) (by decide)))
 ·exact h
theorem y6c:∀ps:List (Td × Tr),(∀p∈ps,p.2.Wf)->ps≠[]->(kdD ps).Wf
 | [p],h,_=>h p (by simp)
 | p::q::r,h,_=>q7f (q7f (h p (by simp)) (z2t (by decide) (by decide) (by decide))) (q7f v5p (y6c (q::r) (fun z hz=>h z (by simp at hz⊢;right;exact hz)) (by simp)))
theorem j9x{op cl:List UInt8}{ps:List (Td × Tr)}(h:∀p∈ps,p.2.Wf)(h1:1<=op.length)(h2:op.length+cl.length<=20)(h3:∀c∈op,q5x c=true)(h4:1<=cl.length)(h5:∀c∈cl,q5x c=true):(q2p op cl ps).Wf:=by
 unfold q2p
 split
 ·refine z2t (by simp;omega) (by simp;omega) fun c hc=>?_
  rcases List.mem_append.1 hc with hc|hc
  ·exact h3 c hc
  ·exact h5 c hc
 ·rename_i h0;exact v5r (q7f (z2t h1 (by omega) h3) (q7f (v5q (q7f y6d (y6c ps h fun e=>h0 (by rw[e];rfl)))) (q7f y6d (z2t h4 (by omega) h5))))
theorem z4l{s:ByteArray}(h:q0o s=true):1<=(btL s).length/\(btL s).length<=8/\∀c∈btL s,q5x c=true:=by
 have h8:=q3l h;simp only[q0o,Bool.and_eq_true,decide_eq_true_eq,List.all_eq_true]at h;exact⟨by rw[q0c];exact h.1.1.1,h8,fun c hc=>v3f (h.2 c hc)⟩
theorem y8v{x:Td}{ps:List (Td × Tr)}(h:∀p∈ps,p.2.Wf)(hx:exN x)(hk:ps.length=kdT x):(q0l x ps).Wf:=by
 have two:kdT x=2->∃a b,ps=[a,b]/\a.2.Wf/\b.2.Wf:=fun e=>by
  rw[e]at hk
  match ps,hk with
  | [a,b],_=>exact⟨a,b,rfl,h a (by simp),h b (by simp)⟩
 rcases q5a hx with⟨ho,_,h0,h9,_⟩|⟨ho,hn,_⟩|⟨ho,hn,_⟩|⟨ho,_⟩|⟨ho,_,_,h2⟩|⟨ho,_,_,h2⟩
 ·rw[show q0l x ps=wdD (q7l x.n.toNat) by simp[q0l,ho]];have h1:=z3a 5 x.n.toNat (by omega);have h2:=List.length_pos_iff.2 (v9j x.n.toNat);exact z2t (by omega) (by omega) fun c hc=>v1w (v1t _ c hc)
 ·obtain⟨n1,n2,n3⟩:=z4l hn;rw[show q0l x ps=wdD (btL x.tx) by simp[q0l,ho]];exact z2t n1 (by omega) n3
 ·obtain⟨n1,n2,n3⟩:=z4l hn;rw[show q0l x ps=q2p (btL x.tx++[40]) [41] ps by simp[q0l,ho]];refine j9x h (by simp) (by rw[List.length_append];simp only[List.length_cons,List.length_nil];omega) (fun c hc=>?_) (by decide) (by decide);rcases List.mem_append.1 hc with hc|hc
  ·exact n3 c hc
  ·simp at hc;subst hc;decide
 ·rw[show q0l x ps=q2p [91] [93] ps by simp[q0l,ho]];exact j9x h (by decide) (by decide) (by decide) (by decide) (by decide)
 ·obtain⟨a,b,rfl,h3,h4⟩:=two h2;rw[show q0l x [a,b]=grD (twD (inD 0 a.1 a.2) (dpD (twD blD (twD (wdD [43,32]) (inD 1 b.1 b.2))))) by simp[q0l,tw2,ho]];exact v5r (q7f (v5s h3) (v5q (q7f v5p (q7f (z2t (by decide) (by decide) (by decide)) (v5s h4)))))
 ·obtain⟨a,b,rfl,h3,h4⟩:=two h2;rw[show q0l x [a,b]=grD (twD (inD 1 a.1 a.2) (dpD (twD blD (twD (wdD [42,32]) (inD 2 b.1 b.2))))) by simp[q0l,tw2,ho]];exact v5r (q7f (v5s h3) (v5q (q7f v5p (q7f (z2t (by decide) (by decide) (by decide)) (v5s h4)))))
theorem j3b:∀F:Fo,F.ok->F.exs->∀p∈F.dcs,p.2.Wf
 | .nil,_,_,p,hp=>by cases hp
 | .cons x k n,hok,hex,p,hp=>by
  have h1:=j3b k hok.2.1 fun y hy=>hex y (by simp[Fo.nodes,hy])
  have h2:=j3b n hok.2.2 fun y hy=>hex y (by simp[Fo.nodes,hy])
  rcases List.mem_cons.1 hp with rfl|hp
  ·exact y8v h1 (hex x (by simp[Fo.nodes])) (by rw[q5q];exact hok.1)
  ·exact h2 p hp
theorem v3k{l:Nat}{x:Td}{d:Tr}(h:d.noE):(inD l x d).noE:=by
 unfold inD
 split
 ·exact⟨rfl,by show(1:Int)≠4;decide,rfl,h,by show(1:Int)≠4;decide⟩
 ·exact h
theorem y4p:∀ps:List (Td × Tr),(∀p∈ps,p.2.noE)->(kdD ps).noE
 | [],_=>by show(1:Int)≠4;decide
 | [p],h=>h p (by simp)
 | p::q::r,h=>⟨rfl,⟨rfl,h p (by simp),by show(1:Int)≠4;decide⟩,rfl,by show(2:Int)≠4;decide,y4p (q::r) (fun z hz=>h z (by simp at hz⊢;right;exact hz))⟩
theorem j5y{op cl:List UInt8}{ps:List (Td × Tr)}(h:∀p∈ps,p.2.noE):(q2p op cl ps).noE:=by
 unfold q2p
 split
 ·show(1:Int)≠4;decide
 ·exact⟨rfl,by show(1:Int)≠4;decide,rfl,⟨rfl,by show(3:Int)≠4;decide,y4p ps h⟩,rfl,by show(3:Int)≠4;decide,by show(1:Int)≠4;decide⟩
theorem v7b{f:Td->Tr->Td->Tr->Tr}{ps:List (Td × Tr)}(h:∀p∈ps,p.2.noE)(hf:∀x a y b,a.noE->b.noE->(f x a y b).noE):(tw2 f ps).noE:=by
 unfold tw2
 split
 ·exact hf _ _ _ _ (h _ (by simp)) (h _ (by simp))
 ·show(1:Int)≠4;decide
theorem y8h{x:Td}{ps:List (Td × Tr)}(h:∀p∈ps,p.2.noE):(q0l x ps).noE:=by
 have h1:(1:Int)≠4:=by decide
 have h2:(2:Int)≠4:=by decide
 unfold q0l
 split
 ·exact h1
 ·split
  ·exact h1
  ·split
   ·exact j5y h
   ·split
    ·exact j5y h
    ·split
     ·exact v7b h fun x a y b ha hb=>⟨rfl,v3k ha,rfl,h2,rfl,h1,v3k hb⟩
     ·exact v7b h fun x a y b ha hb=>⟨rfl,v3k ha,rfl,h2,rfl,h1,v3k hb⟩
theorem k3k:∀F:Fo,∀p∈F.dcs,p.2.noE
 | .nil,p,hp=>by cases hp
 | .cons x k n,p,hp=>by
  rcases List.mem_cons.1 hp with rfl|hp
  ·exact y8h (k3k k)
  ·exact k3k n p hp
def z3e(ps:List (Td × Tr)):Nat:=(ps.map fun p=>p.2.nodes.length+5).sum
theorem q2f(p:Td × Tr)(r:List (Td × Tr)):z3e (p::r)=p.2.nodes.length+5+z3e r:=by simp[z3e]
theorem k9k(l:Nat)(x:Td)(d:Tr):(inD l x d).nodes.length<=d.nodes.length+4:=by
 unfold inD
 split
 ·simp only[Tr.nodes,List.length_cons,List.length_append,List.length_nil];omega
 ·omega
theorem k9l:∀ps:List (Td × Tr),(kdD ps).nodes.length<=z3e ps+1
 | []=>by simp[kdD,z3e,Tr.nodes]
 | [p]=>by simp only[kdD,q2f];omega
 | p::q::r=>by
  have ih:=k9l (q::r)
  show(twD (twD p.2 (wdD [44])) (twD blD (kdD (q::r)))).nodes.length<=_
  rw[q2f];simp only[Tr.nodes,List.length_cons,List.length_append,List.length_nil];omega
theorem y8i{x:Td}{ps:List (Td × Tr)}:(q0l x ps).nodes.length<=15+z3e ps:=by
 have hm:∀op cl:List UInt8,(q2p op cl ps).nodes.length<=15+z3e ps:=fun op cl=>by
  have hk:=k9l ps;unfold q2p
  split
  ·simp only[Tr.nodes,List.length_cons,List.length_nil];omega
  ·simp only[Tr.nodes,List.length_cons,List.length_append,List.length_nil];omega
 have ht:∀f:Td->Tr->Td->Tr->Tr,(∀x a y b,(f x a y b).nodes.length<=15+a.nodes.length+b.nodes.length)->(tw2 f ps).nodes.length<=15+z3e ps:=fun f hf=>by
  unfold tw2
  split
  ·rename_i a b
   have:=hf a.1 a.2 b.1 b.2
   rw[q2f,q2f];omega
  ·simp only[Tr.nodes,List.length_cons,List.length_nil];omega
 have hs:∀(l m:Nat)(sg:List UInt8)(x:Td)(a:Tr)(y:Td)(b:Tr),(grD (twD (inD l x a) (dpD (twD blD (twD (wdD sg) (inD m y b)))))).nodes.length<=15+a.nodes.length+b.nodes.length:=fun l m sg x a y b=>by
  have h1:=k9k l x a;have h2:=k9k m y b;simp only[Tr.nodes,List.length_cons,List.length_append,List.length_nil];omega
 unfold q0l
 split
 ·simp only[Tr.nodes,List.length_cons,List.length_nil];omega
 ·split
  ·simp only[Tr.nodes,List.length_cons,List.length_nil];omega
  ·split
   ·exact hm _ _
   ·split
    ·exact hm _ _
    ·split
     ·exact ht _ (hs 0 1 [43,32])
     ·exact ht _ (hs 1 2 [42,32])
theorem z6g:∀F:Fo,z3e F.dcs<=20*F.nodes.length
 | .nil=>by simp[Fo.dcs,z3e]
 | .cons x k n=>by
  have h1:=z6g k;have h2:=z6g n;have h3:=y8i (x:=x) (ps:=k.dcs);rw[Fo.dcs,q2f,Fo.nodes];simp only[List.length_cons,List.length_append];omega
def opT(t:List Td):Int:=match t with
 | []=>0
 | x::_=>x.op
theorem z4n{t:List Td}(h:0<t.length):opT t=t[0].op:=by
 cases t with
 | nil=>simp at h
 | cons x r=>rfl
def q8a(prev:Int)(k:Nat):List (List Td)->Nat × Int
 | []=>(0,0)
 | t::r=>if q0b t≠0 then(k,q0b t)else if opT t=9/\prev=9 then(k,2)else q8a (opT t) (k+1) r
def q1i(ps:List (List Td)):Nat × Int:=if 20<ps.length then(0,3)else q8a 0 0 ps
theorem z1a{t:List Td}(h:q0b t=0):0<t.length:=by
 rcases Nat.eq_zero_or_pos t.length with h0|h0
 ·have:t=[]:=List.eq_nil_of_length_eq_zero h0
  subst this
  have:=(q3f h).2.2.1
  rw[q8m [] 0 0 (by simp)]at this;cases this
 ·exact h0
def q6x(ps:List (List Td))(k:Nat):Int:=if k=0 then 0 else opT (ps.getD (k-1) [])
theorem z2e{ps:List (List Td)}{k:Nat}(h:k<ps.length):q6x ps (k+1)=opT ps[k]:=by
 simp[q6x,h]
theorem k2e{ps:List (List Td)}{k:Nat}{prev:Int}(h:k<ps.length)(he:q0b ps[k]≠0):q8a prev k (ps.drop k)=(k,q0b ps[k]):=by
 rw[List.drop_eq_getElem_cons h,q8a,if_pos he]
theorem k2f{ps:List (List Td)}{k:Nat}{prev:Int}(h:k<ps.length)(he:q0b ps[k]=0)(h2:opT ps[k]=9/\prev=9):q8a prev k (ps.drop k)=(k,2):=by
 rw[List.drop_eq_getElem_cons h,q8a,if_neg (by simp[he]),if_pos h2]
theorem z7a{ps:List (List Td)}{k:Nat}{prev:Int}(h:k<ps.length)(he:q0b ps[k]=0)(h2:¬(opT ps[k]=9/\prev=9)):q8a prev k (ps.drop k)=q8a (q6x ps (k+1)) (k+1) (ps.drop (k+1)):=by
 rw[List.drop_eq_getElem_cons h,q8a,if_neg (by simp[he]),if_neg h2,z2e h]
def hdD(ps:List (Td × Tr)):Tr:=match ps with
 | p::_=>p.2
 | []=>wdD []
def q0r(t:List Td):Tr:=match j2a t with
 | .nil=>wdD []
 | .cons x k _=>stD x (hdD k.dcs)
theorem z3d{x:Td}{F:Fo}(h:F.ok)(hl:F.len=kdT x):q0r (x::F.nodes)=stD x (hdD F.dcs):=by
 rw[q0r,v7x h hl]
structure y7d(t:List Td):Prop where
 f:(q0r t).flat=some (v4t t)
 w:(q0r t).Wf
 e:(q0r t).noE
 n:(q0r t).nodes.length<=900
theorem y1h{F:Fo}(hl:F.len=1):∃y k,F=.cons y k .nil:=by
 cases F with
 | nil=>cases hl
 | cons y k n=>cases n with
  | nil=>exact⟨y,k,rfl⟩
  | cons _ _ _=>simp[Fo.len]at hl
theorem z0u{t:List Td}(h:q0b t=0)(h9:opT t≠9):∃(x y:Td)(k:Fo),t=x::(Fo.cons y k .nil).nodes/\(Fo.cons y k .nil).ok/\(Fo.cons y k .nil).exs/\(Fo.cons y k .nil).len=kdT x/\((x.op=7/\q0o x.tx=true/\x.n=0)\/(x.op=8/\x.tx=⟨#[]⟩/\x.n=0)):=by
 rcases z9j h with⟨x,rfl,ho,_⟩|⟨x,F,rfl,hok,hex,hl,hx⟩
 ·exact absurd ho h9
 ·obtain⟨y,k,rfl⟩:=y1h hl;refine⟨x,y,k,rfl,hok,hex,?_,hx⟩;rw[hl];unfold kdT;rcases hx with⟨ho,_⟩|⟨ho,_⟩<;>rw[ho]<;>rfl
theorem z3u{t:List Td}(h:q0b t=0)(h9:opT t≠9):y7d t:=by
 have hl40:=(q3f h).1;obtain⟨x,y,k,rfl,hok,hex,hk,hx⟩:=z0u h h9;have hm:=z8e _ hok hex;have hw:=j3b _ hok hex;have he:=k3k (.cons y k .nil);have hn:=z6g (.cons y k .nil);have e0:q0r (x::(Fo.cons y k .nil).nodes)=stD x (q0l y k.dcs):=z3d hok hk;have e1:v4t (x::(Fo.cons y k .nil).nodes)=stX x (Fo.cons y k .nil).trs:=(v4u hok hk).1
 have hf:(q0l y k.dcs).flat=some (y1d y k.trs).tx:=by
  cases hm with
  | cons h1 _=>exact h1.2
 have hw1:(q0l y k.dcs).Wf:=hw (y,q0l y k.dcs) (by simp[Fo.dcs]);have he1:(q0l y k.dcs).noE:=he (y,q0l y k.dcs) (by simp[Fo.dcs])
 have hn1:(q0l y k.dcs).nodes.length+5<=20*(Fo.cons y k .nil).nodes.length:=by
  rw[Fo.dcs,q2f]at hn
  have:z3e Fo.nil.dcs=0:=rfl
  exact Nat.le_trans (Nat.le_add_right _ _) hn
 simp only[List.length_cons]at hl40;generalize q0l y k.dcs=D at e0 hf hw1 he1 hn1;have w59:(wdD [59]).Wf:=z2t (by decide) (by decide) (by decide);have n1:(1:Int)≠4:=by decide
 have n2:(2:Int)≠4:=by decide
 rcases hx with⟨ho,hnm,_⟩|⟨ho,_,_⟩
 ·obtain⟨m1,m2,m3⟩:=z4l hnm;have e2:stD x D=grD (twD (wdD ([108,101,116,32]++btL x.tx++[32,61])) (dpD (twD blD (twD D (wdD [59]))))):=by rw[stD,if_pos ho]
  refine⟨?_,?_,?_,?_⟩
  ·rw[e0,e1,e2,v1z,q6p (z4a _) (by rw[v1y];exact q6p v1x (q6p hf (z4a _)))];simp[stX,ho,hdT,Fo.trs]
  ·rw[e0,e2];refine v5r (q7f (z2t (by simp) (by simp only[List.length_append,List.length_cons,List.length_nil];omega) fun c hc=>?_) (v5q (q7f v5p (q7f hw1 w59))));rcases List.mem_append.1 hc with hc|hc
   ·rcases List.mem_append.1 hc with hc|hc
    ·simp at hc;rcases hc with rfl|rfl|rfl|rfl<;>decide
    ·exact m3 c hc
   ·simp at hc;rcases hc with rfl|rfl<;>decide
  ·rw[e0,e2];exact⟨rfl,n1,rfl,n2,rfl,he1,n1⟩
  ·rw[e0,e2];simp only[Tr.nodes,List.length_cons,List.length_append,List.length_nil];omega
 ·have e2:stD x D=twD D (wdD [59]):=by rw[stD,if_neg (by omega)]
  refine⟨?_,?_,?_,?_⟩
  ·rw[e0,e1,e2,q6p hf (z4a _)];simp[stX,ho,hdT,Fo.trs]
  ·rw[e0,e2];exact q7f hw1 w59
  ·rw[e0,e2];exact⟨rfl,he1,n1⟩
  ·rw[e0,e2];simp only[Tr.nodes,List.length_cons,List.length_append,List.length_nil];omega
theorem j3f{t:List Td}(h:q0b t=0)(h9:opT t≠9){ws:List Int}{r:List UInt8}(hs:(q0r t).show ws=.ok r):r.filter dnB=(v4t t).filter dnB:=by
 have hd:=z3u h h9;unfold Tr.show at hs
 split at hs
 ·cases hl:(q0r t).lay 0 ws with
  | error e=>rw[hl]at hs;cases hs
  | ok p=>
   obtain⟨r',ws'⟩:=p;rw[hl]at hs;have h1:=q7w _ _ hd.e hd.w hd.f 0 ws ws' r' hl;cases ws' with
   | nil=>cases hs;exact h1
   | cons a b=>cases hs
 ·cases hs
end Go.Proofs.YthjapabokcajhaaGreatDoor
