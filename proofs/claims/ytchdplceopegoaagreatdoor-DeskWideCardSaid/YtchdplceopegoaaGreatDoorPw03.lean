/- Texts as one: FlatP, WayP, LayP, LayQ, TreF. -/
import Derived.Test.YtchdplceopegoaaGreatDoorPw02
namespace Go.Proofs.YtchdplceopegoaaGreatDoor
def Tr.flat:Tr→Option (List UInt8)
 | .leaf x=>if x.op=1 then some x.tx.data.toList else if x.op=2 then some [32] else if x.op=4 then none else some []
 | .one _ a=>a.flat
 | .two x a b=>if x.op=6 then (match a.flat,b.flat with | some s,some t=>some (s++t) | _,_=>none) else a.flat
def Tr.line (t:Tr):ByteArray:=⟨(t.flat.getD []).toArray⟩
def Tr.isFlat (t:Tr):Bool:=t.flat.isSome
theorem z8d (t:Tr):t.line.data.toList=t.flat.getD []:=by simp [Tr.line]
theorem z8e (t:Tr):t.line.size=(t.flat.getD []).length:=by rw [←q0w,z8d]
theorem z2d:∀ t:Tr,t.Wf→(t.flat.getD []).length≤20*t.nodes.length
 | .leaf x,h=>by
  obtain ⟨_,_,_,_,h5,_⟩:=q1r h.1
  simp only [Tr.flat,Tr.nodes]
  split
  ·rename_i h1
   have:=q3r (h5 h1)
   have e:=q0w x.tx
   simp only [Option.getD_some,List.length_cons,List.length_nil]
   omega
  ·repeat' split
   all_goals simp
 | .one x a,h=>by
  have:=z2d a h.2.2
  simp only [Tr.flat,Tr.nodes,List.length_cons]
  omega
 | .two x a b,h=>by
  have h1:=z2d a h.2.2.1
  have h2:=z2d b h.2.2.2
  simp only [Tr.flat,Tr.nodes,List.length_cons,List.length_append]
  split
  ·cases ha:a.flat with
   | none=>simp
   | some s=>
    cases hb:b.flat with
    | none=>simp
    | some t=>
     rw [ha] at h1
     rw [hb] at h2
     simp only [Option.getD_some] at h1 h2 ⊢
     rw [List.length_append]
     omega
  ·omega
theorem q5y:∀ (t:Tr) (s:List UInt8),t.Wf→t.flat=some s→∀ b∈s,b≠10
 | .leaf x,s,h,e=>by
  obtain ⟨_,_,_,_,h5,_⟩:=q1r h.1
  simp only [Tr.flat] at e
  split at e
  ·rename_i h1
   cases e
   have hw:=h5 h1
   simp only [isW,Bool.and_eq_true,List.all_eq_true] at hw
   intro b hb hc
   have:=hw.2 b hb
   subst hc
   simp [q4l] at this
  ·split at e
   ·cases e;simp
   ·split at e
    ·cases e
    ·cases e;simp
 | .one x a,s,h,e=>q5y a s h.2.2 e
 | .two x a b,s,h,e=>by
  simp only [Tr.flat] at e
  split at e
  ·cases ha:a.flat with
   | none=>rw [ha] at e;cases e
   | some u=>
    cases hb:b.flat with
    | none=>rw [ha,hb] at e;cases e
    | some v=>
     rw [ha,hb] at e
     cases e
     intro c hc
     rcases List.mem_append.1 hc with hc | hc
     ·exact q5y a u h.2.2.1 ha c hc
     ·exact q5y b v h.2.2.2 hb c hc
  ·exact q5y a s h.2.2.1 e
def Tr.lay:Tr→Nat→List Int→Except Int (List UInt8 × List Int)
 | .leaf x,deep,ws=>if x.op=1 then .ok (x.tx.data.toList,ws) else if x.op=5 then .ok ([],ws) else .ok (10::List.replicate deep 32,ws)
 | .one x a,deep,ws=>
  if x.op=7 then a.lay (deep+x.n.toNat) ws
  else match ws with
   | []=>.error 2
   | c::ws=>if c=1 then a.lay deep ws else match a.flat with
    | none=>.error 4
    | some s=>.ok (s,ws)
 | .two x a b,deep,ws=>
  if x.op=6 then match a.lay deep ws with
   | .error e=>.error e
   | .ok (s,ws1)=>match b.lay deep ws1 with
    | .error e=>.error e
    | .ok (t,ws2)=>.ok (s++t,ws2)
  else match ws with
   | []=>.error 2
   | c::ws=>if c=0 then a.lay deep ws else b.lay deep ws
def Tr.ways:Tr→List (List Int)
 | .leaf _=>[[]]
 | .one x a=>if x.op=7 then a.ways else (if a.isFlat=true then [[0]] else [])++a.ways.map (1::·)
 | .two x a b=>if x.op=6 then a.ways.flatMap fun u=>b.ways.map (u++·) else a.ways.map (0::·)++b.ways.map (1::·)
def q1x (ws:List Int):Prop:=∀ c∈ws,c=0∨c=1
theorem z2x:∀ t:Tr,t.ways≠[]
 | .leaf _=>by simp [Tr.ways]
 | .one x a=>by
  simp only [Tr.ways]
  split
  ·exact z2x a
  ·have:=z2x a
   simp [this]
 | .two x a b=>by
  have h1:=z2x a
  have h2:=z2x b
  simp only [Tr.ways]
  split
  ·obtain ⟨u,us,e⟩:=List.exists_cons_of_ne_nil h1
   rw [e]
   simp [h2]
  ·simp [h1]
theorem q6i:∀ (t:Tr) (u:List Int),u∈t.ways→q1x u
 | .leaf _,u,h=>by simp [Tr.ways] at h;subst h;simp [q1x]
 | .one x a,u,h=>by
  simp only [Tr.ways] at h
  split at h
  ·exact q6i a u h
  ·rcases List.mem_append.1 h with h | h
   ·split at h
    ·simp at h;subst h;simp [q1x]
    ·simp at h
   ·obtain ⟨v,hv,rfl⟩:=List.mem_map.1 h
    have:=q6i a v hv
    intro c hc
    rcases List.mem_cons.1 hc with rfl | hc
    ·exact .inr rfl
    ·exact this c hc
 | .two x a b,u,h=>by
  simp only [Tr.ways] at h
  split at h
  ·obtain ⟨p,hp,hpq⟩:=List.mem_flatMap.1 h
   obtain ⟨q,hq,rfl⟩:=List.mem_map.1 hpq
   have h1:=q6i a p hp
   have h2:=q6i b q hq
   intro c hc
   rcases List.mem_append.1 hc with hc | hc
   ·exact h1 c hc
   ·exact h2 c hc
  ·rcases List.mem_append.1 h with h | h
   ·obtain ⟨v,hv,rfl⟩:=List.mem_map.1 h
    have:=q6i a v hv
    intro c hc
    rcases List.mem_cons.1 hc with rfl | hc
    ·exact .inl rfl
    ·exact this c hc
   ·obtain ⟨v,hv,rfl⟩:=List.mem_map.1 h
    have:=q6i b v hv
    intro c hc
    rcases List.mem_cons.1 hc with rfl | hc
    ·exact .inr rfl
    ·exact this c hc
theorem q5o:∀ (t:Tr) (deep:Nat) (u r:List Int),u∈t.ways→∃ s,t.lay deep (u++r) = .ok (s,r)
 | .leaf x,deep,u,r,h=>by
  simp [Tr.ways] at h
  subst h
  simp only [Tr.lay,List.nil_append]
  split
  ·exact ⟨_,rfl⟩
  ·split
   ·exact ⟨_,rfl⟩
   ·exact ⟨_,rfl⟩
 | .one x a,deep,u,r,h=>by
  simp only [Tr.ways] at h
  simp only [Tr.lay]
  split at h
  ·rename_i h7
   rw [if_pos h7]
   exact q5o a _ u r h
  ·rename_i h7
   rw [if_neg h7]
   rcases List.mem_append.1 h with h | h
   ·split at h
    ·rename_i hf
     simp at h
     subst h
     simp only [List.cons_append,List.nil_append]
     rw [if_neg (by decide)]
     rw [Tr.isFlat] at hf
     cases hfl:a.flat with
     | none=>rw [hfl] at hf;cases hf
     | some s=>exact ⟨s,rfl⟩
    ·simp at h
   ·obtain ⟨v,hv,rfl⟩:=List.mem_map.1 h
    simp only [List.cons_append,if_pos]
    exact q5o a deep v r hv
 | .two x a b,deep,u,r,h=>by
  simp only [Tr.ways] at h
  simp only [Tr.lay]
  split at h
  ·rename_i h6
   rw [if_pos h6]
   obtain ⟨p,hp,hpq⟩:=List.mem_flatMap.1 h
   obtain ⟨q,hq,rfl⟩:=List.mem_map.1 hpq
   obtain ⟨s1,e1⟩:=q5o a deep p (q++r) hp
   obtain ⟨s2,e2⟩:=q5o b deep q r hq
   rw [List.append_assoc,e1]
   simp only [e2]
   exact ⟨_,rfl⟩
  ·rename_i h6
   rw [if_neg h6]
   rcases List.mem_append.1 h with h | h
   ·obtain ⟨v,hv,rfl⟩:=List.mem_map.1 h
    simp only [List.cons_append,if_pos]
    exact q5o a deep v r hv
   ·obtain ⟨v,hv,rfl⟩:=List.mem_map.1 h
    simp only [List.cons_append]
    rw [if_neg (by decide)]
    exact q5o b deep v r hv
theorem q4d:∀ (t:Tr) (deep:Nat) (ws r:List Int) (s:List UInt8),q1x ws→t.lay deep ws = .ok (s,r)→∃ u∈t.ways,ws=u++r
 | .leaf x,deep,ws,r,s,_,h=>by
  refine ⟨[],by simp [Tr.ways],?_⟩
  simp only [Tr.lay] at h
  split at h
  ·cases h;rfl
  ·split at h
   ·cases h;rfl
   ·cases h;rfl
 | .one x a,deep,ws,r,s,h0,h=>by
  simp only [Tr.lay] at h
  simp only [Tr.ways]
  split at h
  ·rename_i h7
   rw [if_pos h7]
   exact q4d a _ ws r s h0 h
  ·rename_i h7
   rw [if_neg h7]
   match ws,h0,h with
   | [],_,h=>cases h
   | c::ws,h0,h=>
    simp only at h
    split at h
    ·rename_i h1
     subst h1
     obtain ⟨u,hu,e⟩:=q4d a deep ws r s (fun d hd=>h0 d (by simp [hd])) h
     exact ⟨1::u,List.mem_append.2 (.inr (List.mem_map.2 ⟨u,hu,rfl⟩)),by rw [e];rfl⟩
    ·rename_i h1
     have hc:c=0:=by have:=h0 c (by simp);omega
     subst hc
     cases hf:a.flat with
     | none=>rw [hf] at h;cases h
     | some v=>
      rw [hf] at h
      cases h
      refine ⟨[0],List.mem_append.2 (.inl ?_),rfl⟩
      rw [if_pos (by rw [Tr.isFlat,hf];rfl)]
      simp
 | .two x a b,deep,ws,r,s,h0,h=>by
  simp only [Tr.lay] at h
  simp only [Tr.ways]
  split at h
  ·rename_i h6
   rw [if_pos h6]
   cases ha:a.lay deep ws with
   | error e=>rw [ha] at h;cases h
   | ok p=>
    obtain ⟨s1,ws1⟩:=p
    rw [ha] at h
    simp only at h
    cases hb:b.lay deep ws1 with
    | error e=>rw [hb] at h;cases h
    | ok q=>
     obtain ⟨s2,ws2⟩:=q
     rw [hb] at h
     cases h
     obtain ⟨u,hu,e1⟩:=q4d a deep ws ws1 s1 h0 ha
     obtain ⟨v,hv,e2⟩:=q4d b deep ws1 r s2 (fun d hd=>h0 d (by rw [e1];simp [hd])) hb
     exact ⟨u++v,List.mem_flatMap.2 ⟨u,hu,List.mem_map.2 ⟨v,hv,rfl⟩⟩,by rw [e1,e2,List.append_assoc]⟩
  ·rename_i h6
   rw [if_neg h6]
   match ws,h0,h with
   | [],_,h=>cases h
   | c::ws,h0,h=>
    simp only at h
    split at h
    ·rename_i h1
     subst h1
     obtain ⟨u,hu,e⟩:=q4d a deep ws r s (fun d hd=>h0 d (by simp [hd])) h
     exact ⟨0::u,List.mem_append.2 (.inl (List.mem_map.2 ⟨u,hu,rfl⟩)),by rw [e];rfl⟩
    ·rename_i h1
     have hc:c=1:=by have:=h0 c (by simp);omega
     subst hc
     obtain ⟨u,hu,e⟩:=q4d b deep ws r s (fun d hd=>h0 d (by simp [hd])) h
     exact ⟨1::u,List.mem_append.2 (.inr (List.mem_map.2 ⟨u,hu,rfl⟩)),by rw [e];rfl⟩
def Tr.show (t:Tr) (ws:List Int):Except Int (List UInt8):=
 if ws.all (fun c=>c == 0 || c == 1)=true then match t.lay 0 ws with
  | .error e=>.error e
  | .ok (s,[])=>.ok s
  | .ok (_,_::_)=>.error 2
 else .error 1
theorem k7d {ws:List Int}:ws.all (fun c=>c == 0 || c == 1)=true↔q1x ws:=by
 simp [q1x]
theorem j2q (t:Tr) (ws:List Int):(∃ s,t.show ws = .ok s)↔ws∈t.ways:=by
 constructor
 ·rintro ⟨s,h⟩
  unfold Tr.show at h
  split at h
  ·rename_i h0
   cases hl:t.lay 0 ws with
   | error e=>rw [hl] at h;cases h
   | ok p=>
    obtain ⟨u,r⟩:=p
    rw [hl] at h
    cases r with
    | cons c r=>cases h
    | nil=>
     obtain ⟨v,hv,e⟩:=q4d t 0 ws [] u (k7d.1 h0) hl
     rw [List.append_nil] at e
     rw [e];exact hv
  ·cases h
 ·intro h
  obtain ⟨s,hs⟩:=q5o t 0 ws [] h
  rw [List.append_nil] at hs
  refine ⟨s,?_⟩
  unfold Tr.show
  rw [if_pos (k7d.2 (q6i t ws h)),hs]
def q2e:List Int→List Int→Prop
 | a::al,b::bs=>if a=b then q2e al bs else a<b
 | _,_=>False
theorem z1p:∀ (u v r s:List Int),q2e u v→q2e (u++r) (v++s)
 | a::al,b::bs,r,s,h=>by
  simp only [List.cons_append,q2e] at h ⊢
  split
  ·rename_i e;rw [if_pos e] at h;exact z1p al bs r s h
  ·rename_i e;rw [if_neg e] at h;exact h
theorem z3l:∀ (u r s:List Int),q2e r s→q2e (u++r) (u++s)
 | [],r,s,h=>h
 | a::u,r,s,h=>by simp only [List.cons_append,q2e,if_pos];exact z3l u r s h
theorem q8o {α β:Type} {R:β→β→Prop} (f:α→List β):∀ l:List α,(∀ x∈l,(f x).Pairwise R)→l.Pairwise (fun x y=>∀ p∈f x,∀ q∈f y,R p q)→(l.flatMap f).Pairwise R
 | [],_,_=>List.Pairwise.nil
 | x::l,h1,h2=>by
  rw [List.flatMap_cons]
  rw [List.pairwise_cons] at h2
  refine List.pairwise_append.2 ⟨h1 x (by simp),q8o f l (fun y hy=>h1 y (by simp [hy])) h2.2,?_⟩
  intro p hp q hq
  obtain ⟨y,hy,hq⟩:=List.mem_flatMap.1 hq
  exact h2.1 y hy p hp q hq
theorem q9c:∀ t:Tr,t.ways.Pairwise q2e
 | .leaf _=>by simp [Tr.ways]
 | .one x a=>by
  simp only [Tr.ways]
  have ih:=q9c a
  split
  ·exact ih
  ·refine List.pairwise_append.2 ⟨?_,?_,?_⟩
   ·split<;>simp
   ·exact List.pairwise_map.2 (ih.imp fun h=>by simp only [q2e,if_pos];exact h)
   ·intro p hp q hq
    split at hp
    ·simp at hp
     subst hp
     obtain ⟨v,_,rfl⟩:=List.mem_map.1 hq
     simp [q2e]
    ·simp at hp
 | .two x a b=>by
  simp only [Tr.ways]
  have ia:=q9c a
  have ib:=q9c b
  split
  ·refine q8o _ _ ?_ ?_
   ·intro u _
    exact List.pairwise_map.2 (ib.imp fun h=>z3l u _ _ h)
   ·refine ia.imp ?_
    intro u v h p hp q hq
    obtain ⟨r,_,rfl⟩:=List.mem_map.1 hp
    obtain ⟨s,_,rfl⟩:=List.mem_map.1 hq
    exact z1p u v r s h
  ·refine List.pairwise_append.2 ⟨?_,?_,?_⟩
   ·exact List.pairwise_map.2 (ia.imp fun h=>by simp only [q2e,if_pos];exact h)
   ·exact List.pairwise_map.2 (ib.imp fun h=>by simp only [q2e,if_pos];exact h)
   ·intro p hp q hq
    obtain ⟨u,_,rfl⟩:=List.mem_map.1 hp
    obtain ⟨v,_,rfl⟩:=List.mem_map.1 hq
    simp [q2e]
theorem j4g {x:Nd} (h:q0p x=0) (h1:x.op=1):∀ b∈x.tx.data.toList,b≠10:=by
 obtain ⟨_,_,_,_,h5,_⟩:=q1r h
 have hw:=h5 h1
 simp only [isW,Bool.and_eq_true,List.all_eq_true] at hw
 intro b hb hc
 have:=hw.2 b hb
 subst hc
 simp [q4l] at this
end Go.Proofs.YtchdplceopegoaaGreatDoor
namespace Go.Proofs.YtchdplceopegoaaGreatDoor
open Go
abbrev wdD (s:List UInt8):Tr:=.leaf ⟨1,wbS s,0⟩
abbrev blD:Tr:=.leaf ⟨2,⟨#[]⟩,0⟩
abbrev sfD:Tr:=.leaf ⟨3,⟨#[]⟩,0⟩
abbrev twD (a b:Tr):Tr:=.two ⟨6,⟨#[]⟩,0⟩ a b
abbrev dpD (a:Tr):Tr:=.one ⟨7,⟨#[]⟩,2⟩ a
abbrev grD (a:Tr):Tr:=.one ⟨8,⟨#[]⟩,0⟩ a
def inD (l:Nat) (x:Td) (d:Tr):Tr:=if prc x<l then twD (wdD [40]) (twD d (wdD [41])) else d
def kdD:List (Td × Tr)→Tr
 | []=>wdD []
 | p::r=>match r with
  | []=>p.2
  | _::_=>twD (twD p.2 (wdD [44])) (twD blD (kdD r))
def tw2 (f:Td→Tr→Td→Tr→Tr):List (Td × Tr)→Tr
 | [a,b]=>f a.1 a.2 b.1 b.2
 | _=>wdD []
def q2p (op cl:List UInt8) (ks:List (Td × Tr)):Tr:=if ks.length=0 then wdD (op++cl) else grD (twD (wdD op) (twD (dpD (twD sfD (kdD ks))) (twD sfD (wdD cl))))
def q0m (x:Td) (ks:List (Td × Tr)):Tr:=
 if x.op=1 then wdD (q4m x.n.toNat)
 else if x.op=2 then wdD (btL x.tx)
 else if x.op=3 then q2p (btL x.tx++[40]) [41] ks
 else if x.op=4 then q2p [91] [93] ks
 else if x.op=5 then tw2 (fun x a y b=>grD (twD (inD 0 x a) (dpD (twD blD (twD (wdD [43,32]) (inD 1 y b)))))) ks
 else tw2 (fun x a y b=>grD (twD (inD 1 x a) (dpD (twD blD (twD (wdD [42,32]) (inD 2 y b)))))) ks
def Fo.dcs:Fo→List (Td × Tr)
 | .nil=>[]
 | .cons x k n=>(x,q0m x k.dcs)::n.dcs
theorem q9n:∀ F:Fo,F.dcs.length=F.len
 | .nil=>rfl
 | .cons _ _ n=>by simp [Fo.dcs,Fo.len,q9n n]
def stD (x:Td) (d:Tr):Tr:=
 if x.op=7 then grD (twD (wdD ([108,101,116,32]++btL x.tx++[32,61])) (dpD (twD blD (twD d (wdD [59]))))) else twD d (wdD [59])
theorem z2b (s:List UInt8):(wdD s).flat=some s:=rfl
theorem q5d {a b:Tr} {s t:List UInt8} (ha:a.flat=some s) (hb:b.flat=some t):(twD a b).flat=some (s++t):=by
 simp only [Tr.flat,if_true,ha,hb]
theorem j6e (a:Tr):(dpD a).flat=a.flat:=rfl
theorem j6f (a:Tr):(grD a).flat=a.flat:=rfl
theorem j6d:blD.flat=some [32]:=rfl
theorem v7k:sfD.flat=some []:=rfl
def Mt (p:Td × Tr) (t:Tn):Prop:=p.1=t.x∧p.2.flat=some t.tx
theorem j6g {p:Td × Tr} {t:Tn} (h:Mt p t) (l:Nat):(inD l p.1 p.2).flat=some (brx l t):=by
 unfold inD brx
 rw [h.1]
 split
 ·rw [q5d (z2b _) (q5d h.2 (z2b _))];rfl
 ·exact h.2
inductive Mts:List (Td × Tr)→List Tn→Prop where
 | nil:Mts [] []
 | cons {p t ps ts}:Mt p t→Mts ps ts→Mts (p::ps) (t::ts)
theorem v7j:∀ {ps:List (Td × Tr)} {ts:List Tn},Mts ps ts→ps≠[]→(kdD ps).flat=some (cmx ts)
 | _,_,.cons h .nil,_=>by simp only [kdD,cmx,List.append_nil];exact h.2
 | _,_,.cons (ps:=p::ps) (ts:=t::ts) h (.cons h2 h3),_=>by
  have ih:=v7j (Mts.cons h2 h3) (by simp)
  show (twD (twD _ (wdD [44])) (twD blD (kdD (p::ps)))).flat=_
  rw [q5d (q5d h.2 (z2b _)) (q5d j6d ih)]
  simp [cmx]
theorem k9j {ps:List (Td × Tr)} {ts:List Tn} (h:Mts ps ts) (op cl:List UInt8):(q2p op cl ps).flat=some (op++cmx ts++cl):=by
 unfold q2p
 split
 ·rename_i h0
  cases h with
  | nil=>rw [z2b];simp [cmx]
  | cons=>simp at h0
 ·rename_i h0
  have hne:ps≠[]:=fun e=>h0 (by rw [e];rfl)
  rw [j6f,q5d (z2b _) (q5d (by rw [j6e];exact q5d v7k (v7j h hne)) (q5d v7k (z2b _)))]
  simp
theorem y1g {x:Td} {ps:List (Td × Tr)} {ts:List Tn} (h:Mts ps ts) (hx:exN x) (hk:ps.length=kdT x):(q0m x ps).flat=some (q2r x ts):=by
 have two:kdT x=2→∃ a b c d,ps=[a,b]∧ts=[c,d]∧Mt a c∧Mt b d:=fun e=>by
  rw [e] at hk
  cases h with
  | nil=>simp at hk
  | cons h1 h2=>cases h2 with
   | nil=>simp at hk
   | cons h3 h4=>cases h4 with
    | nil=>exact ⟨_,_,_,_,rfl,rfl,h1,h3⟩
    | cons=>simp at hk
 rcases q3c hx with ⟨ho,_⟩ | ⟨ho,_⟩ | ⟨ho,_⟩ | ⟨ho,_⟩ | ⟨ho,_,_,h2⟩ | ⟨ho,_,_,h2⟩
 ·rw [show q0m x ps=wdD (q4m x.n.toNat) by simp [q0m,ho],show q2r x ts=q4m x.n.toNat by simp [q2r,ho]];rfl
 ·rw [show q0m x ps=wdD (btL x.tx) by simp [q0m,ho],show q2r x ts=btL x.tx by simp [q2r,ho]];rfl
 ·rw [show q0m x ps=q2p (btL x.tx++[40]) [41] ps by simp [q0m,ho],show q2r x ts=btL x.tx++40::(cmx ts++[41]) by simp [q2r,ho],k9j h];simp
 ·rw [show q0m x ps=q2p [91] [93] ps by simp [q0m,ho],show q2r x ts=91::(cmx ts++[93]) by simp [q2r,ho],k9j h];simp
 ·obtain ⟨a,b,c,d,rfl,rfl,h3,h4⟩:=two h2
  rw [show q0m x [a,b]=grD (twD (inD 0 a.1 a.2) (dpD (twD blD (twD (wdD [43,32]) (inD 1 b.1 b.2))))) by simp [q0m,tw2,ho],show q2r x [c,d]=brx 0 c++32::43::32::brx 1 d by simp [q2r,two2,ho]]
  rw [j6f,q5d (j6g h3 0) (by rw [j6e];exact q5d j6d (q5d (z2b _) (j6g h4 1)))]
  rfl
 ·obtain ⟨a,b,c,d,rfl,rfl,h3,h4⟩:=two h2
  rw [show q0m x [a,b]=grD (twD (inD 1 a.1 a.2) (dpD (twD blD (twD (wdD [42,32]) (inD 2 b.1 b.2))))) by simp [q0m,tw2,ho],show q2r x [c,d]=brx 1 c++32::42::32::brx 2 d by simp [q2r,two2,ho]]
  rw [j6f,q5d (j6g h3 1) (by rw [j6e];exact q5d j6d (q5d (z2b _) (j6g h4 2)))]
  rfl
theorem z5b:∀ F:Fo,F.ok→F.exs→Mts F.dcs F.trs
 | .nil,_,_=>.nil
 | .cons x k n,hok,hex=>by
  have h1:=z5b k hok.2.1 fun y hy=>hex y (by simp [Fo.nodes,hy])
  have h2:=z5b n hok.2.2 fun y hy=>hex y (by simp [Fo.nodes,hy])
  exact .cons ⟨rfl,y1g h1 (hex x (by simp [Fo.nodes])) (by rw [q9n];exact hok.1)⟩ h2
def dnB (c:UInt8):Bool:=c != 32 && c != 10
def Tr.noE:Tr→Prop
 | .leaf x=>x.op≠4
 | .one _ a=>a.noE
 | .two x a b=>x.op=6∧a.noE∧b.noE
theorem q6b:∀ (t:Tr) (s:List UInt8),t.noE→t.Wf→t.flat=some s→∀ (deep:Nat) (ws ws':List Int) (r:List UInt8),t.lay deep ws = .ok (r,ws')→r.filter dnB=s.filter dnB
 | .leaf x,s,hn,hw,hf,deep,ws,ws',r,h=>by
  simp only [Tr.flat] at hf
  simp only [Tr.lay] at h
  have hrep:(10::List.replicate deep (32:UInt8)).filter dnB=[]:=by
   rw [List.filter_eq_nil_iff]
   intro c hc
   rcases List.mem_cons.1 hc with rfl | hc
   ·decide
   ·rw [List.eq_of_mem_replicate hc];decide
  split at hf
  ·rename_i h1
   rw [if_pos h1] at h
   cases hf;cases h;rfl
  ·rename_i h1
   rw [if_neg h1] at h
   split at hf
   ·rename_i h2
    rw [if_neg (by omega)] at h
    cases hf;cases h
    rw [hrep];rfl
   ·split at hf
    ·cases hf
    ·cases hf
     split at h
     ·cases h;rfl
     ·cases h
      rw [hrep];rfl
 | .one x a,s,hn,hw,hf,deep,ws,ws',r,h=>by
  have hf':a.flat=some s:=hf
  simp only [Tr.lay] at h
  split at h
  ·exact q6b a s hn hw.2.2 hf' _ _ _ _ h
  ·cases ws with
   | nil=>cases h
   | cons c ws=>
    simp only at h
    split at h
    ·exact q6b a s hn hw.2.2 hf' _ _ _ _ h
    ·rw [hf'] at h
     cases h;rfl
 | .two x a b,s,hn,hw,hf,deep,ws,ws',r,h=>by
  obtain ⟨h6,ha,hb⟩:=hn
  simp only [Tr.flat,if_pos h6] at hf
  simp only [Tr.lay,if_pos h6] at h
  cases ea:a.flat with
  | none=>rw [ea] at hf;cases hf
  | some s1=>
   cases eb:b.flat with
   | none=>rw [ea,eb] at hf;cases hf
   | some s2=>
    rw [ea,eb] at hf
    cases hf
    cases la:a.lay deep ws with
    | error e=>rw [la] at h;cases h
    | ok p=>
     obtain ⟨r1,ws1⟩:=p
     rw [la] at h
     simp only at h
     cases lb:b.lay deep ws1 with
     | error e=>rw [lb] at h;cases h
     | ok p2=>
      obtain ⟨r2,ws2⟩:=p2
      rw [lb] at h
      cases h
      rw [List.filter_append,List.filter_append,q6b a s1 ha hw.2.2.1 ea _ _ _ _ la,q6b b s2 hb hw.2.2.2 eb _ _ _ _ lb]
theorem j7a {c:UInt8} (h:q3a c=true):q4l c=true:=by
 simp only [q3a,Bool.and_eq_true,decide_eq_true_eq] at h
 simp only [q4l,Bool.and_eq_true,decide_eq_true_eq]
 omega
theorem j6c {c:UInt8} (h:q3w c=true):q4l c=true:=by
 simp only [q3w,Bool.and_eq_true,decide_eq_true_eq] at h
 simp only [q4l,Bool.and_eq_true,decide_eq_true_eq]
 omega
theorem z0v {s:List UInt8} (h1:1≤s.length) (h2:s.length≤20) (h3:∀ c∈s,q4l c=true):(wdD s).Wf:=by
 have e:(wbS s).size=s.length:=by rw [←q0b];rfl
 have hw:isW (wbS s)=true:=by
  simp only [isW,Bool.and_eq_true,decide_eq_true_eq,List.all_eq_true]
  exact ⟨⟨by omega,by omega⟩,h3⟩
 refine ⟨?_,rfl⟩
 simp only [q0p,hw]
 rfl
theorem j9f:blD.Wf:=⟨rfl,rfl⟩
theorem v9u:sfD.Wf:=⟨rfl,rfl⟩
theorem q5p {a b:Tr} (ha:a.Wf) (hb:b.Wf):(twD a b).Wf:=⟨rfl,rfl,ha,hb⟩
theorem j9g {a:Tr} (ha:a.Wf):(dpD a).Wf:=⟨rfl,rfl,ha⟩
theorem j9h {a:Tr} (ha:a.Wf):(grD a).Wf:=⟨rfl,rfl,ha⟩
theorem j9i {l:Nat} {x:Td} {d:Tr} (h:d.Wf):(inD l x d).Wf:=by
 unfold inD
 split
 ·exact q5p (z0v (by decide) (by decide) (by decide)) (q5p h (z0v (by decide) (by decide) (by decide)))
 ·exact h
theorem v9t:∀ ps:List (Td × Tr),(∀ p∈ps,p.2.Wf)→ps≠[]→(kdD ps).Wf
 | [p],h,_=>h p (by simp)
 | p::q::r,h,_=>q5p (q5p (h p (by simp)) (z0v (by decide) (by decide) (by decide))) (q5p j9f (v9t (q::r) (fun z hz=>h z (by simp at hz ⊢;right;exact hz)) (by simp)))
theorem j4c {op cl:List UInt8} {ps:List (Td × Tr)} (h:∀ p∈ps,p.2.Wf) (h1:1≤op.length) (h2:op.length+cl.length≤20) (h3:∀ c∈op,q4l c=true) (h4:1≤cl.length) (h5:∀ c∈cl,q4l c=true):(q2p op cl ps).Wf:=by
 unfold q2p
 split
 ·refine z0v (by simp;omega) (by simp;omega) fun c hc=>?_
  rcases List.mem_append.1 hc with hc | hc
  ·exact h3 c hc
  ·exact h5 c hc
 ·rename_i h0
  exact j9h (q5p (z0v h1 (by omega) h3) (q5p (j9g (q5p v9u (v9t ps h fun e=>h0 (by rw [e];rfl)))) (q5p v9u (z0v h4 (by omega) h5))))
theorem z2h {s:ByteArray} (h:q1c s=true):1≤(btL s).length∧(btL s).length≤8∧∀ c∈btL s,q4l c=true:=by
 have h8:=q2c h
 simp only [q1c,Bool.and_eq_true,decide_eq_true_eq,List.all_eq_true] at h
 exact ⟨by rw [q0b];exact h.1.1.1,h8,fun c hc=>j7a (h.2 c hc)⟩
theorem y2e {x:Td} {ps:List (Td × Tr)} (h:∀ p∈ps,p.2.Wf) (hx:exN x) (hk:ps.length=kdT x):(q0m x ps).Wf:=by
 have two:kdT x=2→∃ a b,ps=[a,b]∧a.2.Wf∧b.2.Wf:=fun e=>by
  rw [e] at hk
  match ps,hk with
  | [a,b],_=>exact ⟨a,b,rfl,h a (by simp),h b (by simp)⟩
 rcases q3c hx with ⟨ho,_,h0,h9,_⟩ | ⟨ho,hn,_⟩ | ⟨ho,hn,_⟩ | ⟨ho,_⟩ | ⟨ho,_,_,h2⟩ | ⟨ho,_,_,h2⟩
 ·rw [show q0m x ps=wdD (q4m x.n.toNat) by simp [q0m,ho]]
  have h1:=q8d 5 x.n.toNat (by omega)
  have h2:=List.length_pos_iff.2 (k0e x.n.toNat)
  exact z0v (by omega) (by omega) fun c hc=>j6c (z5c _ c hc)
 ·obtain ⟨n1,n2,n3⟩:=z2h hn
  rw [show q0m x ps=wdD (btL x.tx) by simp [q0m,ho]]
  exact z0v n1 (by omega) n3
 ·obtain ⟨n1,n2,n3⟩:=z2h hn
  rw [show q0m x ps=q2p (btL x.tx++[40]) [41] ps by simp [q0m,ho]]
  refine j4c h (by simp) (by rw [List.length_append];simp only [List.length_cons,List.length_nil];omega) (fun c hc=>?_) (by decide) (by decide)
  rcases List.mem_append.1 hc with hc | hc
  ·exact n3 c hc
  ·simp at hc;subst hc;decide
 ·rw [show q0m x ps=q2p [91] [93] ps by simp [q0m,ho]]
  exact j4c h (by decide) (by decide) (by decide) (by decide) (by decide)
 ·obtain ⟨a,b,rfl,h3,h4⟩:=two h2
  rw [show q0m x [a,b]=grD (twD (inD 0 a.1 a.2) (dpD (twD blD (twD (wdD [43,32]) (inD 1 b.1 b.2))))) by simp [q0m,tw2,ho]]
  exact j9h (q5p (j9i h3) (j9g (q5p j9f (q5p (z0v (by decide) (by decide) (by decide)) (j9i h4)))))
 ·obtain ⟨a,b,rfl,h3,h4⟩:=two h2
  rw [show q0m x [a,b]=grD (twD (inD 1 a.1 a.2) (dpD (twD blD (twD (wdD [42,32]) (inD 2 b.1 b.2))))) by simp [q0m,tw2,ho]]
  exact j9h (q5p (j9i h3) (j9g (q5p j9f (q5p (z0v (by decide) (by decide) (by decide)) (j9i h4)))))
theorem k8q:∀ F:Fo,F.ok→F.exs→∀ p∈F.dcs,p.2.Wf
 | .nil,_,_,p,hp=>by cases hp
 | .cons x k n,hok,hex,p,hp=>by
  have h1:=k8q k hok.2.1 fun y hy=>hex y (by simp [Fo.nodes,hy])
  have h2:=k8q n hok.2.2 fun y hy=>hex y (by simp [Fo.nodes,hy])
  rcases List.mem_cons.1 hp with rfl | hp
  ·exact y2e h1 (hex x (by simp [Fo.nodes])) (by rw [q9n];exact hok.1)
  ·exact h2 p hp
theorem j7i {l:Nat} {x:Td} {d:Tr} (h:d.noE):(inD l x d).noE:=by
 unfold inD
 split
 ·exact ⟨rfl,by show (1:Int)≠4;decide,rfl,h,by show (1:Int)≠4;decide⟩
 ·exact h
theorem v8f:∀ ps:List (Td × Tr),(∀ p∈ps,p.2.noE)→(kdD ps).noE
 | [],_=>by show (1:Int)≠4;decide
 | [p],h=>h p (by simp)
 | p::q::r,h=>⟨rfl,⟨rfl,h p (by simp),by show (1:Int)≠4;decide⟩,rfl,by show (2:Int)≠4;decide,v8f (q::r) (fun z hz=>h z (by simp at hz ⊢;right;exact hz))⟩
theorem j1g {op cl:List UInt8} {ps:List (Td × Tr)} (h:∀ p∈ps,p.2.noE):(q2p op cl ps).noE:=by
 unfold q2p
 split
 ·show (1:Int)≠4;decide
 ·exact ⟨rfl,by show (1:Int)≠4;decide,rfl,⟨rfl,by show (3:Int)≠4;decide,v8f ps h⟩,rfl,by show (3:Int)≠4;decide,by show (1:Int)≠4;decide⟩
theorem v0u {f:Td→Tr→Td→Tr→Tr} {ps:List (Td × Tr)} (h:∀ p∈ps,p.2.noE) (hf:∀ x a y b,a.noE→b.noE→(f x a y b).noE):(tw2 f ps).noE:=by
 unfold tw2
 split
 ·exact hf _ _ _ _ (h _ (by simp)) (h _ (by simp))
 ·show (1:Int)≠4;decide
theorem y1r {x:Td} {ps:List (Td × Tr)} (h:∀ p∈ps,p.2.noE):(q0m x ps).noE:=by
 have h1:(1:Int)≠4:=by decide
 have h2:(2:Int)≠4:=by decide
 unfold q0m
 split
 ·exact h1
 ·split
  ·exact h1
  ·split
   ·exact j1g h
   ·split
    ·exact j1g h
    ·split
     ·exact v0u h fun x a y b ha hb=>⟨rfl,j7i ha,rfl,h2,rfl,h1,j7i hb⟩
     ·exact v0u h fun x a y b ha hb=>⟨rfl,j7i ha,rfl,h2,rfl,h1,j7i hb⟩
theorem k0d:∀ F:Fo,∀ p∈F.dcs,p.2.noE
 | .nil,p,hp=>by cases hp
 | .cons x k n,p,hp=>by
  rcases List.mem_cons.1 hp with rfl | hp
  ·exact y1r (k0d k)
  ·exact k0d n p hp
def z3h (ps:List (Td × Tr)):Nat:=(ps.map fun p=>p.2.nodes.length+5).sum
theorem q3f (p:Td × Tr) (r:List (Td × Tr)):z3h (p::r)=p.2.nodes.length+5+z3h r:=by simp [z3h]
theorem j7k (l:Nat) (x:Td) (d:Tr):(inD l x d).nodes.length≤d.nodes.length+4:=by
 unfold inD
 split
 ·simp only [Tr.nodes,List.length_cons,List.length_append,List.length_nil];omega
 ·omega
theorem j7l:∀ ps:List (Td × Tr),(kdD ps).nodes.length≤z3h ps+1
 | []=>by simp [kdD,z3h,Tr.nodes]
 | [p]=>by simp only [kdD,q3f];omega
 | p::q::r=>by
  have ih:=j7l (q::r)
  show (twD (twD p.2 (wdD [44])) (twD blD (kdD (q::r)))).nodes.length≤_
  rw [q3f]
  simp only [Tr.nodes,List.length_cons,List.length_append,List.length_nil]
  omega
theorem y1s {x:Td} {ps:List (Td × Tr)}:(q0m x ps).nodes.length≤15+z3h ps:=by
 have hm:∀ op cl:List UInt8,(q2p op cl ps).nodes.length≤15+z3h ps:=fun op cl=>by
  have hk:=j7l ps
  unfold q2p
  split
  ·simp only [Tr.nodes,List.length_cons,List.length_nil];omega
  ·simp only [Tr.nodes,List.length_cons,List.length_append,List.length_nil]
   omega
 have ht:∀ f:Td→Tr→Td→Tr→Tr,(∀ x a y b,(f x a y b).nodes.length≤15+a.nodes.length+b.nodes.length)→(tw2 f ps).nodes.length≤15+z3h ps:=fun f hf=>by
  unfold tw2
  split
  ·rename_i a b
   have:=hf a.1 a.2 b.1 b.2
   rw [q3f,q3f]
   omega
  ·simp only [Tr.nodes,List.length_cons,List.length_nil];omega
 have hs:∀ (l m:Nat) (sg:List UInt8) (x:Td) (a:Tr) (y:Td) (b:Tr),(grD (twD (inD l x a) (dpD (twD blD (twD (wdD sg) (inD m y b)))))).nodes.length≤15+a.nodes.length+b.nodes.length:=fun l m sg x a y b=>by
  have h1:=j7k l x a
  have h2:=j7k m y b
  simp only [Tr.nodes,List.length_cons,List.length_append,List.length_nil]
  omega
 unfold q0m
 split
 ·simp only [Tr.nodes,List.length_cons,List.length_nil];omega
 ·split
  ·simp only [Tr.nodes,List.length_cons,List.length_nil];omega
  ·split
   ·exact hm _ _
   ·split
    ·exact hm _ _
    ·split
     ·exact ht _ (hs 0 1 [43,32])
     ·exact ht _ (hs 1 2 [42,32])
theorem z7j:∀ F:Fo,z3h F.dcs≤20*F.nodes.length
 | .nil=>by simp [Fo.dcs,z3h]
 | .cons x k n=>by
  have h1:=z7j k
  have h2:=z7j n
  have h3:=y1s (x:=x) (ps:=k.dcs)
  rw [Fo.dcs,q3f,Fo.nodes]
  simp only [List.length_cons,List.length_append]
  omega
def opT (t:List Td):Int:=match t with
 | []=>0
 | x::_=>x.op
theorem k1f {t:List Td} (h:0<t.length):opT t=t[0].op:=by
 cases t with
 | nil=>simp at h
 | cons x r=>rfl
def q4t (prev:Int) (k:Nat):List (List Td)→Nat × Int
 | []=>(0,0)
 | t::r=>if q0c t≠0 then (k,q0c t) else if opT t=9∧prev=9 then (k,2) else q4t (opT t) (k+1) r
def q0q (ps:List (List Td)):Nat × Int:=if 20<ps.length then (0,3) else q4t 0 0 ps
theorem z6p {t:List Td} (h:q0c t=0):0<t.length:=by
 rcases Nat.eq_zero_or_pos t.length with h0 | h0
 ·have:t=[]:=List.eq_nil_of_length_eq_zero h0
  subst this
  have:=(q2i h).2.2.1
  rw [z1d [] 0 0 (by simp)] at this
  cases this
 ·exact h0
def q5v (ps:List (List Td)) (k:Nat):Int:=if k=0 then 0 else opT (ps.getD (k - 1) [])
theorem z4e {ps:List (List Td)} {k:Nat} (h:k<ps.length):q5v ps (k+1)=opT ps[k]:=by
 simp [q5v,h]
theorem j2i {ps:List (List Td)} {k:Nat} {prev:Int} (h:k<ps.length) (he:q0c ps[k]≠0):q4t prev k (ps.drop k)=(k,q0c ps[k]):=by
 rw [List.drop_eq_getElem_cons h,q4t,if_pos he]
theorem j2j {ps:List (List Td)} {k:Nat} {prev:Int} (h:k<ps.length) (he:q0c ps[k]=0) (h2:opT ps[k]=9∧prev=9):q4t prev k (ps.drop k)=(k,2):=by
 rw [List.drop_eq_getElem_cons h,q4t,if_neg (by simp [he]),if_pos h2]
theorem k5t {ps:List (List Td)} {k:Nat} {prev:Int} (h:k<ps.length) (he:q0c ps[k]=0) (h2:¬ (opT ps[k]=9∧prev=9)):q4t prev k (ps.drop k)=q4t (q5v ps (k+1)) (k+1) (ps.drop (k+1)):=by
 rw [List.drop_eq_getElem_cons h,q4t,if_neg (by simp [he]),if_neg h2,z4e h]
end Go.Proofs.YtchdplceopegoaaGreatDoor
