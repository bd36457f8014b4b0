/- Texts as one: LnP, SynU, SynN. -/
import Derived.Test.YtchdplceopegoaaGreatDoorPs02
namespace Go.Proofs.YtchdplceopegoaaGreatDoor
open Go
def Txt (D:Tr) (r:List UInt8):Prop:=D.flat=some r∨∃ deep cs cs',D.lay deep cs = .ok (r,cs')
def LxD (D:Tr) (ws:List Wd):Prop:=∀ r,Txt D r→Lx r ws
def y3x (D:Tr):Prop:=∀ r,Txt D r→∀ a,r.getLast? = some a→q5t a=true
def v4i (D:Tr):Prop:=∀ r,Txt D r→∀ a,r.head? = some a→q5t a=true
theorem j5t {s r:List UInt8} (h:Txt (wdD s) r):r=s:=by
 rcases h with h | ⟨deep,cs,cs',h⟩
 ·cases h;rfl
 ·cases h;rfl
theorem q7u {D:Tr} {r:List UInt8} {op:Int} (hD:D = .leaf ⟨op,⟨#[]⟩,0⟩) (hop:op=2∨op=3) (h:Txt D r):∀ c∈r,c=32∨c=10:=by
 subst hD
 rcases h with h | ⟨deep,cs,cs',h⟩
 ·rcases hop with rfl | rfl
  ·cases h;simp
  ·cases h;simp
 ·have:r=10::List.replicate deep 32:=by
   rcases hop with rfl | rfl<;>(cases h;rfl)
  subst this
  intro c hc
  rcases List.mem_cons.1 hc with rfl | hc
  ·exact .inr rfl
  ·exact .inl (List.eq_of_mem_replicate hc)
theorem j5s {a b:Tr} {r:List UInt8} (h:Txt (twD a b) r):∃ ra rb,Txt a ra∧Txt b rb∧r=ra++rb:=by
 rcases h with h | ⟨deep,cs,cs',h⟩
 ·simp only [Tr.flat,if_true] at h
  cases ea:a.flat with
  | none=>rw [ea] at h;cases h
  | some s=>
   cases eb:b.flat with
   | none=>rw [ea,eb] at h;cases h
   | some t=>
    rw [ea,eb] at h
    cases h
    exact ⟨s,t,.inl ea,.inl eb,rfl⟩
 ·simp only [Tr.lay,if_true] at h
  cases la:a.lay deep cs with
  | error e=>rw [la] at h;cases h
  | ok p=>
   obtain ⟨r1,c1⟩:=p
   rw [la] at h
   simp only at h
   cases lb:b.lay deep c1 with
   | error e=>rw [lb] at h;cases h
   | ok p2=>
    obtain ⟨r2,c2⟩:=p2
    rw [lb] at h
    cases h
    exact ⟨r1,r2,.inr ⟨_,_,_,la⟩,.inr ⟨_,_,_,lb⟩,rfl⟩
theorem v4f {a:Tr} {r:List UInt8} (h:Txt (dpD a) r):Txt a r:=by
 rcases h with h | ⟨deep,cs,cs',h⟩
 ·exact .inl h
 ·exact .inr ⟨_,cs,cs',h⟩
theorem y3f {a:Tr} {r:List UInt8} (h:Txt (grD a) r):Txt a r:=by
 rcases h with h | ⟨deep,cs,cs',h⟩
 ·exact .inl h
 ·simp only [Tr.lay] at h
  rw [if_neg (by decide)] at h
  cases cs with
  | nil=>cases h
  | cons c cs=>
   simp only at h
   split at h
   ·exact .inr ⟨_,_,_,h⟩
   ·cases ha:a.flat with
    | none=>rw [ha] at h;cases h
    | some s=>rw [ha] at h;cases h;exact .inl ha
theorem j2r:∀ r:List UInt8,(∀ c∈r,c=32∨c=10)→Lx r []
 | [],_=>Lx.nil
 | c::r,h=>by
  have h1:spB c=true∧q5t c=true:=by
   rcases h c (by simp) with rfl | rfl<;>exact ⟨by decide,by decide⟩
  exact Lx.pre (Lx.blank h1.1) h1.2 (j2r r fun x hx=>h x (by simp [hx]))
theorem j4s {r:List UInt8} (h:∀ c∈r,c=32∨c=10):(∀ a,r.getLast? = some a→q5t a=true)∧(∀ a,r.head? = some a→q5t a=true):=by
 have:∀ a∈r,q5t a=true:=fun a ha=>by rcases h a ha with rfl | rfl<;>decide
 exact ⟨fun a ha=>this a (List.mem_of_getLast? ha),fun a ha=>this a (List.mem_of_mem_head? ha)⟩
theorem z3j {s:List UInt8} {ws:List Wd} (h:Lx s ws):LxD (wdD s) ws:=fun r hr=>by rw [j5t hr];exact h
theorem j9k:LxD blD []:=fun r hr=>j2r r (q7u rfl (.inl rfl) hr)
theorem y1q:LxD sfD []:=fun r hr=>j2r r (q7u rfl (.inr rfl) hr)
theorem j9l {a:Tr} {ws:List Wd} (h:LxD a ws):LxD (dpD a) ws:=fun _ hr=>h _ (v4f hr)
theorem j9m {a:Tr} {ws:List Wd} (h:LxD a ws):LxD (grD a) ws:=fun _ hr=>h _ (y3f hr)
theorem q6e {a b:Tr} {us vs:List Wd} (ha:LxD a us) (hb:LxD b vs) (h:y3x a∨v4i b):LxD (twD a b) (us++vs):=fun r hr=>by
 obtain ⟨ra,rb,h1,h2,rfl⟩:=j5s hr
 refine Lx.app (ha ra h1) (hb rb h2) fun x y hx hy=>?_
 rcases h with h | h
 ·exact z8t (h ra h1 x hx)
 ·exact z4s (h rb h2 y hy)
theorem j8g {s:List UInt8} {c:UInt8} (h:q5t c=true):y3x (wdD (s++[c])):=fun r hr a ha=>by
 rw [j5t hr,List.getLast?_append] at ha
 simp at ha;subst ha;exact h
theorem j7q {s:List UInt8} {c:UInt8} (h:q5t c=true):v4i (wdD (c::s)):=fun r hr a ha=>by
 rw [j5t hr] at ha
 simp at ha;subst ha;exact h
theorem j8f:y3x blD:=fun _ hr=>(j4s (q7u rfl (.inl rfl) hr)).1
theorem y0l:y3x sfD:=fun _ hr=>(j4s (q7u rfl (.inr rfl) hr)).1
theorem j7o (b:Tr):v4i (twD blD b):=fun r hr a ha=>by
 obtain ⟨ra,rb,h1,h2,rfl⟩:=j5s hr
 have h3:=q7u rfl (.inl rfl) h1
 have hne:ra≠[]:=by
  rcases h1 with h | ⟨deep,cs,cs',h⟩
  ·cases h;simp
  ·cases h;simp
 obtain ⟨c,ra',rfl⟩:=List.exists_cons_of_ne_nil hne
 simp at ha;subst ha
 rcases h3 c (by simp) with rfl | rfl<;>decide
theorem y4t {b:Tr} (h:v4i b):v4i (twD sfD b):=fun r hr a ha=>by
 obtain ⟨ra,rb,h1,h2,rfl⟩:=j5s hr
 have h3:=q7u rfl (.inr rfl) h1
 cases ra with
 | nil=>exact h rb h2 a (by simpa using ha)
 | cons c ra'=>
  simp at ha;subst ha
  rcases h3 c (by simp) with rfl | rfl<;>decide
theorem v5b {a:Tr} (h:v4i a):v4i (dpD a):=fun r hr=>h r (v4f hr)
theorem j9n {x:Td} {d:Tr} {t:Tn} (hx:x=t.x) (h:LxD d t.tk) (l:Nat):LxD (inD l x d) (brk l t):=by
 unfold inD brk
 rw [hx]
 split
 ·have h1:LxD (wdD [41]) [[41]]:=z3j (Lx.mark (by decide))
  have h2:LxD (wdD [40]) [[40]]:=z3j (Lx.mark (by decide))
  exact q6e h2 (q6e h h1 (.inr (j7q (by decide)))) (.inl (j8g (s:=[]) (by decide)))
 ·exact h
inductive Mks:List (Td × Tr)→List Tn→Prop where
 | nil:Mks [] []
 | cons {p t ps ts}:p.1=t.x→LxD p.2 t.tk→Mks ps ts→Mks (p::ps) (t::ts)
theorem y1p:∀ {ps:List (Td × Tr)} {ts:List Tn},Mks ps ts→ps≠[]→LxD (kdD ps) (cmk ts)
 | _,_,.cons _ h .nil,_=>by simp only [kdD,cmk,List.append_nil];exact h
 | _,_,.cons (ps:=p::ps) (ts:=t::ts) _ h (.cons e2 h2 h3),_=>by
  have ih:=y1p (Mks.cons e2 h2 h3) (by simp)
  have h44:LxD (wdD [44]) [[44]]:=z3j (Lx.mark (by decide))
  have h5:=q6e (q6e h h44 (.inr (j7q (by decide)))) (q6e j9k ih (.inl j8f)) (.inr (j7o _))
  show LxD (twD (twD _ (wdD [44])) (twD blD (kdD (p::ps)))) _
  rw [show ∀ z:Tn,cmk (z::t::ts)=(z.tk++[[44]])++([]++cmk (t::ts)) from fun z=>by simp [cmk]]
  exact h5
theorem j2p {ps:List (Td × Tr)} {ts:List Tn} (h:Mks ps ts) {op:List UInt8} {o:UInt8} {cl:UInt8} {ws:List Wd} (ho:q5t o=true) (hop:Lx (op++[o]) ws) (hc:v9q cl=true) (hcs:q5t cl=true):LxD (q2c (op++[o]) [cl] ps) (ws++cmk ts++[[cl]]):=by
 have hcl:LxD (wdD [cl]) [[cl]]:=z3j (Lx.mark hc)
 unfold q2c
 split
 ·rename_i h0
  cases h with
  | nil=>
   refine z3j ?_
   have:=Lx.app hop (Lx.mark hc) (q7i ho op [cl])
   simpa [cmk] using this
  | cons=>simp at h0
 ·rename_i h0
  have hne:ps≠[]:=fun e=>h0 (by rw [e];rfl)
  have h5:=q6e (z3j hop) (q6e (j9l (q6e y1q (y1p h hne) (.inl y0l))) (q6e y1q hcl (.inl y0l)) (.inr (y4t (j7q hcs)))) (.inl (j8g ho))
  refine j9m ?_
  have e:ws++cmk ts++[[cl]]=ws++([]++cmk ts++([]++[[cl]])):=by simp
  rw [e]
  exact h5
theorem y5j {x:Td} {ps:List (Td × Tr)} {ts:List Tn} (h:Mks ps ts) (hx:exN x) (hk:ps.length=kdT x):LxD (q0l x ps) (q2p x ts):=by
 have two:kdT x=2→∃ a b c d,ps=[a,b]∧ts=[c,d]∧(a.1=c.x∧LxD a.2 c.tk)∧(b.1=d.x∧LxD b.2 d.tk):=fun e=>by
  rw [e] at hk
  cases h with
  | nil=>simp at hk
  | cons h1 h1' h2=>cases h2 with
   | nil=>simp at hk
   | cons h3 h3' h4=>cases h4 with
    | nil=>exact ⟨_,_,_,_,rfl,rfl,⟨h1,h1'⟩,⟨h3,h3'⟩⟩
    | cons=>simp at hk
 have nm:q0x x.tx=true→Lx (btL x.tx) [btL x.tx]:=fun hn=>by
  have h8:=q1u hn
  simp only [q0x,Bool.and_eq_true,decide_eq_true_eq,List.all_eq_true] at hn
  refine Lx.name hn.2 ?_ h8
  intro e
  have:=q0b x.tx
  rw [e] at this
  simp at this;omega
 have sg:∀ c:UInt8,v9q c=true→q5t c=true→LxD (wdD [c,32]) [[c]]:=fun c hc hs=>by
  refine z3j ?_
  have:=Lx.app (Lx.mark hc) (Lx.blank (c:=32) (by decide)) (q1y (by decide) [])
  simpa using this
 rcases q2e hx with ⟨ho,_,h0,h9,_⟩ | ⟨ho,hn,_⟩ | ⟨ho,hn,_⟩ | ⟨ho,_⟩ | ⟨ho,_,_,h2⟩ | ⟨ho,_,_,h2⟩
 ·rw [show q0l x ps=wdD (q3y x.n.toNat) by simp [q0l,ho],show q2p x ts=[q3y x.n.toNat] by simp [q2p,ho]]
  exact z3j (Lx.num _ (by omega))
 ·rw [show q0l x ps=wdD (btL x.tx) by simp [q0l,ho],show q2p x ts=[btL x.tx] by simp [q2p,ho]]
  exact z3j (nm hn)
 ·rw [show q0l x ps=q2c (btL x.tx++[40]) [41] ps by simp [q0l,ho],show q2p x ts=[btL x.tx,[40]]++cmk ts++[[41]] by simp [q2p,ho]]
  refine j2p h (by decide) ?_ (by decide) (by decide)
  exact Lx.post (nm hn) (by decide) (Lx.mark (by decide))
 ·rw [show q0l x ps=q2c ([]++[91]) [93] ps by simp [q0l,ho],show q2p x ts=[[91]]++cmk ts++[[93]] by simp [q2p,ho]]
  exact j2p h (by decide) (Lx.mark (by decide)) (by decide) (by decide)
 ·obtain ⟨a,b,c,d,rfl,rfl,h3,h4⟩:=two h2
  rw [show q0l x [a,b]=grD (twD (inD 0 a.1 a.2) (dpD (twD blD (twD (wdD [43,32]) (inD 1 b.1 b.2))))) by simp [q0l,tw2,ho],show q2p x [c,d]=brk 0 c++([]++([[43]]++brk 1 d)) by simp [q2p,two2,ho]]
  exact j9m (q6e (j9n h3.1 h3.2 0) (j9l (q6e j9k (q6e (sg 43 (by decide) (by decide)) (j9n h4.1 h4.2 1) (.inl (j8g (s:=[43]) (by decide)))) (.inl j8f))) (.inr (v5b (j7o _))))
 ·obtain ⟨a,b,c,d,rfl,rfl,h3,h4⟩:=two h2
  rw [show q0l x [a,b]=grD (twD (inD 1 a.1 a.2) (dpD (twD blD (twD (wdD [42,32]) (inD 2 b.1 b.2))))) by simp [q0l,tw2,ho],show q2p x [c,d]=brk 1 c++([]++([[42]]++brk 2 d)) by simp [q2p,two2,ho]]
  exact j9m (q6e (j9n h3.1 h3.2 1) (j9l (q6e j9k (q6e (sg 42 (by decide) (by decide)) (j9n h4.1 h4.2 2) (.inl (j8g (s:=[42]) (by decide)))) (.inl j8f))) (.inr (v5b (j7o _))))
theorem j0b:∀ F:Fo,F.ok→F.exs→Mks F.dcs F.trs
 | .nil,_,_=>.nil
 | .cons x k n,hok,hex=>by
  have h1:=j0b k hok.2.1 fun y hy=>hex y (by simp [Fo.nodes,hy])
  have h2:=j0b n hok.2.2 fun y hy=>hex y (by simp [Fo.nodes,hy])
  exact .cons rfl (y5j h1 (hex x (by simp [Fo.nodes])) (by rw [q8c];exact hok.1)) h2
theorem y0j {t:List Td} (h:q0c t=0) (h9:opT t≠9) {r:List UInt8} (hr:Txt (q0s t) r):Lx r (q6c t):=by
 obtain ⟨x,y,k,rfl,hok,hex,hk,hx⟩:=q7r h h9
 have hm:=j0b _ hok hex
 have hd:LxD (q0l y k.dcs) (q0m y k.trs).tk:=by
  cases hm with
  | cons _ h1 _=>exact h1
 have e0:q0s (x::(Fo.cons y k .nil).nodes)=stD x (q0l y k.dcs):=z2h hok hk
 have e1:q6c (x::(Fo.cons y k .nil).nodes)=stK x (Fo.cons y k .nil).trs:=(q6u hok hk).2
 have h59:LxD (wdD [59]) [[59]]:=z3j (Lx.mark (by decide))
 rw [e0] at hr
 rw [e1]
 generalize q0l y k.dcs=D at hd hr
 have hD:LxD (twD D (wdD [59])) ((q0m y k.trs).tk++[[59]]):=q6e hd h59 (.inr (j7q (by decide)))
 rcases hx with ⟨ho,hnm,_⟩ | ⟨ho,_,_⟩
 ·rw [stD,if_pos ho] at hr
  have h8:=q1u hnm
  have hnm':=hnm
  simp only [q0x,Bool.and_eq_true,decide_eq_true_eq,List.all_eq_true] at hnm'
  have hnl:Lx (btL x.tx) [btL x.tx]:=Lx.name hnm'.2 (by intro e;have:=q0b x.tx;rw [e] at this;simp at this;omega) h8
  have hlet:Lx [108,101,116] [[108,101,116]]:=Lx.name (by decide) (by decide) (by decide)
  have hpre:Lx ([108,101,116,32]++btL x.tx++[32,61]) [[108,101,116],btL x.tx,[61]]:=by
   have q1:Lx ([108,101,116]++[32]) ([[108,101,116]]++[]):=Lx.post hlet (by decide) (Lx.blank (by decide))
   have q2:=Lx.app q1 hnl (q7i (by decide) _ _)
   have q3:=Lx.post q2 (c:=32) (by decide) (Lx.blank (by decide))
   have q4:=Lx.post q3 (c:=61) (by decide) (Lx.mark (by decide))
   have e:[108,101,116,32]++btL x.tx++[32,61]=[108,101,116]++[32]++btL x.tx++[32]++[61]:=by simp
   rw [e]
   simpa using q4
  have h5:=j9m (q6e (z3j hpre) (j9l (q6e j9k hD (.inl j8f))) (.inr (v5b (j7o _))))
  have h6:=h5 r hr
  simpa [stK,ho,hdK,Fo.trs] using h6
 ·rw [stD,if_neg (by omega)] at hr
  have h6:=hD r hr
  simpa [stK,ho,hdK,Fo.trs] using h6
theorem z5v:∀ (f g:Fo),(f.app g).trs=f.trs++g.trs
 | .nil,g=>rfl
 | .cons x k n,g=>by simp [Fo.app,Fo.trs,z5v n g]
def z1t (ns:List Td) (t:Tn):Prop:=∃ F:Fo,F.ok∧F.trs=[t]∧F.nodes=ns∧∀ x∈ns,x.op<7
theorem y0e (t:Tn) (a b:Nat) (h:a≤b):(brk a t).length≤(brk b t).length:=by
 unfold brk
 split
 ·rw [if_pos (by omega)];exact Nat.le_refl _
 ·split
  ·simp;omega
  ·exact Nat.le_refl _
theorem v4y (t:Tn) (b:Nat):(brk b t).length≤(brk 0 t).length+2:=by
 rw [q3f]
 unfold brk
 split
 ·simp
 ·omega
def y5h (x:Td):Fo:=.cons x .nil .nil
theorem y1g {x:Td} (h:kdT x=0) (h7:x.op<7):z1t [x] (q0m x []):=
 ⟨y5h x,⟨h.symm,trivial,trivial⟩,rfl,rfl,fun y hy=>by rw [List.mem_singleton] at hy;rw [hy];exact h7⟩
theorem v8i {x:Td} {K:Fo} (hk:K.ok) (h:K.len=kdT x) (h7:x.op<7) (ha:∀ y∈K.nodes,y.op<7):z1t (x::K.nodes) (q0m x K.trs):=
 ⟨.cons x K .nil,⟨h,hk,trivial⟩,rfl,by simp [Fo.nodes],fun y hy=>by
  rcases List.mem_cons.1 hy with rfl | hy
  ·exact h7
  ·exact ha y hy⟩
theorem y5f {k:Nat} (hk:k<2):kdT (sgT k)=2:=by
 rcases Nat.lt_or_ge k 1 with h | h
 ·obtain rfl:k=0:=by omega
  rfl
 ·obtain rfl:k=1:=by omega
  rfl
theorem two1 {k:Nat} (hk:k<2) {a b:List Td} {s t:Tn} (ha:z1t a s) (hb:z1t b t):z1t (sgT k::(a++b)) (q0m (sgT k) [s,t]):=by
 obtain ⟨F,f1,f2,f3,f4⟩:=ha
 obtain ⟨G,g1,g2,g3,g4⟩:=hb
 have hl:(F.app G).len=2:=by rw [←q3e,z5v,f2,g2];rfl
 have h:=v8i (x:=sgT k) (K:=F.app G) (k8n f1 g1) (by rw [hl,y5f hk]) (by show (5:Int)+k<7;omega) (fun y hy=>by
  rw [q8t,f3,g3] at hy
  rcases List.mem_append.1 hy with hy | hy
  ·exact f4 y hy
  ·exact g4 y hy)
 rw [q8t,f3,g3,z5v,f2,g2] at h
 exact h
theorem v9e {k:Nat} (hk:k<2) (s t:Tn):(brk k (q0m (sgT k) [s,t])).length=(brk k s).length+1+(brk (k+1) t).length:=by
 rcases Nat.lt_or_ge k 1 with h | h
 ·obtain rfl:k=0:=by omega
  rw [q3f]
  simp [q0m,q2p,sgT,two2];omega
 ·obtain rfl:k=1:=by omega
  rw [brk,if_neg (by simp [q0m,prc,sgT])]
  simp [q0m,q2p,sgT,two2];omega
theorem k1b:∀ ks:List Tn,(cmk ks).length+1=(ks.map fun t=>t.tk.length+1).sum+(if ks=[] then 1 else 0)
 | []=>rfl
 | [t]=>by simp [cmk]
 | t::u::r=>by
  have ih:=k1b (u::r)
  rw [z2a,cmt,List.length_append,List.length_cons,List.map_cons,List.sum_cons]
  rw [if_neg (by simp)] at ih ⊢
  omega
theorem k9p (ks:List Tn) (t:Tn):(cmk (ks++[t])).length=(cmk ks).length+t.tk.length+(if ks=[] then 0 else 1):=by
 have h1:=k1b (ks++[t])
 have h2:=k1b ks
 rw [if_neg (by simp),List.map_append,List.sum_append] at h1
 simp only [List.map_cons,List.map_nil,List.sum_cons,List.sum_nil] at h1
 by_cases h:ks=[]
 ·rw [if_pos h] at h2 ⊢;omega
 ·rw [if_neg h] at h2 ⊢;omega
theorem q4e {w:Wd} (h:z1w w=true) (ts:List Wd):many (w::ts)=many ts+1:=by
 simp [many,h]
theorem v8k (k:Nat):z1w (sgn k)=true:=by
 unfold sgn
 split<;>rfl
theorem v8j {w:Wd} (h:k0s w=true):z1w w=true:=by
 have:=(z2s (.inr (.inr (.inl h)))).2.2.2.2
 simpa [z1w] using this
theorem z6z {w:Wd} (h:nmW w=true):z1w w=true:=by
 have:=(z2s (.inr (.inr (.inr h)))).2.2.2.2
 simpa [z1w] using this
def y4k (j:Job) (ts:List Wd):Rs→Prop
 | .bad _=>True
 | .ok m ns u=>match j with
  | .level k=>∃ t,z1t ns t∧(brk k t).length+many u≤many ts
  | .single=>∃ t,z1t ns t∧(brk 2 t).length+many u≤many ts
  | .loop k acc=>k<2→∀ t0,z1t acc t0→∃ t,z1t ns t∧(brk k t).length+many u≤(brk k t0).length+many ts
  | .args e n acc=>z1w e=true→∀ F:Fo,F.ok→F.len=n→F.nodes=acc→(∀ x∈acc,x.op<7)→∃ G:Fo,G.ok∧G.len=m∧G.nodes=ns∧(∀ x∈ns,x.op<7)∧(cmk G.trs).length+1+many u≤(cmk F.trs).length+many ts
theorem j1g {F:Fo} {acc ns:List Td} {t:Tn} (hF:F.ok) (hn:F.nodes=acc) (ha:∀ x∈acc,x.op<7) (ht:z1t ns t):∃ G:Fo,G.ok∧G.len=F.len+1∧G.nodes=acc++ns∧(∀ x∈acc++ns,x.op<7)∧G.trs=F.trs++[t]:=by
 obtain ⟨T,t1,t2,t3,t4⟩:=ht
 refine ⟨F.app T,k8n hF t1,?_,by rw [q8t,hn,t3],fun x hx=>?_,by rw [z5v,t2]⟩
 ·rw [k8m,←q3e T,t2];rfl
 ·rcases List.mem_append.1 hx with hx | hx
  ·exact ha x hx
  ·exact t4 x hx
theorem j3y {j:Job} {ts:List Wd} {r:Rs} (h:PR j ts r):y4k j ts r:=by
 induction h with
 | lev2 _ ih=>rename_i r _;cases r with
  | bad=>trivial
  | ok m ns u=>exact ih
 | levB=>trivial
 | levO h0 _ _ ih1 ih2=>rename_i k _ _ _ _ r _ _;cases r with
  | bad=>trivial
  | ok m ns u=>
   obtain ⟨t0,a1,a2⟩:=ih1
   obtain ⟨t,b1,b2⟩:=ih2 h0 t0 a1
   have:=y0e t0 k (k+1) (by omega)
   exact ⟨t,b1,by omega⟩
 | lopE _=>exact fun _ t0 h=>⟨t0,h,Nat.le_refl _⟩
 | lopB=>trivial
 | lopO _ _ ih1 ih2=>rename_i r _ _;cases r with
  | bad=>trivial
  | ok m ns u=>
   intro hk t0 h0
   obtain ⟨t1,a1,a2⟩:=ih1
   obtain ⟨t,b1,b2⟩:=ih2 hk _ (two1 hk h0 a1)
   rw [v9e hk] at b2
   exact ⟨t,b1,by rw [q4e (v8k _)];omega⟩
 | sinN=>trivial
 | sPB=>trivial
 | sPC _ ih=>
  obtain ⟨t,a1,a2⟩:=ih
  have:=v4y t 2
  exact ⟨t,a1,by rw [q4e (w:=[41]) rfl] at a2;rw [q4e (w:=[40]) rfl];omega⟩
 | sPX=>trivial
 | sLB=>trivial
 | sLO _ ih=>
  rename_i ts n ns u _
  obtain ⟨G,g1,g2,g3,g4,g5⟩:=ih rfl .nil trivial rfl rfl (fun x hx=>by cases hx)
  have hkd:kdT (lsT n)=n:=by simp [kdT,lsT]
  refine ⟨q0m (lsT n) G.trs,?_,?_⟩
  ·rw [←g3]
   exact v8i g1 (by rw [hkd];exact g2) (by show (4:Int)<7;omega) (by rw [g3];exact g4)
  ·rw [brk,if_neg (by simp [q0m,prc,lsT])]
   have e:(q0m (lsT n) G.trs).tk.length=(cmk G.trs).length+2:=by simp [q0m,q2p,lsT]
   have e0:(cmk Fo.nil.trs).length=0:=rfl
   rw [e,q4e (w:=[91]) rfl]
   omega
 | sNum h0=>
  rename_i w ts
  refine ⟨q0m (v3d w) [],y1g (by simp [kdT,v3d]) (by show (1:Int)<7;omega),?_⟩
  rw [brk,if_neg (by simp [q0m,prc,v3d]),q4e (v8j h0)]
  simp [q0m,q2p,v3d];omega
 | sName h0 _=>
  rename_i w ts _
  refine ⟨q0m (nmT w) [],y1g (by simp [kdT,nmT]) (by show (2:Int)<7;omega),?_⟩
  rw [brk,if_neg (by simp [q0m,prc,nmT]),q4e (z6z h0)]
  simp [q0m,q2p,nmT];omega
 | sCB=>trivial
 | sCO h0 _ ih=>
  rename_i w ts n ns u _
  obtain ⟨G,g1,g2,g3,g4,g5⟩:=ih rfl .nil trivial rfl rfl (fun x hx=>by cases hx)
  have hkd:kdT (clT w n)=n:=by simp [kdT,clT]
  refine ⟨q0m (clT w n) G.trs,?_,?_⟩
  ·rw [←g3]
   exact v8i g1 (by rw [hkd];exact g2) (by show (3:Int)<7;omega) (by rw [g3];exact g4)
  ·rw [brk,if_neg (by simp [q0m,prc,clT])]
   have e:(q0m (clT w n) G.trs).tk.length=(cmk G.trs).length+3:=by simp [q0m,q2p,clT]
   have e0:(cmk Fo.nil.trs).length=0:=rfl
   rw [e,q4e (z6z h0),q4e (w:=[40]) rfl]
   omega
 | sBad=>trivial
 | aEnd=>exact fun he F hF hl hn ha=>⟨F,hF,hl,hn,ha,by rw [q4e he];omega⟩
 | aSep=>trivial
 | aB0=>trivial
 | aO0 _ _ _ ih1 ih2=>rename_i r _ _ _;cases r with
  | bad=>trivial
  | ok m ns u=>
   intro he F hF hl hn ha
   obtain ⟨t,a1,a2⟩:=ih1
   obtain ⟨G,g1,g2,g3,g4,g5⟩:=j1g hF hn ha a1
   obtain ⟨H,h1,h2,h3,h4,h5⟩:=ih2 he G g1 (by omega) g3 g4
   have hnil:F.trs=[]:=List.eq_nil_of_length_eq_zero (by rw [q3e];exact hl)
   rw [g5,k9p,if_pos hnil] at h5
   rw [q3f] at a2
   exact ⟨H,h1,h2,h3,h4,by omega⟩
 | aB=>trivial
 | aO _ _ _ ih1 ih2=>rename_i r _ _ _;cases r with
  | bad=>trivial
  | ok m ns u=>
   intro he F hF hl hn ha
   obtain ⟨t,a1,a2⟩:=ih1
   obtain ⟨G,g1,g2,g3,g4,g5⟩:=j1g hF hn ha a1
   obtain ⟨H,h1,h2,h3,h4,h5⟩:=ih2 he G g1 (by omega) g3 g4
   have hne:F.trs≠[]:=fun e=>by
    have:=q3e F
    rw [e,hl] at this;simp at this
   rw [g5,k9p,if_neg hne] at h5
   rw [q3f] at a2
   exact ⟨H,h1,h2,h3,h4,by rw [q4e (w:=[44]) rfl];omega⟩
def z0e (t l:Wd):Wd:=(if l≠[]∧t≠[] then t++[32] else t)++l
def ntx (ws:List Wd):Wd:=ws.foldl z0e []
def q4m (w:Wd):Wd:=ntx (q0g (w.drop 1))
def jb:List Wd→Wd
 | []=>[]
 | w::r=>w++match r with
  | []=>[]
  | _::_=>32::jb r
theorem z4w:∀ s:List UInt8,jb (q4v s)=s
 | []=>rfl
 | c::r=>by
  have ih:=z4w r
  by_cases hc:c=32
  ·subst hc
   rw [q5e]
   cases hs:q4v r with
   | nil=>exact absurd hs (q6s r)
   | cons w ws=>
    rw [hs] at ih
    simp [jb,←ih]
  ·cases hs:q4v r with
   | nil=>exact absurd hs (q6s r)
   | cons w ws=>
    rw [q5f hc hs]
    rw [hs] at ih
    rw [←ih]
    simp [jb]
theorem j1h:∀ (ws:List Wd) (t:Wd),(∀ w∈ws,w≠[])→t≠[]→ws.foldl z0e t=t++(match ws with | []=>[] | _::_=>32::jb ws)
 | [],t,_,_=>by simp
 | w::r,t,h,ht=>by
  have hw:=h w (by simp)
  have e:z0e t w=t++32::w:=by simp [z0e,hw,ht]
  rw [List.foldl_cons,e,j1h r _ (fun x hx=>h x (by simp [hx])) (by simp)]
  cases r with
  | nil=>simp [jb]
  | cons u r=>simp [jb]
theorem v3o {ws:List Wd} (h:∀ w∈ws,w≠[]):ntx ws=jb ws:=by
 cases ws with
 | nil=>rfl
 | cons w r=>
  have hw:=h w (by simp)
  have e:z0e [] w=w:=by simp [z0e]
  rw [ntx,List.foldl_cons,e,j1h r w (fun x hx=>h x (by simp [hx])) hw]
  cases r<;>simp [jb]
theorem j3i (ws:List Wd):ntx ([]::ws)=ntx ws:=by
 have e:z0e [] []=[]:=by simp [z0e]
 rw [ntx,List.foldl_cons,e];rfl
theorem z1b {tx:ByteArray} (h:q2u tx=0):(q0g (btL tx)).length≤60∧∀ w∈q0g (btL tx),w≠[]∧w.length≤20∧∀ b∈w,q7w b=true:=by
 obtain ⟨h1,h2⟩:=q8o h
 refine ⟨by simpa using h1,fun w hw=>?_⟩
 have h3:=h2 (wbS w) (List.mem_map.2 ⟨w,hw,rfl⟩)
 have hl:(wbS w).size=w.length:=by rw [←q0b];rfl
 simp only [okW,Bool.and_eq_true,decide_eq_true_eq,List.all_eq_true,hl] at h3
 refine ⟨fun e=>?_,h3.1.2,h3.2⟩
 rw [e] at h3;simp at h3
def k1w (tx:ByteArray):Wd:=if tx.size=0 then [35] else [35,32]++btL tx
theorem q9v {tx:ByteArray}:tx.size=0↔btL tx=[]:=by
 rw [←q0b]
 exact List.length_eq_zero_iff
theorem z5d {tx:ByteArray} (h:q2u tx=0):q4m (k1w tx)=btL tx:=by
 obtain ⟨_,h2⟩:=z1b h
 unfold k1w q4m
 by_cases h0:tx.size=0
 ·rw [if_pos h0,q9v.1 h0];rfl
 ·rw [if_neg h0]
  have hne:btL tx≠[]:=fun e=>h0 (q9v.2 e)
  have e1:([35,32]++btL tx).drop 1=32::btL tx:=rfl
  have e2:q0g (btL tx)=q4v (btL tx):=by rw [q0g,if_neg hne]
  rw [e1,q0g,if_neg (by simp),q5e,j3i,v3o (fun w hw=>(h2 w (by rw [e2];exact hw)).1),z4w]
theorem z6l {p:UInt8→Bool} (h32:p 32=true):∀ ws:List Wd,(∀ w∈ws,∀ b∈w,p b=true)→∀ b∈jb ws,p b=true
 | [],_,b,hb=>by cases hb
 | [w],h,b,hb=>by
  have e:jb [w]=w:=by simp [jb]
  rw [e] at hb
  exact h w (by simp) b hb
 | w::u::r,h,b,hb=>by
  have e:jb (w::u::r)=w++32::jb (u::r):=by simp [jb]
  rw [e] at hb
  rcases List.mem_append.1 hb with hb | hb
  ·exact h w (by simp) b hb
  ·rcases List.mem_cons.1 hb with rfl | hb
   ·exact h32
   ·exact z6l h32 (u::r) (fun x hx=>h x (by simp [hx])) b hb
theorem j1m:∀ (ws:List Wd),ws≠[]→(∀ w∈ws,w≠[])→∃ v c,jb ws=v++[c]∧∃ w∈ws,c∈w
 | [],h,_=>absurd rfl h
 | [w],_,h=>by
  have hw:=h w (by simp)
  rcases List.eq_nil_or_concat w with e | ⟨v,c,e⟩
  ·exact absurd e hw
  ·exact ⟨v,c,by rw [jb,e];simp,w,by simp,by rw [e];simp⟩
 | w::u::r,_,h=>by
  obtain ⟨v,c,e,x,hx,hc⟩:=j1m (u::r) (by simp) fun y hy=>h y (by simp [hy])
  exact ⟨w++32::v,c,by rw [jb];simp [e],x,by simp [hx],hc⟩
theorem z7c {tx:ByteArray} (h:q2u tx=0):q3p (k1w tx):=by
 obtain ⟨_,h2⟩:=z1b h
 unfold k1w
 by_cases h0:tx.size=0
 ·rw [if_pos h0]
  exact ⟨35,[],rfl,rfl,rfl,rfl,rfl⟩
 ·rw [if_neg h0]
  have hne:btL tx≠[]:=fun e=>h0 (q9v.2 e)
  have e2:q0g (btL tx)=q4v (btL tx):=by rw [q0g,if_neg hne]
  rw [e2] at h2
  have hj:=z4w (btL tx)
  have hpr:∀ b∈btL tx,prB b=true∧nlB b=true:=by
   intro b hb
   rw [←hj] at hb
   have:=z6l (p:=fun b=>prB b && nlB b) rfl (q4v (btL tx)) (fun w hw b hb=>by
    have h3:=(h2 w hw).2.2 b hb
    simp only [q7w,Bool.and_eq_true,decide_eq_true_eq] at h3
    simp only [prB,nlB,Bool.and_eq_true,decide_eq_true_eq,bne_iff_ne,ne_eq]
    refine ⟨by omega,?_⟩
    rintro rfl
    simp at h3) b hb
   simpa using this
  have htw:(32::btL tx).takeWhile nlB=32::btL tx:=by
   have:=k5l (p:=nlB) (32::btL tx) [] (fun x hx=>by
    rcases List.mem_cons.1 hx with rfl | hx
    ·rfl
    ·exact (hpr x hx).2) (fun b hb=>by cases hb)
   rw [List.append_nil] at this
   exact this
  refine ⟨35,32::btL tx,rfl,rfl,?_,?_,?_⟩
  ·simp only [q4p]
   rw [htw]
   simp only [q3g,q4c]
   show List.all _ _=true
   rw [List.all_eq_true]
   intro x hx
   rcases List.mem_cons.1 hx with rfl | hx
   ·rfl
   ·exact (hpr x hx).1
  ·simp only [q0o]
   rw [htw];rfl
  ·obtain ⟨v,c,e,w,hw,hc⟩:=j1m (q4v (btL tx)) (q6s _) (fun w hw=>(h2 w hw).1)
   rw [hj] at e
   have hc32:c≠32:=by
    rintro rfl
    have:=(h2 w hw).2.2 32 hc
    revert this;decide
   have e3:(35::32::btL tx)=(35::32::v)++[c]:=by rw [e];rfl
   rw [e3]
   exact q1i _ hc32
inductive Rp where
 | ok (ps:List (List Td)):Rp
 | bad (rest:List Wd):Rp
abbrev z0x:Wd:=[108,101,116]
def ntT (t:Wd):Td:=⟨9,wbS t,0⟩
def z4z (w:Wd):Td:=⟨7,wbS w,0⟩
def doT:Td:=⟨8,⟨#[]⟩,0⟩
def q4k (acc:List (List Td)):Wd:=match acc.getLast? with
 | some (x::_)=>btL x.tx
 | _=>[]
def k3d (pv:Bool) (acc:List (List Td)) (t:Wd):List (List Td):=if pv then acc.dropLast++[[ntT (z0e (q4k acc) t)]] else acc++[[ntT t]]
inductive PG:Bool→List (List Td)→List Wd→Rp→Prop where
 | done {pv acc}:PG pv acc [] (.ok acc)
 | note {pv acc w ts r}:w.headD 0=35→PG true (k3d pv acc (q4m w)) ts r→PG pv acc (w::ts) r
 | letN {pv acc ts}:(∀ w,ts.head? = some w→nmW w=false)→PG pv acc (z0x::ts) (.bad ts)
 | letE {pv acc nm ts}:nmW nm=true→ts.head?≠some [61]→PG pv acc (z0x::nm::ts) (.bad ts)
 | letB {pv acc nm ts u}:nmW nm=true→PR (.level 0) ts (.bad u)→PG pv acc (z0x::nm::[61]::ts) (.bad u)
 | letX {pv acc nm ts m ns u}:nmW nm=true→PR (.level 0) ts (.ok m ns u)→u.head?≠some [59]→PG pv acc (z0x::nm::[61]::ts) (.bad u)
 | letO {pv acc nm ts m ns u r}:nmW nm=true→PR (.level 0) ts (.ok m ns ([59]::u))→PG false (acc++[z4z nm::ns]) u r→PG pv acc (z0x::nm::[61]::ts) r
 | doB {pv acc w ts u}:w.headD 0≠35→w≠z0x→PR (.level 0) (w::ts) (.bad u)→PG pv acc (w::ts) (.bad u)
 | doX {pv acc w ts m ns u}:w.headD 0≠35→w≠z0x→PR (.level 0) (w::ts) (.ok m ns u)→u.head?≠some [59]→PG pv acc (w::ts) (.bad u)
 | doO {pv acc w ts m ns u r}:w.headD 0≠35→w≠z0x→PR (.level 0) (w::ts) (.ok m ns ([59]::u))→PG false (acc++[doT::ns]) u r→PG pv acc (w::ts) r
theorem q7z:z0x.headD 0≠35:=by decide
theorem q8a {pv:Bool} {acc:List (List Td)} {ts:List Wd} {r:Rp} (h:PG pv acc ts r):∀ {r':Rp},PG pv acc ts r'→r=r':=by
 induction h with
 | done=>intro r' h';cases h';rfl
 | note h0 _ ih=>intro r' h';cases h' with
  | note _ h2=>exact ih h2
  | letN=>exact absurd h0 q7z
  | letE=>exact absurd h0 q7z
  | letB=>exact absurd h0 q7z
  | letX=>exact absurd h0 q7z
  | letO=>exact absurd h0 q7z
  | doB h2=>exact absurd h0 h2
  | doX h2=>exact absurd h0 h2
  | doO h2=>exact absurd h0 h2
 | letN h0=>intro r' h';cases h' with
  | note h2=>exact absurd h2 q7z
  | letN=>rfl
  | letE h2=>rw [h0 _ rfl] at h2;cases h2
  | letB h2=>rw [h0 _ rfl] at h2;cases h2
  | letX h2=>rw [h0 _ rfl] at h2;cases h2
  | letO h2=>rw [h0 _ rfl] at h2;cases h2
  | doB _ h2=>exact absurd rfl h2
  | doX _ h2=>exact absurd rfl h2
  | doO _ h2=>exact absurd rfl h2
 | letE h0 h1=>intro r' h';cases h' with
  | note h2=>exact absurd h2 q7z
  | letN h2=>rw [h2 _ rfl] at h0;cases h0
  | letE=>rfl
  | letB=>simp at h1
  | letX=>simp at h1
  | letO=>simp at h1
  | doB _ h2=>exact absurd rfl h2
  | doX _ h2=>exact absurd rfl h2
  | doO _ h2=>exact absurd rfl h2
 | letB h0 h1=>intro r' h';cases h' with
  | note h2=>exact absurd h2 q7z
  | letN h2=>rw [h2 _ rfl] at h0;cases h0
  | letE _ h2=>simp at h2
  | letB _ h2=>cases q2k h1 h2;rfl
  | letX _ h2=>cases q2k h1 h2
  | letO _ h2=>cases q2k h1 h2
  | doB _ h2=>exact absurd rfl h2
  | doX _ h2=>exact absurd rfl h2
  | doO _ h2=>exact absurd rfl h2
 | letX h0 h1 h3=>intro r' h';cases h' with
  | note h2=>exact absurd h2 q7z
  | letN h2=>rw [h2 _ rfl] at h0;cases h0
  | letE _ h2=>simp at h2
  | letB _ h2=>cases q2k h1 h2
  | letX _ h2 _=>cases q2k h1 h2;rfl
  | letO _ h2 _=>cases q2k h1 h2;simp at h3
  | doB _ h2=>exact absurd rfl h2
  | doX _ h2=>exact absurd rfl h2
  | doO _ h2=>exact absurd rfl h2
 | letO h0 h1 _ ih=>intro r' h';cases h' with
  | note h2=>exact absurd h2 q7z
  | letN h2=>rw [h2 _ rfl] at h0;cases h0
  | letE _ h2=>simp at h2
  | letB _ h2=>cases q2k h1 h2
  | letX _ h2 h4=>cases q2k h1 h2;simp at h4
  | letO _ h2 h4=>cases q2k h1 h2;exact ih h4
  | doB _ h2=>exact absurd rfl h2
  | doX _ h2=>exact absurd rfl h2
  | doO _ h2=>exact absurd rfl h2
 | doB h0 h1 h3=>intro r' h';cases h' with
  | note h2=>exact absurd h2 h0
  | letN=>exact absurd rfl h1
  | letE=>exact absurd rfl h1
  | letB=>exact absurd rfl h1
  | letX=>exact absurd rfl h1
  | letO=>exact absurd rfl h1
  | doB _ _ h2=>cases q2k h3 h2;rfl
  | doX _ _ h2=>cases q2k h3 h2
  | doO _ _ h2=>cases q2k h3 h2
 | doX h0 h1 h3 h4=>intro r' h';cases h' with
  | note h2=>exact absurd h2 h0
  | letN=>exact absurd rfl h1
  | letE=>exact absurd rfl h1
  | letB=>exact absurd rfl h1
  | letX=>exact absurd rfl h1
  | letO=>exact absurd rfl h1
  | doB _ _ h2=>cases q2k h3 h2
  | doX _ _ h2 _=>cases q2k h3 h2;rfl
  | doO _ _ h2 _=>cases q2k h3 h2;simp at h4
 | doO h0 h1 h3 _ ih=>intro r' h';cases h' with
  | note h2=>exact absurd h2 h0
  | letN=>exact absurd rfl h1
  | letE=>exact absurd rfl h1
  | letB=>exact absurd rfl h1
  | letX=>exact absurd rfl h1
  | letO=>exact absurd rfl h1
  | doB _ _ h2=>cases q2k h3 h2
  | doX _ _ h2 h4=>cases q2k h3 h2;simp at h4
  | doO _ _ h2 h4=>cases q2k h3 h2;exact ih h4
end Go.Proofs.YtchdplceopegoaaGreatDoor
