/- Texts as one: LayQ, TreF, LayR, SynK, LnP. -/
import Derived.Test.YthjapabokcajhaaGreatDoorPb02
import Derived.Test.YthjapabokcajhaaGreatDoorPb00
import Derived.Test.YthjapabokcajhaaGreatDoorPb01
namespace Go.Proofs.YthjapabokcajhaaGreatDoor
open Go
theorem j8m {c:UInt8} (h:q3g c=true):q4y c=true:=by
 simp only [q3g,Bool.and_eq_true,decide_eq_true_eq] at h
 simp only [q4y,Bool.and_eq_true,decide_eq_true_eq]
 omega
theorem j7l {c:UInt8} (h:q4e c=true):q4y c=true:=by
 simp only [q4e,Bool.and_eq_true,decide_eq_true_eq] at h
 simp only [q4y,Bool.and_eq_true,decide_eq_true_eq]
 omega
theorem z1l {s:List UInt8} (h1:1≤s.length) (h2:s.length≤20) (h3:∀ c∈s,q4y c=true):(wdD s).Wf:=by
 have e:(wbS s).size=s.length:=by rw [←q0b];rfl
 have hw:isW (wbS s)=true:=by
  simp only [isW,Bool.and_eq_true,decide_eq_true_eq,List.all_eq_true]
  exact ⟨⟨by omega,by omega⟩,h3⟩
 refine ⟨?_,rfl⟩
 simp only [q0u,hw]
 rfl
theorem v0p:blD.Wf:=⟨rfl,rfl⟩
theorem y2j:sfD.Wf:=⟨rfl,rfl⟩
theorem q6c {a b:Tr} (ha:a.Wf) (hb:b.Wf):(twD a b).Wf:=⟨rfl,rfl,ha,hb⟩
theorem v0q {a:Tr} (ha:a.Wf):(dpD a).Wf:=⟨rfl,rfl,ha⟩
theorem v0r {a:Tr} (ha:a.Wf):(grD a).Wf:=⟨rfl,rfl,ha⟩
theorem v0s {l:Nat} {x:Td} {d:Tr} (h:d.Wf):(inD l x d).Wf:=by
 unfold inD
 split
 ·exact q6c (z1l (by decide) (by decide) (by decide)) (q6c h (z1l (by decide) (by decide) (by decide)))
 ·exact h
theorem y2i:∀ ps:List (Td × Tr),(∀ p∈ps,p.2.Wf)→ps≠[]→(kdD ps).Wf
 | [p],h,_=>h p (by simp)
 | p::q::r,h,_=>q6c (q6c (h p (by simp)) (z1l (by decide) (by decide) (by decide))) (q6c v0p (y2i (q::r) (fun z hz=>h z (by simp at hz ⊢;right;exact hz)) (by simp)))
theorem j5g {op cl:List UInt8} {ps:List (Td × Tr)} (h:∀ p∈ps,p.2.Wf) (h1:1≤op.length) (h2:op.length+cl.length≤20) (h3:∀ c∈op,q4y c=true) (h4:1≤cl.length) (h5:∀ c∈cl,q4y c=true):(q1i op cl ps).Wf:=by
 unfold q1i
 split
 ·refine z1l (by simp;omega) (by simp;omega) fun c hc=>?_
  rcases List.mem_append.1 hc with hc | hc
  ·exact h3 c hc
  ·exact h5 c hc
 ·rename_i h0
  exact v0r (q6c (z1l h1 (by omega) h3) (q6c (v0q (q6c y2j (y2i ps h fun e=>h0 (by rw [e];rfl)))) (q6c y2j (z1l h4 (by omega) h5))))
theorem q9f {s:ByteArray} (h:q0z s=true):1≤(btL s).length∧(btL s).length≤8∧∀ c∈btL s,q4y c=true:=by
 have h8:=q2c h
 simp only [q0z,Bool.and_eq_true,decide_eq_true_eq,List.all_eq_true] at h
 exact ⟨by rw [q0b];exact h.1.1.1,h8,fun c hc=>j8m (h.2 c hc)⟩
theorem y4u {x:Td} {ps:List (Td × Tr)} (h:∀ p∈ps,p.2.Wf) (hx:exN x) (hk:ps.length=kdT x):(q0e x ps).Wf:=by
 have two:kdT x=2→∃ a b,ps=[a,b]∧a.2.Wf∧b.2.Wf:=fun e=>by
  rw [e] at hk
  match ps,hk with
  | [a,b],_=>exact ⟨a,b,rfl,h a (by simp),h b (by simp)⟩
 rcases q2a hx with ⟨ho,_,h0,h9,_⟩ | ⟨ho,hn,_⟩ | ⟨ho,hn,_⟩ | ⟨ho,_⟩ | ⟨ho,_,_,h2⟩ | ⟨ho,_,_,h2⟩
 ·rw [show q0e x ps=wdD (q2y x.n.toNat) by simp [q0e,ho]]
  have h1:=q8t 5 x.n.toNat (by omega)
  have h2:=List.length_pos_iff.2 (k1a x.n.toNat)
  exact z1l (by omega) (by omega) fun c hc=>j7l (z1r _ c hc)
 ·obtain ⟨n1,n2,n3⟩:=q9f hn
  rw [show q0e x ps=wdD (btL x.tx) by simp [q0e,ho]]
  exact z1l n1 (by omega) n3
 ·obtain ⟨n1,n2,n3⟩:=q9f hn
  rw [show q0e x ps=q1i (btL x.tx++[40]) [41] ps by simp [q0e,ho]]
  refine j5g h (by simp) (by rw [List.length_append];simp only [List.length_cons,List.length_nil];omega) (fun c hc=>?_) (by decide) (by decide)
  rcases List.mem_append.1 hc with hc | hc
  ·exact n3 c hc
  ·simp at hc;subst hc;decide
 ·rw [show q0e x ps=q1i [91] [93] ps by simp [q0e,ho]]
  exact j5g h (by decide) (by decide) (by decide) (by decide) (by decide)
 ·obtain ⟨a,b,rfl,h3,h4⟩:=two h2
  rw [show q0e x [a,b]=grD (twD (inD 0 a.1 a.2) (dpD (twD blD (twD (wdD [43,32]) (inD 1 b.1 b.2))))) by simp [q0e,tw2,ho]]
  exact v0r (q6c (v0s h3) (v0q (q6c v0p (q6c (z1l (by decide) (by decide) (by decide)) (v0s h4)))))
 ·obtain ⟨a,b,rfl,h3,h4⟩:=two h2
  rw [show q0e x [a,b]=grD (twD (inD 1 a.1 a.2) (dpD (twD blD (twD (wdD [42,32]) (inD 2 b.1 b.2))))) by simp [q0e,tw2,ho]]
  exact v0r (q6c (v0s h3) (v0q (q6c v0p (q6c (z1l (by decide) (by decide) (by decide)) (v0s h4)))))
theorem k9n:∀ F:Fo,F.ok→F.exs→∀ p∈F.dcs,p.2.Wf
 | .nil,_,_,p,hp=>by cases hp
 | .cons x k n,hok,hex,p,hp=>by
  have h1:=k9n k hok.2.1 fun y hy=>hex y (by simp [Fo.nodes,hy])
  have h2:=k9n n hok.2.2 fun y hy=>hex y (by simp [Fo.nodes,hy])
  rcases List.mem_cons.1 hp with rfl | hp
  ·exact y4u h1 (hex x (by simp [Fo.nodes])) (by rw [q3o];exact hok.1)
  ·exact h2 p hp
theorem j8x {l:Nat} {x:Td} {d:Tr} (h:d.noE):(inD l x d).noE:=by
 unfold inD
 split
 ·exact ⟨rfl,by show (1:Int)≠4;decide,rfl,h,by show (1:Int)≠4;decide⟩
 ·exact h
theorem y0r:∀ ps:List (Td × Tr),(∀ p∈ps,p.2.noE)→(kdD ps).noE
 | [],_=>by show (1:Int)≠4;decide
 | [p],h=>h p (by simp)
 | p::q::r,h=>⟨rfl,⟨rfl,h p (by simp),by show (1:Int)≠4;decide⟩,rfl,by show (2:Int)≠4;decide,y0r (q::r) (fun z hz=>h z (by simp at hz ⊢;right;exact hz))⟩
theorem j2j {op cl:List UInt8} {ps:List (Td × Tr)} (h:∀ p∈ps,p.2.noE):(q1i op cl ps).noE:=by
 unfold q1i
 split
 ·show (1:Int)≠4;decide
 ·exact ⟨rfl,by show (1:Int)≠4;decide,rfl,⟨rfl,by show (3:Int)≠4;decide,y0r ps h⟩,rfl,by show (3:Int)≠4;decide,by show (1:Int)≠4;decide⟩
theorem v2m {f:Td→Tr→Td→Tr→Tr} {ps:List (Td × Tr)} (h:∀ p∈ps,p.2.noE) (hf:∀ x a y b,a.noE→b.noE→(f x a y b).noE):(tw2 f ps).noE:=by
 unfold tw2
 split
 ·exact hf _ _ _ _ (h _ (by simp)) (h _ (by simp))
 ·show (1:Int)≠4;decide
theorem y4h {x:Td} {ps:List (Td × Tr)} (h:∀ p∈ps,p.2.noE):(q0e x ps).noE:=by
 have h1:(1:Int)≠4:=by decide
 have h2:(2:Int)≠4:=by decide
 unfold q0e
 split
 ·exact h1
 ·split
  ·exact h1
  ·split
   ·exact j2j h
   ·split
    ·exact j2j h
    ·split
     ·exact v2m h fun x a y b ha hb=>⟨rfl,j8x ha,rfl,h2,rfl,h1,j8x hb⟩
     ·exact v2m h fun x a y b ha hb=>⟨rfl,j8x ha,rfl,h2,rfl,h1,j8x hb⟩
theorem k0z:∀ F:Fo,∀ p∈F.dcs,p.2.noE
 | .nil,p,hp=>by cases hp
 | .cons x k n,p,hp=>by
  rcases List.mem_cons.1 hp with rfl | hp
  ·exact y4h (k0z k)
  ·exact k0z n p hp
def z1t (ps:List (Td × Tr)):Nat:=(ps.map fun p=>p.2.nodes.length+5).sum
theorem q1t (p:Td × Tr) (r:List (Td × Tr)):z1t (p::r)=p.2.nodes.length+5+z1t r:=by simp [z1t]
theorem k6i (l:Nat) (x:Td) (d:Tr):(inD l x d).nodes.length≤d.nodes.length+4:=by
 unfold inD
 split
 ·simp only [Tr.nodes,List.length_cons,List.length_append,List.length_nil];omega
 ·omega
theorem k6j:∀ ps:List (Td × Tr),(kdD ps).nodes.length≤z1t ps+1
 | []=>by simp [kdD,z1t,Tr.nodes]
 | [p]=>by simp only [kdD,q1t];omega
 | p::q::r=>by
  have ih:=k6j (q::r)
  show (twD (twD p.2 (wdD [44])) (twD blD (kdD (q::r)))).nodes.length≤_
  rw [q1t]
  simp only [Tr.nodes,List.length_cons,List.length_append,List.length_nil]
  omega
theorem y4i {x:Td} {ps:List (Td × Tr)}:(q0e x ps).nodes.length≤15+z1t ps:=by
 have hm:∀ op cl:List UInt8,(q1i op cl ps).nodes.length≤15+z1t ps:=fun op cl=>by
  have hk:=k6j ps
  unfold q1i
  split
  ·simp only [Tr.nodes,List.length_cons,List.length_nil];omega
  ·simp only [Tr.nodes,List.length_cons,List.length_append,List.length_nil]
   omega
 have ht:∀ f:Td→Tr→Td→Tr→Tr,(∀ x a y b,(f x a y b).nodes.length≤15+a.nodes.length+b.nodes.length)→(tw2 f ps).nodes.length≤15+z1t ps:=fun f hf=>by
  unfold tw2
  split
  ·rename_i a b
   have:=hf a.1 a.2 b.1 b.2
   rw [q1t,q1t]
   omega
  ·simp only [Tr.nodes,List.length_cons,List.length_nil];omega
 have hs:∀ (l m:Nat) (sg:List UInt8) (x:Td) (a:Tr) (y:Td) (b:Tr),(grD (twD (inD l x a) (dpD (twD blD (twD (wdD sg) (inD m y b)))))).nodes.length≤15+a.nodes.length+b.nodes.length:=fun l m sg x a y b=>by
  have h1:=k6i l x a
  have h2:=k6i m y b
  simp only [Tr.nodes,List.length_cons,List.length_append,List.length_nil]
  omega
 unfold q0e
 split
 ·simp only [Tr.nodes,List.length_cons,List.length_nil];omega
 ·split
  ·simp only [Tr.nodes,List.length_cons,List.length_nil];omega
  ·split
   ·exact hm _ _
   ·split
    ·exact hm _ _
    ·split
     ·exact ht _ (hs 0 1 [43,32])
     ·exact ht _ (hs 1 2 [42,32])
theorem z4j:∀ F:Fo,z1t F.dcs≤20*F.nodes.length
 | .nil=>by simp [Fo.dcs,z1t]
 | .cons x k n=>by
  have h1:=z4j k
  have h2:=z4j n
  have h3:=y4i (x:=x) (ps:=k.dcs)
  rw [Fo.dcs,q1t,Fo.nodes]
  simp only [List.length_cons,List.length_append]
  omega
end Go.Proofs.YthjapabokcajhaaGreatDoor
namespace Go.Proofs.YthjapabokcajhaaGreatDoor
open Go
def opT (t:List Td):Int:=match t with
 | []=>0
 | x::_=>x.op
theorem k1y {t:List Td} (h:0<t.length):opT t=t[0].op:=by
 cases t with
 | nil=>simp at h
 | cons x r=>rfl
def q5v (prev:Int) (k:Nat):List (List Td)→Nat × Int
 | []=>(0,0)
 | t::r=>if q0f t≠0 then (k,q0f t) else if opT t=9∧prev=9 then (k,2) else q5v (opT t) (k+1) r
def q1f (ps:List (List Td)):Nat × Int:=if 20<ps.length then (0,3) else q5v 0 0 ps
theorem z7k {t:List Td} (h:q0f t=0):0<t.length:=by
 rcases Nat.eq_zero_or_pos t.length with h0 | h0
 ·have:t=[]:=List.eq_nil_of_length_eq_zero h0
  subst this
  have:=(q2e h).2.2.1
  rw [q8v [] 0 0 (by simp)] at this
  cases this
 ·exact h0
def q6j (ps:List (List Td)) (k:Nat):Int:=if k=0 then 0 else opT (ps.getD (k - 1) [])
theorem z5c {ps:List (List Td)} {k:Nat} (h:k<ps.length):q6j ps (k+1)=opT ps[k]:=by
 simp [q6j,h]
theorem j3n {ps:List (List Td)} {k:Nat} {prev:Int} (h:k<ps.length) (he:q0f ps[k]≠0):q5v prev k (ps.drop k)=(k,q0f ps[k]):=by
 rw [List.drop_eq_getElem_cons h,q5v,if_pos he]
theorem j3o {ps:List (List Td)} {k:Nat} {prev:Int} (h:k<ps.length) (he:q0f ps[k]=0) (h2:opT ps[k]=9∧prev=9):q5v prev k (ps.drop k)=(k,2):=by
 rw [List.drop_eq_getElem_cons h,q5v,if_neg (by simp [he]),if_pos h2]
theorem k6p {ps:List (List Td)} {k:Nat} {prev:Int} (h:k<ps.length) (he:q0f ps[k]=0) (h2:¬ (opT ps[k]=9∧prev=9)):q5v prev k (ps.drop k)=q5v (q6j ps (k+1)) (k+1) (ps.drop (k+1)):=by
 rw [List.drop_eq_getElem_cons h,q5v,if_neg (by simp [he]),if_neg h2,z5c h]
end Go.Proofs.YthjapabokcajhaaGreatDoor
namespace Go.Proofs.YthjapabokcajhaaGreatDoor
open Go
def hdD (ps:List (Td × Tr)):Tr:=match ps with
 | p::_=>p.2
 | []=>wdD []
def q0n (t:List Td):Tr:=match k8k t with
 | .nil=>wdD []
 | .cons x k _=>stD x (hdD k.dcs)
theorem q7l {x:Td} {F:Fo} (h:F.ok) (hl:F.len=kdT x):q0n (x::F.nodes)=stD x (hdD F.dcs):=by
 rw [q0n,v2z h hl]
structure y3f (t:List Td):Prop where
 f:(q0n t).flat=some (z7p t)
 w:(q0n t).Wf
 e:(q0n t).noE
 n:(q0n t).nodes.length≤900
theorem v7r {F:Fo} (hl:F.len=1):∃ y k,F = .cons y k .nil:=by
 cases F with
 | nil=>cases hl
 | cons y k n=>cases n with
  | nil=>exact ⟨y,k,rfl⟩
  | cons _ _ _=>simp [Fo.len] at hl
theorem q4q {t:List Td} (h:q0f t=0) (h9:opT t≠9):∃ (x y:Td) (k:Fo),t=x::(Fo.cons y k .nil).nodes∧(Fo.cons y k .nil).ok∧(Fo.cons y k .nil).exs∧(Fo.cons y k .nil).len=kdT x∧((x.op=7∧q0z x.tx=true∧x.n=0)∨(x.op=8∧x.tx=⟨#[]⟩∧x.n=0)):=by
 rcases q4a h with ⟨x,rfl,ho,_⟩ | ⟨x,F,rfl,hok,hex,hl,hx⟩
 ·exact absurd ho h9
 ·obtain ⟨y,k,rfl⟩:=v7r hl
  refine ⟨x,y,k,rfl,hok,hex,?_,hx⟩
  rw [hl]
  unfold kdT
  rcases hx with ⟨ho,_⟩ | ⟨ho,_⟩<;>rw [ho]<;>rfl
theorem q7s {t:List Td} (h:q0f t=0) (h9:opT t≠9):y3f t:=by
 have hl40:=(q2e h).1
 obtain ⟨x,y,k,rfl,hok,hex,hk,hx⟩:=q4q h h9
 have hm:=z1q _ hok hex
 have hw:=k9n _ hok hex
 have he:=k0z (.cons y k .nil)
 have hn:=z4j (.cons y k .nil)
 have e0:q0n (x::(Fo.cons y k .nil).nodes)=stD x (q0e y k.dcs):=q7l hok hk
 have e1:z7p (x::(Fo.cons y k .nil).nodes)=stX x (Fo.cons y k .nil).trs:=(z1k hok hk).1
 have hf:(q0e y k.dcs).flat=some (q1u y k.trs).tx:=by
  cases hm with
  | cons h1 _=>exact h1.2
 have hw1:(q0e y k.dcs).Wf:=hw (y,q0e y k.dcs) (by simp [Fo.dcs])
 have he1:(q0e y k.dcs).noE:=he (y,q0e y k.dcs) (by simp [Fo.dcs])
 have hn1:(q0e y k.dcs).nodes.length+5≤20*(Fo.cons y k .nil).nodes.length:=by
  rw [Fo.dcs,q1t] at hn
  have:z1t Fo.nil.dcs=0:=rfl
  exact Nat.le_trans (Nat.le_add_right _ _) hn
 simp only [List.length_cons] at hl40
 generalize q0e y k.dcs=D at e0 hf hw1 he1 hn1
 have w59:(wdD [59]).Wf:=z1l (by decide) (by decide) (by decide)
 have n1:(1:Int)≠4:=by decide
 have n2:(2:Int)≠4:=by decide
 rcases hx with ⟨ho,hnm,_⟩ | ⟨ho,_,_⟩
 ·obtain ⟨m1,m2,m3⟩:=q9f hnm
  have e2:stD x D=grD (twD (wdD ([108,101,116,32]++btL x.tx++[32,61])) (dpD (twD blD (twD D (wdD [59]))))):=by rw [stD,if_pos ho]
  refine ⟨?_,?_,?_,?_⟩
  ·rw [e0,e1,e2,j7o,q5e (z2o _) (by rw [j7n];exact q5e j7m (q5e hf (z2o _)))]
   simp [stX,ho,hdT,Fo.trs]
  ·rw [e0,e2]
   refine v0r (q6c (z1l (by simp) (by simp only [List.length_append,List.length_cons,List.length_nil];omega) fun c hc=>?_) (v0q (q6c v0p (q6c hw1 w59))))
   rcases List.mem_append.1 hc with hc | hc
   ·rcases List.mem_append.1 hc with hc | hc
    ·simp at hc;rcases hc with rfl | rfl | rfl | rfl<;>decide
    ·exact m3 c hc
   ·simp at hc;rcases hc with rfl | rfl<;>decide
  ·rw [e0,e2];exact ⟨rfl,n1,rfl,n2,rfl,he1,n1⟩
  ·rw [e0,e2]
   simp only [Tr.nodes,List.length_cons,List.length_append,List.length_nil]
   omega
 ·have e2:stD x D=twD D (wdD [59]):=by rw [stD,if_neg (by omega)]
  refine ⟨?_,?_,?_,?_⟩
  ·rw [e0,e1,e2,q5e hf (z2o _)]
   simp [stX,ho,hdT,Fo.trs]
  ·rw [e0,e2];exact q6c hw1 w59
  ·rw [e0,e2];exact ⟨rfl,he1,n1⟩
  ·rw [e0,e2]
   simp only [Tr.nodes,List.length_cons,List.length_append,List.length_nil]
   omega
theorem k9r {t:List Td} (h:q0f t=0) (h9:opT t≠9) {ws:List Int} {r:List UInt8} (hs:(q0n t).show ws = .ok r):r.filter dnB=(z7p t).filter dnB:=by
 have hd:=q7s h h9
 unfold Tr.show at hs
 split at hs
 ·cases hl:(q0n t).lay 0 ws with
  | error e=>rw [hl] at hs;cases hs
  | ok p=>
   obtain ⟨r',ws'⟩:=p
   rw [hl] at hs
   have h1:=q6p _ _ hd.e hd.w hd.f 0 ws ws' r' hl
   cases ws' with
   | nil=>cases hs;exact h1
   | cons a b=>cases hs
 ·cases hs
end Go.Proofs.YthjapabokcajhaaGreatDoor
namespace Go.Proofs.YthjapabokcajhaaGreatDoor
open Go
def v5a (a b:UInt8):Bool:=(q3g a && q3g b) || (q4e a && q4e b)
def q5x (b:UInt8):Bool:=!q3g b && !q4e b
def k1d (s rest:List UInt8):Prop:=∀ a b,s.getLast? = some a→rest.head? = some b→v5a a b=false
theorem z4p {a b:UInt8} (h:q5x b=true):v5a a b=false:=by
 simp only [q5x,Bool.and_eq_true,Bool.not_eq_true'] at h
 simp [v5a,h.1,h.2]
theorem z8s {a b:UInt8} (h:q5x a=true):v5a a b=false:=by
 simp only [q5x,Bool.and_eq_true,Bool.not_eq_true'] at h
 simp [v5a,h.1,h.2]
theorem z4l {s:List UInt8} {b:UInt8} (h:q5x b=true) (r:List UInt8):k1d s (b::r):=fun _ c _ hc=>by
 simp only [List.head?_cons,Option.some.injEq] at hc
 subst hc
 exact z4p h
theorem q7e {a:UInt8} (h:q5x a=true) (s r:List UInt8):k1d (s++[a]) r:=fun c _ hc _=>by
 simp only [List.getLast?_append,List.getLast?_singleton,Option.some_or,Option.some.injEq] at hc
 subst hc
 exact z8s h
def Lx (s:List UInt8) (ws:List Wd):Prop:=∀ rest i,k1d s rest→(lxW (s++rest) i).map (·.2)=ws++(lxW rest (i+s.length)).map (·.2)∧lxF (s++rest) i=lxF rest (i+s.length)
theorem Lx.nil:Lx [] []:=fun rest i _=>by simp
theorem Lx.app {s t:List UInt8} {ws us:List Wd} (h1:Lx s ws) (h2:Lx t us) (h:k1d s t):Lx (s++t) (ws++us):=by
 intro rest i hr
 have hst:k1d s (t++rest):=by
  intro a b ha hb
  cases t with
  | nil=>
   rw [List.append_nil] at hr
   exact hr a b ha hb
  | cons c t=>exact h a b ha hb
 have htr:k1d t rest:=by
  intro a b ha hb
  refine hr a b ?_ hb
  rw [List.getLast?_append,ha];rfl
 obtain ⟨a1,a2⟩:=h1 (t++rest) i hst
 obtain ⟨b1,b2⟩:=h2 rest (i+s.length) htr
 rw [List.append_assoc,a1,a2,b1,b2,List.length_append,Nat.add_assoc]
 exact ⟨by simp,rfl⟩
theorem Lx.blank {c:UInt8} (h:spB c=true):Lx [c] []:=by
 intro rest i _
 rw [List.cons_append,List.nil_append,lxW,lxF,k1n rest i h]
 exact ⟨by simp [lxW],by simp [lxF]⟩
theorem Lx.tok {c:UInt8} {r:List UInt8} (hs:spB c=false) (h:∀ rest,k1d (c::r) rest→q4r (c::r++rest)=true∧q0q (c::r++rest)=(c::r).length) (ht:q1c (c::r)=c::r):Lx (c::r) [c::r]:=by
 intro rest i hr
 obtain ⟨h1,h2⟩:=h rest hr
 rw [List.cons_append] at h1 h2
 have ed:(c::(r++rest)).drop (q0q (c::(r++rest)))=rest:=by rw [h2,←List.cons_append,List.drop_left]
 have ew:tkW (c::(r++rest))=c::r:=by rw [tkW,h2,←List.cons_append,List.take_left,ht]
 rw [List.cons_append,lxW,lxF,z4y i hs h1,ed,ew,h2]
 exact ⟨rfl,rfl⟩
theorem k4t {p:UInt8→Bool}:∀ (r rest:List UInt8),(∀ x∈r,p x=true)→(∀ b,rest.head? = some b→p b=false)→(r++rest).takeWhile p=r
 | [],rest,_,h=>by
  cases rest with
  | nil=>rfl
  | cons b t=>rw [List.nil_append,List.takeWhile_cons,if_neg (by simp [h b rfl])]
 | a::r,rest,h,h2=>by
  rw [List.cons_append,List.takeWhile_cons,if_pos (h a (by simp)),k4t r rest (fun x hx=>h x (by simp [hx])) h2]
theorem k3p {s:List UInt8} (h:s≠[]):∃ a,s.getLast? = some a∧a∈s:=by
 refine ⟨s.getLast h,List.getLast?_eq_some_getLast h,List.getLast_mem h⟩
theorem j4v {p:UInt8→Bool} (hp:∀ x,p x=true→x≠32) {l:List UInt8} (h:∀ x∈l,p x=true):q1c l=l:=by
 rcases List.eq_nil_or_concat l with rfl | ⟨v,c,rfl⟩
 ·rfl
 ·rw [List.concat_eq_append] at h ⊢
  exact q1j v (hp c (h c (by simp)))
theorem y0l {c:UInt8} (h:q3g c=true):spB c=false:=by
 have h1:c≠32:=z9g h
 have h2:c≠10:=by rintro rfl;revert h;decide
 simp [spB,h1,h2]
theorem v9u {c:UInt8} (h:q4e c=true):spB c=false:=by
 have h1:c≠32:=z8l h
 have h2:c≠10:=by rintro rfl;revert h;decide
 simp [spB,h1,h2]
theorem Lx.name {w:Wd} (h:∀ x∈w,q3g x=true) (h0:w≠[]) (h8:w.length≤8):Lx w [w]:=by
 cases w with
 | nil=>exact absurd rfl h0
 | cons c r=>
  have hc:=h c (by simp)
  refine Lx.tok (y0l hc) (fun rest hr=>?_) (j4v (fun _=>z9g) h)
  obtain ⟨a,ha,hm⟩:=k3p (s:=c::r) (by simp)
  have hb:∀ b,rest.head? = some b→q3g b=false:=fun b hb=>by
   have:=hr a b ha hb
   simp only [v5a,h a hm,Bool.true_and,Bool.or_eq_false_iff] at this
   exact this.1
  have e:=k4t r rest (fun x hx=>h x (by simp [hx])) hb
  rw [List.cons_append]
  simp only [q4r,q0q,hc,if_true,e]
  simp only [List.length_cons] at h8 ⊢
  exact ⟨decide_eq_true h8,trivial⟩
theorem Lx.num (n:Nat) (hn:n≤999999):Lx (q2y n) [q2y n]:=by
 have hf:=z1r n
 have h6:=q8t 5 n (by omega)
 have hz:∀ c r,q2y n=c::r→(c != 48 || r.length == 0)=true:=fun c r e=>by
  rcases Nat.eq_zero_or_pos n with h | h
  ·subst h
   rw [q2y,dif_pos (by omega)] at e
   cases e;rfl
  ·obtain ⟨d,z,e2,hd⟩:=z8h n h
   rw [e,List.cons.injEq] at e2
   rw [e2.1];simp [hd]
 cases hd:q2y n with
 | nil=>exact absurd hd (k1a n)
 | cons c r=>
  rw [hd] at hf h6
  have hc:=hf c (by simp)
  have hlow:q3g c=false:=k1f hc
  refine Lx.tok (v9u hc) (fun rest hr=>?_) (j4v (fun _=>z8l) hf)
  obtain ⟨a,ha,hm⟩:=k3p (s:=c::r) (by simp)
  have hb:∀ b,rest.head? = some b→q4e b=false:=fun b hb=>by
   have:=hr a b ha hb
   simp only [v5a,hf a hm,Bool.true_and,Bool.or_eq_false_iff] at this
   exact this.2
  have e:=k4t r rest (fun x hx=>hf x (by simp [hx])) hb
  rw [List.cons_append]
  simp only [q4r,q0q,hc,hlow,if_true,Bool.false_eq_true,if_false,e]
  simp only [List.length_cons] at h6 ⊢
  exact ⟨by rw [decide_eq_true h6,hz c r hd];rfl,trivial⟩
theorem Lx.mark {c:UInt8} (h:v8s c=true):Lx [c] [[c]]:=by
 have hc:spB c=false∧q3g c=false∧q4e c=false∧(c == 35)=false∧c≠32:=by
  simp only [v8s,y0p,List.any_cons,List.any_nil,Bool.or_false,Bool.or_eq_true,beq_iff_eq] at h
  rcases h with h | h | h | h | h | h | h | h | h<;>(subst h;decide)
 obtain ⟨h1,h2,h3,h4,h5⟩:=hc
 refine Lx.tok h1 (fun rest _=>?_) (q1j [] h5)
 rw [List.cons_append]
 simp only [q4r,q0q,h2,h3,h4,Bool.false_eq_true,if_false]
 exact ⟨h,rfl⟩
theorem Lx.pre {c:UInt8} {t:List UInt8} {ws us:List Wd} (h1:Lx [c] ws) (hc:q5x c=true) (h2:Lx t us):Lx (c::t) (ws++us):=
 Lx.app h1 h2 (q7e hc [] t)
theorem Lx.post {c:UInt8} {s:List UInt8} {ws us:List Wd} (h1:Lx s ws) (hc:q5x c=true) (h2:Lx [c] us):Lx (s++[c]) (ws++us):=
 Lx.app h1 h2 (z4l hc [])
end Go.Proofs.YthjapabokcajhaaGreatDoor
namespace Go.Proofs.YthjapabokcajhaaGreatDoor
open Go
def Txt (D:Tr) (r:List UInt8):Prop:=D.flat=some r∨∃ deep cs cs',D.lay deep cs = .ok (r,cs')
def LxD (D:Tr) (ws:List Wd):Prop:=∀ r,Txt D r→Lx r ws
def y2u (D:Tr):Prop:=∀ r,Txt D r→∀ a,r.getLast? = some a→q5x a=true
def v3h (D:Tr):Prop:=∀ r,Txt D r→∀ a,r.head? = some a→q5x a=true
theorem j5a {s r:List UInt8} (h:Txt (wdD s) r):r=s:=by
 rcases h with h | ⟨deep,cs,cs',h⟩
 ·cases h;rfl
 ·cases h;rfl
theorem q7o {D:Tr} {r:List UInt8} {op:Int} (hD:D = .leaf ⟨op,⟨#[]⟩,0⟩) (hop:op=2∨op=3) (h:Txt D r):∀ c∈r,c=32∨c=10:=by
 subst hD
 rcases h with h | ⟨deep,cs,cs',h⟩
 ·rcases hop with rfl | rfl
  ·cases h;simp
  ·cases h;simp
 ·have:r=10::List.replicate deep 32:=by
   rcases hop with rfl | rfl<;>(cases h;rfl)
  subst this
  intro c hc
  rcases List.mem_cons.1 hc with rfl | hc
  ·exact .inr rfl
  ·exact .inl (List.eq_of_mem_replicate hc)
theorem j4z {a b:Tr} {r:List UInt8} (h:Txt (twD a b) r):∃ ra rb,Txt a ra∧Txt b rb∧r=ra++rb:=by
 rcases h with h | ⟨deep,cs,cs',h⟩
 ·simp only [Tr.flat,if_true] at h
  cases ea:a.flat with
  | none=>rw [ea] at h;cases h
  | some s=>
   cases eb:b.flat with
   | none=>rw [ea,eb] at h;cases h
   | some t=>
    rw [ea,eb] at h
    cases h
    exact ⟨s,t,.inl ea,.inl eb,rfl⟩
 ·simp only [Tr.lay,if_true] at h
  cases la:a.lay deep cs with
  | error e=>rw [la] at h;cases h
  | ok p=>
   obtain ⟨r1,c1⟩:=p
   rw [la] at h
   simp only at h
   cases lb:b.lay deep c1 with
   | error e=>rw [lb] at h;cases h
   | ok p2=>
    obtain ⟨r2,c2⟩:=p2
    rw [lb] at h
    cases h
    exact ⟨r1,r2,.inr ⟨_,_,_,la⟩,.inr ⟨_,_,_,lb⟩,rfl⟩
theorem v3e {a:Tr} {r:List UInt8} (h:Txt (dpD a) r):Txt a r:=by
 rcases h with h | ⟨deep,cs,cs',h⟩
 ·exact .inl h
 ·exact .inr ⟨_,cs,cs',h⟩
theorem y2c {a:Tr} {r:List UInt8} (h:Txt (grD a) r):Txt a r:=by
 rcases h with h | ⟨deep,cs,cs',h⟩
 ·exact .inl h
 ·simp only [Tr.lay] at h
  rw [if_neg (by decide)] at h
  cases cs with
  | nil=>cases h
  | cons c cs=>
   simp only at h
   split at h
   ·exact .inr ⟨_,_,_,h⟩
   ·cases ha:a.flat with
    | none=>rw [ha] at h;cases h
    | some s=>rw [ha] at h;cases h;exact .inl ha
theorem j2b:∀ r:List UInt8,(∀ c∈r,c=32∨c=10)→Lx r []
 | [],_=>Lx.nil
 | c::r,h=>by
  have h1:spB c=true∧q5x c=true:=by
   rcases h c (by simp) with rfl | rfl<;>exact ⟨by decide,by decide⟩
  exact Lx.pre (Lx.blank h1.1) h1.2 (j2b r fun x hx=>h x (by simp [hx]))
theorem j4a {r:List UInt8} (h:∀ c∈r,c=32∨c=10):(∀ a,r.getLast? = some a→q5x a=true)∧(∀ a,r.head? = some a→q5x a=true):=by
 have:∀ a∈r,q5x a=true:=fun a ha=>by rcases h a ha with rfl | rfl<;>decide
 exact ⟨fun a ha=>this a (List.mem_of_getLast? ha),fun a ha=>this a (List.mem_of_mem_head? ha)⟩
theorem z2y {s:List UInt8} {ws:List Wd} (h:Lx s ws):LxD (wdD s) ws:=fun r hr=>by rw [j5a hr];exact h
theorem j8o:LxD blD []:=fun r hr=>j2b r (q7o rfl (.inl rfl) hr)
theorem y0n:LxD sfD []:=fun r hr=>j2b r (q7o rfl (.inr rfl) hr)
theorem j8p {a:Tr} {ws:List Wd} (h:LxD a ws):LxD (dpD a) ws:=fun _ hr=>h _ (v3e hr)
theorem j8q {a:Tr} {ws:List Wd} (h:LxD a ws):LxD (grD a) ws:=fun _ hr=>h _ (y2c hr)
theorem q6h {a b:Tr} {us vs:List Wd} (ha:LxD a us) (hb:LxD b vs) (h:y2u a∨v3h b):LxD (twD a b) (us++vs):=fun r hr=>by
 obtain ⟨ra,rb,h1,h2,rfl⟩:=j4z hr
 refine Lx.app (ha ra h1) (hb rb h2) fun x y hx hy=>?_
 rcases h with h | h
 ·exact z8s (h ra h1 x hx)
 ·exact z4p (h rb h2 y hy)
theorem j7k {s:List UInt8} {c:UInt8} (h:q5x c=true):y2u (wdD (s++[c])):=fun r hr a ha=>by
 rw [j5a hr,List.getLast?_append] at ha
 simp at ha;subst ha;exact h
theorem j6t {s:List UInt8} {c:UInt8} (h:q5x c=true):v3h (wdD (c::s)):=fun r hr a ha=>by
 rw [j5a hr] at ha
 simp at ha;subst ha;exact h
theorem j7j:y2u blD:=fun _ hr=>(j4a (q7o rfl (.inl rfl) hr)).1
theorem v9o:y2u sfD:=fun _ hr=>(j4a (q7o rfl (.inr rfl) hr)).1
theorem j6r (b:Tr):v3h (twD blD b):=fun r hr a ha=>by
 obtain ⟨ra,rb,h1,h2,rfl⟩:=j4z hr
 have h3:=q7o rfl (.inl rfl) h1
 have hne:ra≠[]:=by
  rcases h1 with h | ⟨deep,cs,cs',h⟩
  ·cases h;simp
  ·cases h;simp
 obtain ⟨c,ra',rfl⟩:=List.exists_cons_of_ne_nil hne
 simp at ha;subst ha
 rcases h3 c (by simp) with rfl | rfl<;>decide
theorem y3o {b:Tr} (h:v3h b):v3h (twD sfD b):=fun r hr a ha=>by
 obtain ⟨ra,rb,h1,h2,rfl⟩:=j4z hr
 have h3:=q7o rfl (.inr rfl) h1
 cases ra with
 | nil=>exact h rb h2 a (by simpa using ha)
 | cons c ra'=>
  simp at ha;subst ha
  rcases h3 c (by simp) with rfl | rfl<;>decide
theorem v4a {a:Tr} (h:v3h a):v3h (dpD a):=fun r hr=>h r (v3e hr)
theorem j8r {x:Td} {d:Tr} {t:Tn} (hx:x=t.x) (h:LxD d t.tk) (l:Nat):LxD (inD l x d) (brk l t):=by
 unfold inD brk
 rw [hx]
 split
 ·have h1:LxD (wdD [41]) [[41]]:=z2y (Lx.mark (by decide))
  have h2:LxD (wdD [40]) [[40]]:=z2y (Lx.mark (by decide))
  exact q6h h2 (q6h h h1 (.inr (j6t (by decide)))) (.inl (j7k (s:=[]) (by decide)))
 ·exact h
inductive Mks:List (Td × Tr)→List Tn→Prop where
 | nil:Mks [] []
 | cons {p t ps ts}:p.1=t.x→LxD p.2 t.tk→Mks ps ts→Mks (p::ps) (t::ts)
theorem y0m:∀ {ps:List (Td × Tr)} {ts:List Tn},Mks ps ts→ps≠[]→LxD (kdD ps) (cmk ts)
 | _,_,.cons _ h .nil,_=>by simp only [kdD,cmk,List.append_nil];exact h
 | _,_,.cons (ps:=p::ps) (ts:=t::ts) _ h (.cons e2 h2 h3),_=>by
  have ih:=y0m (Mks.cons e2 h2 h3) (by simp)
  have h44:LxD (wdD [44]) [[44]]:=z2y (Lx.mark (by decide))
  have h5:=q6h (q6h h h44 (.inr (j6t (by decide)))) (q6h j8o ih (.inl j7j)) (.inr (j6r _))
  show LxD (twD (twD _ (wdD [44])) (twD blD (kdD (p::ps)))) _
  rw [show ∀ z:Tn,cmk (z::t::ts)=(z.tk++[[44]])++([]++cmk (t::ts)) from fun z=>by simp [cmk]]
  exact h5
theorem j2a {ps:List (Td × Tr)} {ts:List Tn} (h:Mks ps ts) {op:List UInt8} {o:UInt8} {cl:UInt8} {ws:List Wd} (ho:q5x o=true) (hop:Lx (op++[o]) ws) (hc:v8s cl=true) (hcs:q5x cl=true):LxD (q1i (op++[o]) [cl] ps) (ws++cmk ts++[[cl]]):=by
 have hcl:LxD (wdD [cl]) [[cl]]:=z2y (Lx.mark hc)
 unfold q1i
 split
 ·rename_i h0
  cases h with
  | nil=>
   refine z2y ?_
   have:=Lx.app hop (Lx.mark hc) (q7e ho op [cl])
   simpa [cmk] using this
  | cons=>simp at h0
 ·rename_i h0
  have hne:ps≠[]:=fun e=>h0 (by rw [e];rfl)
  have h5:=q6h (z2y hop) (q6h (j8p (q6h y0n (y0m h hne) (.inl v9o))) (q6h y0n hcl (.inl v9o)) (.inr (y3o (j6t hcs)))) (.inl (j7k ho))
  refine j8q ?_
  have e:ws++cmk ts++[[cl]]=ws++([]++cmk ts++([]++[[cl]])):=by simp
  rw [e]
  exact h5
theorem y4d {x:Td} {ps:List (Td × Tr)} {ts:List Tn} (h:Mks ps ts) (hx:exN x) (hk:ps.length=kdT x):LxD (q0e x ps) (q3h x ts):=by
 have two:kdT x=2→∃ a b c d,ps=[a,b]∧ts=[c,d]∧(a.1=c.x∧LxD a.2 c.tk)∧(b.1=d.x∧LxD b.2 d.tk):=fun e=>by
  rw [e] at hk
  cases h with
  | nil=>simp at hk
  | cons h1 h1' h2=>cases h2 with
   | nil=>simp at hk
   | cons h3 h3' h4=>cases h4 with
    | nil=>exact ⟨_,_,_,_,rfl,rfl,⟨h1,h1'⟩,⟨h3,h3'⟩⟩
    | cons=>simp at hk
 have nm:q0z x.tx=true→Lx (btL x.tx) [btL x.tx]:=fun hn=>by
  have h8:=q2c hn
  simp only [q0z,Bool.and_eq_true,decide_eq_true_eq,List.all_eq_true] at hn
  refine Lx.name hn.2 ?_ h8
  intro e
  have:=q0b x.tx
  rw [e] at this
  simp at this;omega
 have sg:∀ c:UInt8,v8s c=true→q5x c=true→LxD (wdD [c,32]) [[c]]:=fun c hc hs=>by
  refine z2y ?_
  have:=Lx.app (Lx.mark hc) (Lx.blank (c:=32) (by decide)) (z4l (by decide) [])
  simpa using this
 rcases q2a hx with ⟨ho,_,h0,h9,_⟩ | ⟨ho,hn,_⟩ | ⟨ho,hn,_⟩ | ⟨ho,_⟩ | ⟨ho,_,_,h2⟩ | ⟨ho,_,_,h2⟩
 ·rw [show q0e x ps=wdD (q2y x.n.toNat) by simp [q0e,ho],show q3h x ts=[q2y x.n.toNat] by simp [q3h,ho]]
  exact z2y (Lx.num _ (by omega))
 ·rw [show q0e x ps=wdD (btL x.tx) by simp [q0e,ho],show q3h x ts=[btL x.tx] by simp [q3h,ho]]
  exact z2y (nm hn)
 ·rw [show q0e x ps=q1i (btL x.tx++[40]) [41] ps by simp [q0e,ho],show q3h x ts=[btL x.tx,[40]]++cmk ts++[[41]] by simp [q3h,ho]]
  refine j2a h (by decide) ?_ (by decide) (by decide)
  exact Lx.post (nm hn) (by decide) (Lx.mark (by decide))
 ·rw [show q0e x ps=q1i ([]++[91]) [93] ps by simp [q0e,ho],show q3h x ts=[[91]]++cmk ts++[[93]] by simp [q3h,ho]]
  exact j2a h (by decide) (Lx.mark (by decide)) (by decide) (by decide)
 ·obtain ⟨a,b,c,d,rfl,rfl,h3,h4⟩:=two h2
  rw [show q0e x [a,b]=grD (twD (inD 0 a.1 a.2) (dpD (twD blD (twD (wdD [43,32]) (inD 1 b.1 b.2))))) by simp [q0e,tw2,ho],show q3h x [c,d]=brk 0 c++([]++([[43]]++brk 1 d)) by simp [q3h,two2,ho]]
  exact j8q (q6h (j8r h3.1 h3.2 0) (j8p (q6h j8o (q6h (sg 43 (by decide) (by decide)) (j8r h4.1 h4.2 1) (.inl (j7k (s:=[43]) (by decide)))) (.inl j7j))) (.inr (v4a (j6r _))))
 ·obtain ⟨a,b,c,d,rfl,rfl,h3,h4⟩:=two h2
  rw [show q0e x [a,b]=grD (twD (inD 1 a.1 a.2) (dpD (twD blD (twD (wdD [42,32]) (inD 2 b.1 b.2))))) by simp [q0e,tw2,ho],show q3h x [c,d]=brk 1 c++([]++([[42]]++brk 2 d)) by simp [q3h,two2,ho]]
  exact j8q (q6h (j8r h3.1 h3.2 1) (j8p (q6h j8o (q6h (sg 42 (by decide) (by decide)) (j8r h4.1 h4.2 2) (.inl (j7k (s:=[42]) (by decide)))) (.inl j7j))) (.inr (v4a (j6r _))))
theorem k9m:∀ F:Fo,F.ok→F.exs→Mks F.dcs F.trs
 | .nil,_,_=>.nil
 | .cons x k n,hok,hex=>by
  have h1:=k9m k hok.2.1 fun y hy=>hex y (by simp [Fo.nodes,hy])
  have h2:=k9m n hok.2.2 fun y hy=>hex y (by simp [Fo.nodes,hy])
  exact .cons rfl (y4d h1 (hex x (by simp [Fo.nodes])) (by rw [q3o];exact hok.1)) h2
theorem v9l {t:List Td} (h:q0f t=0) (h9:opT t≠9) {r:List UInt8} (hr:Txt (q0n t) r):Lx r (q6w t):=by
 obtain ⟨x,y,k,rfl,hok,hex,hk,hx⟩:=q4q h h9
 have hm:=k9m _ hok hex
 have hd:LxD (q0e y k.dcs) (q1u y k.trs).tk:=by
  cases hm with
  | cons _ h1 _=>exact h1
 have e0:q0n (x::(Fo.cons y k .nil).nodes)=stD x (q0e y k.dcs):=q7l hok hk
 have e1:q6w (x::(Fo.cons y k .nil).nodes)=stK x (Fo.cons y k .nil).trs:=(z1k hok hk).2
 have h59:LxD (wdD [59]) [[59]]:=z2y (Lx.mark (by decide))
 rw [e0] at hr
 rw [e1]
 generalize q0e y k.dcs=D at hd hr
 have hD:LxD (twD D (wdD [59])) ((q1u y k.trs).tk++[[59]]):=q6h hd h59 (.inr (j6t (by decide)))
 rcases hx with ⟨ho,hnm,_⟩ | ⟨ho,_,_⟩
 ·rw [stD,if_pos ho] at hr
  have h8:=q2c hnm
  have hnm':=hnm
  simp only [q0z,Bool.and_eq_true,decide_eq_true_eq,List.all_eq_true] at hnm'
  have hnl:Lx (btL x.tx) [btL x.tx]:=Lx.name hnm'.2 (by intro e;have:=q0b x.tx;rw [e] at this;simp at this;omega) h8
  have hlet:Lx [108,101,116] [[108,101,116]]:=Lx.name (by decide) (by decide) (by decide)
  have hpre:Lx ([108,101,116,32]++btL x.tx++[32,61]) [[108,101,116],btL x.tx,[61]]:=by
   have q1:Lx ([108,101,116]++[32]) ([[108,101,116]]++[]):=Lx.post hlet (by decide) (Lx.blank (by decide))
   have q2:=Lx.app q1 hnl (q7e (by decide) _ _)
   have q3:=Lx.post q2 (c:=32) (by decide) (Lx.blank (by decide))
   have q4:=Lx.post q3 (c:=61) (by decide) (Lx.mark (by decide))
   have e:[108,101,116,32]++btL x.tx++[32,61]=[108,101,116]++[32]++btL x.tx++[32]++[61]:=by simp
   rw [e]
   simpa using q4
  have h5:=j8q (q6h (z2y hpre) (j8p (q6h j8o hD (.inl j7j))) (.inr (v4a (j6r _))))
  have h6:=h5 r hr
  simpa [stK,ho,hdK,Fo.trs] using h6
 ·rw [stD,if_neg (by omega)] at hr
  have h6:=hD r hr
  simpa [stK,ho,hdK,Fo.trs] using h6
end Go.Proofs.YthjapabokcajhaaGreatDoor
