/- Texts as one: LayP, LayQ, TreF, LayR, SynK. -/
import Derived.Test.YtchdplceopegoaaGreatDoorPs02
namespace Go.Proofs.YtchdplceopegoaaGreatDoor
open Go
abbrev wdD (s:List UInt8):Tr:=.leaf ⟨1,wbS s,0⟩
abbrev blD:Tr:=.leaf ⟨2,⟨#[]⟩,0⟩
abbrev sfD:Tr:=.leaf ⟨3,⟨#[]⟩,0⟩
abbrev twD (a b:Tr):Tr:=.two ⟨6,⟨#[]⟩,0⟩ a b
abbrev dpD (a:Tr):Tr:=.one ⟨7,⟨#[]⟩,2⟩ a
abbrev grD (a:Tr):Tr:=.one ⟨8,⟨#[]⟩,0⟩ a
def inD (l:Nat) (x:Td) (d:Tr):Tr:=if prc x<l then twD (wdD [40]) (twD d (wdD [41])) else d
def kdD:List (Td × Tr)→Tr
 | []=>wdD []
 | p::r=>match r with
  | []=>p.2
  | _::_=>twD (twD p.2 (wdD [44])) (twD blD (kdD r))
def tw2 (f:Td→Tr→Td→Tr→Tr):List (Td × Tr)→Tr
 | [a,b]=>f a.1 a.2 b.1 b.2
 | _=>wdD []
def q2c (op cl:List UInt8) (ks:List (Td × Tr)):Tr:=if ks.length=0 then wdD (op++cl) else grD (twD (wdD op) (twD (dpD (twD sfD (kdD ks))) (twD sfD (wdD cl))))
def q0l (x:Td) (ks:List (Td × Tr)):Tr:=
 if x.op=1 then wdD (q3y x.n.toNat)
 else if x.op=2 then wdD (btL x.tx)
 else if x.op=3 then q2c (btL x.tx++[40]) [41] ks
 else if x.op=4 then q2c [91] [93] ks
 else if x.op=5 then tw2 (fun x a y b=>grD (twD (inD 0 x a) (dpD (twD blD (twD (wdD [43,32]) (inD 1 y b)))))) ks
 else tw2 (fun x a y b=>grD (twD (inD 1 x a) (dpD (twD blD (twD (wdD [42,32]) (inD 2 y b)))))) ks
def Fo.dcs:Fo→List (Td × Tr)
 | .nil=>[]
 | .cons x k n=>(x,q0l x k.dcs)::n.dcs
theorem q8c:∀ F:Fo,F.dcs.length=F.len
 | .nil=>rfl
 | .cons _ _ n=>by simp [Fo.dcs,Fo.len,q8c n]
def stD (x:Td) (d:Tr):Tr:=
 if x.op=7 then grD (twD (wdD ([108,101,116,32]++btL x.tx++[32,61])) (dpD (twD blD (twD d (wdD [59]))))) else twD d (wdD [59])
theorem z3c (s:List UInt8):(wdD s).flat=some s:=rfl
theorem q5l {a b:Tr} {s t:List UInt8} (ha:a.flat=some s) (hb:b.flat=some t):(twD a b).flat=some (s++t):=by
 simp only [Tr.flat,if_true,ha,hb]
theorem j8j (a:Tr):(dpD a).flat=a.flat:=rfl
theorem j8k (a:Tr):(grD a).flat=a.flat:=rfl
theorem j8i:blD.flat=some [32]:=rfl
theorem y0v:sfD.flat=some []:=rfl
def Mt (p:Td × Tr) (t:Tn):Prop:=p.1=t.x∧p.2.flat=some t.tx
theorem j8l {p:Td × Tr} {t:Tn} (h:Mt p t) (l:Nat):(inD l p.1 p.2).flat=some (brx l t):=by
 unfold inD brx
 rw [h.1]
 split
 ·rw [q5l (z3c _) (q5l h.2 (z3c _))];rfl
 ·exact h.2
inductive Mts:List (Td × Tr)→List Tn→Prop where
 | nil:Mts [] []
 | cons {p t ps ts}:Mt p t→Mts ps ts→Mts (p::ps) (t::ts)
theorem y0u:∀ {ps:List (Td × Tr)} {ts:List Tn},Mts ps ts→ps≠[]→(kdD ps).flat=some (cmx ts)
 | _,_,.cons h .nil,_=>by simp only [kdD,cmx,List.append_nil];exact h.2
 | _,_,.cons (ps:=p::ps) (ts:=t::ts) h (.cons h2 h3),_=>by
  have ih:=y0u (Mts.cons h2 h3) (by simp)
  show (twD (twD _ (wdD [44])) (twD blD (kdD (p::ps)))).flat=_
  rw [q5l (q5l h.2 (z3c _)) (q5l j8i ih)]
  simp [cmx]
theorem j0v {ps:List (Td × Tr)} {ts:List Tn} (h:Mts ps ts) (op cl:List UInt8):(q2c op cl ps).flat=some (op++cmx ts++cl):=by
 unfold q2c
 split
 ·rename_i h0
  cases h with
  | nil=>rw [z3c];simp [cmx]
  | cons=>simp at h0
 ·rename_i h0
  have hne:ps≠[]:=fun e=>h0 (by rw [e];rfl)
  rw [j8k,q5l (z3c _) (q5l (by rw [j8j];exact q5l y0v (y0u h hne)) (q5l y0v (z3c _)))]
  simp
theorem y4z {x:Td} {ps:List (Td × Tr)} {ts:List Tn} (h:Mts ps ts) (hx:exN x) (hk:ps.length=kdT x):(q0l x ps).flat=some (q2w x ts):=by
 have two:kdT x=2→∃ a b c d,ps=[a,b]∧ts=[c,d]∧Mt a c∧Mt b d:=fun e=>by
  rw [e] at hk
  cases h with
  | nil=>simp at hk
  | cons h1 h2=>cases h2 with
   | nil=>simp at hk
   | cons h3 h4=>cases h4 with
    | nil=>exact ⟨_,_,_,_,rfl,rfl,h1,h3⟩
    | cons=>simp at hk
 rcases q2e hx with ⟨ho,_⟩ | ⟨ho,_⟩ | ⟨ho,_⟩ | ⟨ho,_⟩ | ⟨ho,_,_,h2⟩ | ⟨ho,_,_,h2⟩
 ·rw [show q0l x ps=wdD (q3y x.n.toNat) by simp [q0l,ho],show q2w x ts=q3y x.n.toNat by simp [q2w,ho]];rfl
 ·rw [show q0l x ps=wdD (btL x.tx) by simp [q0l,ho],show q2w x ts=btL x.tx by simp [q2w,ho]];rfl
 ·rw [show q0l x ps=q2c (btL x.tx++[40]) [41] ps by simp [q0l,ho],show q2w x ts=btL x.tx++40::(cmx ts++[41]) by simp [q2w,ho],j0v h];simp
 ·rw [show q0l x ps=q2c [91] [93] ps by simp [q0l,ho],show q2w x ts=91::(cmx ts++[93]) by simp [q2w,ho],j0v h];simp
 ·obtain ⟨a,b,c,d,rfl,rfl,h3,h4⟩:=two h2
  rw [show q0l x [a,b]=grD (twD (inD 0 a.1 a.2) (dpD (twD blD (twD (wdD [43,32]) (inD 1 b.1 b.2))))) by simp [q0l,tw2,ho],show q2w x [c,d]=brx 0 c++32::43::32::brx 1 d by simp [q2w,two2,ho]]
  rw [j8k,q5l (j8l h3 0) (by rw [j8j];exact q5l j8i (q5l (z3c _) (j8l h4 1)))]
  rfl
 ·obtain ⟨a,b,c,d,rfl,rfl,h3,h4⟩:=two h2
  rw [show q0l x [a,b]=grD (twD (inD 1 a.1 a.2) (dpD (twD blD (twD (wdD [42,32]) (inD 2 b.1 b.2))))) by simp [q0l,tw2,ho],show q2w x [c,d]=brx 1 c++32::42::32::brx 2 d by simp [q2w,two2,ho]]
  rw [j8k,q5l (j8l h3 1) (by rw [j8j];exact q5l j8i (q5l (z3c _) (j8l h4 2)))]
  rfl
theorem z6c:∀ F:Fo,F.ok→F.exs→Mts F.dcs F.trs
 | .nil,_,_=>.nil
 | .cons x k n,hok,hex=>by
  have h1:=z6c k hok.2.1 fun y hy=>hex y (by simp [Fo.nodes,hy])
  have h2:=z6c n hok.2.2 fun y hy=>hex y (by simp [Fo.nodes,hy])
  exact .cons ⟨rfl,y4z h1 (hex x (by simp [Fo.nodes])) (by rw [q8c];exact hok.1)⟩ h2
def dnB (c:UInt8):Bool:=c != 32 && c != 10
def Tr.noE:Tr→Prop
 | .leaf x=>x.op≠4
 | .one _ a=>a.noE
 | .two x a b=>x.op=6∧a.noE∧b.noE
theorem q6n:∀ (t:Tr) (s:List UInt8),t.noE→t.Wf→t.flat=some s→∀ (deep:Nat) (ws ws':List Int) (r:List UInt8),t.lay deep ws = .ok (r,ws')→r.filter dnB=s.filter dnB
 | .leaf x,s,hn,hw,hf,deep,ws,ws',r,h=>by
  simp only [Tr.flat] at hf
  simp only [Tr.lay] at h
  have hrep:(10::List.replicate deep (32:UInt8)).filter dnB=[]:=by
   rw [List.filter_eq_nil_iff]
   intro c hc
   rcases List.mem_cons.1 hc with rfl | hc
   ·decide
   ·rw [List.eq_of_mem_replicate hc];decide
  split at hf
  ·rename_i h1
   rw [if_pos h1] at h
   cases hf;cases h;rfl
  ·rename_i h1
   rw [if_neg h1] at h
   split at hf
   ·rename_i h2
    rw [if_neg (by omega)] at h
    cases hf;cases h
    rw [hrep];rfl
   ·split at hf
    ·cases hf
    ·cases hf
     split at h
     ·cases h;rfl
     ·cases h
      rw [hrep];rfl
 | .one x a,s,hn,hw,hf,deep,ws,ws',r,h=>by
  have hf':a.flat=some s:=hf
  simp only [Tr.lay] at h
  split at h
  ·exact q6n a s hn hw.2.2 hf' _ _ _ _ h
  ·cases ws with
   | nil=>cases h
   | cons c ws=>
    simp only at h
    split at h
    ·exact q6n a s hn hw.2.2 hf' _ _ _ _ h
    ·rw [hf'] at h
     cases h;rfl
 | .two x a b,s,hn,hw,hf,deep,ws,ws',r,h=>by
  obtain ⟨h6,ha,hb⟩:=hn
  simp only [Tr.flat,if_pos h6] at hf
  simp only [Tr.lay,if_pos h6] at h
  cases ea:a.flat with
  | none=>rw [ea] at hf;cases hf
  | some s1=>
   cases eb:b.flat with
   | none=>rw [ea,eb] at hf;cases hf
   | some s2=>
    rw [ea,eb] at hf
    cases hf
    cases la:a.lay deep ws with
    | error e=>rw [la] at h;cases h
    | ok p=>
     obtain ⟨r1,ws1⟩:=p
     rw [la] at h
     simp only at h
     cases lb:b.lay deep ws1 with
     | error e=>rw [lb] at h;cases h
     | ok p2=>
      obtain ⟨r2,ws2⟩:=p2
      rw [lb] at h
      cases h
      rw [List.filter_append,List.filter_append,q6n a s1 ha hw.2.2.1 ea _ _ _ _ la,q6n b s2 hb hw.2.2.2 eb _ _ _ _ lb]
theorem j9i {c:UInt8} (h:q3g c=true):q4u c=true:=by
 simp only [q3g,Bool.and_eq_true,decide_eq_true_eq] at h
 simp only [q4u,Bool.and_eq_true,decide_eq_true_eq]
 omega
theorem j8h {c:UInt8} (h:q4c c=true):q4u c=true:=by
 simp only [q4c,Bool.and_eq_true,decide_eq_true_eq] at h
 simp only [q4u,Bool.and_eq_true,decide_eq_true_eq]
 omega
theorem z1y {s:List UInt8} (h1:1≤s.length) (h2:s.length≤20) (h3:∀ c∈s,q4u c=true):(wdD s).Wf:=by
 have e:(wbS s).size=s.length:=by rw [←q0b];rfl
 have hw:isW (wbS s)=true:=by
  simp only [isW,Bool.and_eq_true,decide_eq_true_eq,List.all_eq_true]
  exact ⟨⟨by omega,by omega⟩,h3⟩
 refine ⟨?_,rfl⟩
 simp only [q0r,hw]
 rfl
theorem v1p:blD.Wf:=⟨rfl,rfl⟩
theorem y3m:sfD.Wf:=⟨rfl,rfl⟩
theorem q5x {a b:Tr} (ha:a.Wf) (hb:b.Wf):(twD a b).Wf:=⟨rfl,rfl,ha,hb⟩
theorem v1q {a:Tr} (ha:a.Wf):(dpD a).Wf:=⟨rfl,rfl,ha⟩
theorem v1r {a:Tr} (ha:a.Wf):(grD a).Wf:=⟨rfl,rfl,ha⟩
theorem v1s {l:Nat} {x:Td} {d:Tr} (h:d.Wf):(inD l x d).Wf:=by
 unfold inD
 split
 ·exact q5x (z1y (by decide) (by decide) (by decide)) (q5x h (z1y (by decide) (by decide) (by decide)))
 ·exact h
theorem y3l:∀ ps:List (Td × Tr),(∀ p∈ps,p.2.Wf)→ps≠[]→(kdD ps).Wf
 | [p],h,_=>h p (by simp)
 | p::q::r,h,_=>q5x (q5x (h p (by simp)) (z1y (by decide) (by decide) (by decide))) (q5x v1p (y3l (q::r) (fun z hz=>h z (by simp at hz ⊢;right;exact hz)) (by simp)))
theorem j6c {op cl:List UInt8} {ps:List (Td × Tr)} (h:∀ p∈ps,p.2.Wf) (h1:1≤op.length) (h2:op.length+cl.length≤20) (h3:∀ c∈op,q4u c=true) (h4:1≤cl.length) (h5:∀ c∈cl,q4u c=true):(q2c op cl ps).Wf:=by
 unfold q2c
 split
 ·refine z1y (by simp;omega) (by simp;omega) fun c hc=>?_
  rcases List.mem_append.1 hc with hc | hc
  ·exact h3 c hc
  ·exact h5 c hc
 ·rename_i h0
  exact v1r (q5x (z1y h1 (by omega) h3) (q5x (v1q (q5x y3m (y3l ps h fun e=>h0 (by rw [e];rfl)))) (q5x y3m (z1y h4 (by omega) h5))))
theorem q9o {s:ByteArray} (h:q0x s=true):1≤(btL s).length∧(btL s).length≤8∧∀ c∈btL s,q4u c=true:=by
 have h8:=q1u h
 simp only [q0x,Bool.and_eq_true,decide_eq_true_eq,List.all_eq_true] at h
 exact ⟨by rw [q0b];exact h.1.1.1,h8,fun c hc=>j9i (h.2 c hc)⟩
theorem y6a {x:Td} {ps:List (Td × Tr)} (h:∀ p∈ps,p.2.Wf) (hx:exN x) (hk:ps.length=kdT x):(q0l x ps).Wf:=by
 have two:kdT x=2→∃ a b,ps=[a,b]∧a.2.Wf∧b.2.Wf:=fun e=>by
  rw [e] at hk
  match ps,hk with
  | [a,b],_=>exact ⟨a,b,rfl,h a (by simp),h b (by simp)⟩
 rcases q2e hx with ⟨ho,_,h0,h9,_⟩ | ⟨ho,hn,_⟩ | ⟨ho,hn,_⟩ | ⟨ho,_⟩ | ⟨ho,_,_,h2⟩ | ⟨ho,_,_,h2⟩
 ·rw [show q0l x ps=wdD (q3y x.n.toNat) by simp [q0l,ho]]
  have h1:=q9c 5 x.n.toNat (by omega)
  have h2:=List.length_pos_iff.2 (k1f x.n.toNat)
  exact z1y (by omega) (by omega) fun c hc=>j8h (z2d _ c hc)
 ·obtain ⟨n1,n2,n3⟩:=q9o hn
  rw [show q0l x ps=wdD (btL x.tx) by simp [q0l,ho]]
  exact z1y n1 (by omega) n3
 ·obtain ⟨n1,n2,n3⟩:=q9o hn
  rw [show q0l x ps=q2c (btL x.tx++[40]) [41] ps by simp [q0l,ho]]
  refine j6c h (by simp) (by rw [List.length_append];simp only [List.length_cons,List.length_nil];omega) (fun c hc=>?_) (by decide) (by decide)
  rcases List.mem_append.1 hc with hc | hc
  ·exact n3 c hc
  ·simp at hc;subst hc;decide
 ·rw [show q0l x ps=q2c [91] [93] ps by simp [q0l,ho]]
  exact j6c h (by decide) (by decide) (by decide) (by decide) (by decide)
 ·obtain ⟨a,b,rfl,h3,h4⟩:=two h2
  rw [show q0l x [a,b]=grD (twD (inD 0 a.1 a.2) (dpD (twD blD (twD (wdD [43,32]) (inD 1 b.1 b.2))))) by simp [q0l,tw2,ho]]
  exact v1r (q5x (v1s h3) (v1q (q5x v1p (q5x (z1y (by decide) (by decide) (by decide)) (v1s h4)))))
 ·obtain ⟨a,b,rfl,h3,h4⟩:=two h2
  rw [show q0l x [a,b]=grD (twD (inD 1 a.1 a.2) (dpD (twD blD (twD (wdD [42,32]) (inD 2 b.1 b.2))))) by simp [q0l,tw2,ho]]
  exact v1r (q5x (v1s h3) (v1q (q5x v1p (q5x (z1y (by decide) (by decide) (by decide)) (v1s h4)))))
theorem j0c:∀ F:Fo,F.ok→F.exs→∀ p∈F.dcs,p.2.Wf
 | .nil,_,_,p,hp=>by cases hp
 | .cons x k n,hok,hex,p,hp=>by
  have h1:=j0c k hok.2.1 fun y hy=>hex y (by simp [Fo.nodes,hy])
  have h2:=j0c n hok.2.2 fun y hy=>hex y (by simp [Fo.nodes,hy])
  rcases List.mem_cons.1 hp with rfl | hp
  ·exact y6a h1 (hex x (by simp [Fo.nodes])) (by rw [q8c];exact hok.1)
  ·exact h2 p hp
theorem j9u {l:Nat} {x:Td} {d:Tr} (h:d.noE):(inD l x d).noE:=by
 unfold inD
 split
 ·exact ⟨rfl,by show (1:Int)≠4;decide,rfl,h,by show (1:Int)≠4;decide⟩
 ·exact h
theorem y1u:∀ ps:List (Td × Tr),(∀ p∈ps,p.2.noE)→(kdD ps).noE
 | [],_=>by show (1:Int)≠4;decide
 | [p],h=>h p (by simp)
 | p::q::r,h=>⟨rfl,⟨rfl,h p (by simp),by show (1:Int)≠4;decide⟩,rfl,by show (2:Int)≠4;decide,y1u (q::r) (fun z hz=>h z (by simp at hz ⊢;right;exact hz))⟩
theorem j2y {op cl:List UInt8} {ps:List (Td × Tr)} (h:∀ p∈ps,p.2.noE):(q2c op cl ps).noE:=by
 unfold q2c
 split
 ·show (1:Int)≠4;decide
 ·exact ⟨rfl,by show (1:Int)≠4;decide,rfl,⟨rfl,by show (3:Int)≠4;decide,y1u ps h⟩,rfl,by show (3:Int)≠4;decide,by show (1:Int)≠4;decide⟩
theorem v3l {f:Td→Tr→Td→Tr→Tr} {ps:List (Td × Tr)} (h:∀ p∈ps,p.2.noE) (hf:∀ x a y b,a.noE→b.noE→(f x a y b).noE):(tw2 f ps).noE:=by
 unfold tw2
 split
 ·exact hf _ _ _ _ (h _ (by simp)) (h _ (by simp))
 ·show (1:Int)≠4;decide
theorem y5n {x:Td} {ps:List (Td × Tr)} (h:∀ p∈ps,p.2.noE):(q0l x ps).noE:=by
 have h1:(1:Int)≠4:=by decide
 have h2:(2:Int)≠4:=by decide
 unfold q0l
 split
 ·exact h1
 ·split
  ·exact h1
  ·split
   ·exact j2y h
   ·split
    ·exact j2y h
    ·split
     ·exact v3l h fun x a y b ha hb=>⟨rfl,j9u ha,rfl,h2,rfl,h1,j9u hb⟩
     ·exact v3l h fun x a y b ha hb=>⟨rfl,j9u ha,rfl,h2,rfl,h1,j9u hb⟩
theorem k1e:∀ F:Fo,∀ p∈F.dcs,p.2.noE
 | .nil,p,hp=>by cases hp
 | .cons x k n,p,hp=>by
  rcases List.mem_cons.1 hp with rfl | hp
  ·exact y5n (k1e k)
  ·exact k1e n p hp
def z4g (ps:List (Td × Tr)):Nat:=(ps.map fun p=>p.2.nodes.length+5).sum
theorem q3l (p:Td × Tr) (r:List (Td × Tr)):z4g (p::r)=p.2.nodes.length+5+z4g r:=by simp [z4g]
theorem j9w (l:Nat) (x:Td) (d:Tr):(inD l x d).nodes.length≤d.nodes.length+4:=by
 unfold inD
 split
 ·simp only [Tr.nodes,List.length_cons,List.length_append,List.length_nil];omega
 ·omega
theorem j9x:∀ ps:List (Td × Tr),(kdD ps).nodes.length≤z4g ps+1
 | []=>by simp [kdD,z4g,Tr.nodes]
 | [p]=>by simp only [kdD,q3l];omega
 | p::q::r=>by
  have ih:=j9x (q::r)
  show (twD (twD p.2 (wdD [44])) (twD blD (kdD (q::r)))).nodes.length≤_
  rw [q3l]
  simp only [Tr.nodes,List.length_cons,List.length_append,List.length_nil]
  omega
theorem y5o {x:Td} {ps:List (Td × Tr)}:(q0l x ps).nodes.length≤15+z4g ps:=by
 have hm:∀ op cl:List UInt8,(q2c op cl ps).nodes.length≤15+z4g ps:=fun op cl=>by
  have hk:=j9x ps
  unfold q2c
  split
  ·simp only [Tr.nodes,List.length_cons,List.length_nil];omega
  ·simp only [Tr.nodes,List.length_cons,List.length_append,List.length_nil]
   omega
 have ht:∀ f:Td→Tr→Td→Tr→Tr,(∀ x a y b,(f x a y b).nodes.length≤15+a.nodes.length+b.nodes.length)→(tw2 f ps).nodes.length≤15+z4g ps:=fun f hf=>by
  unfold tw2
  split
  ·rename_i a b
   have:=hf a.1 a.2 b.1 b.2
   rw [q3l,q3l]
   omega
  ·simp only [Tr.nodes,List.length_cons,List.length_nil];omega
 have hs:∀ (l m:Nat) (sg:List UInt8) (x:Td) (a:Tr) (y:Td) (b:Tr),(grD (twD (inD l x a) (dpD (twD blD (twD (wdD sg) (inD m y b)))))).nodes.length≤15+a.nodes.length+b.nodes.length:=fun l m sg x a y b=>by
  have h1:=j9w l x a
  have h2:=j9w m y b
  simp only [Tr.nodes,List.length_cons,List.length_append,List.length_nil]
  omega
 unfold q0l
 split
 ·simp only [Tr.nodes,List.length_cons,List.length_nil];omega
 ·split
  ·simp only [Tr.nodes,List.length_cons,List.length_nil];omega
  ·split
   ·exact hm _ _
   ·split
    ·exact hm _ _
    ·split
     ·exact ht _ (hs 0 1 [43,32])
     ·exact ht _ (hs 1 2 [42,32])
theorem z8i:∀ F:Fo,z4g F.dcs≤20*F.nodes.length
 | .nil=>by simp [Fo.dcs,z4g]
 | .cons x k n=>by
  have h1:=z8i k
  have h2:=z8i n
  have h3:=y5o (x:=x) (ps:=k.dcs)
  rw [Fo.dcs,q3l,Fo.nodes]
  simp only [List.length_cons,List.length_append]
  omega
def opT (t:List Td):Int:=match t with
 | []=>0
 | x::_=>x.op
theorem k2h {t:List Td} (h:0<t.length):opT t=t[0].op:=by
 cases t with
 | nil=>simp at h
 | cons x r=>rfl
def q5c (prev:Int) (k:Nat):List (List Td)→Nat × Int
 | []=>(0,0)
 | t::r=>if q0c t≠0 then (k,q0c t) else if opT t=9∧prev=9 then (k,2) else q5c (opT t) (k+1) r
def q0p (ps:List (List Td)):Nat × Int:=if 20<ps.length then (0,3) else q5c 0 0 ps
theorem z7p {t:List Td} (h:q0c t=0):0<t.length:=by
 rcases Nat.eq_zero_or_pos t.length with h0 | h0
 ·have:t=[]:=List.eq_nil_of_length_eq_zero h0
  subst this
  have:=(q2l h).2.2.1
  rw [z2f [] 0 0 (by simp)] at this
  cases this
 ·exact h0
def q6g (ps:List (List Td)) (k:Nat):Int:=if k=0 then 0 else opT (ps.getD (k - 1) [])
theorem z5f {ps:List (List Td)} {k:Nat} (h:k<ps.length):q6g ps (k+1)=opT ps[k]:=by
 simp [q6g,h]
theorem j4c {ps:List (List Td)} {k:Nat} {prev:Int} (h:k<ps.length) (he:q0c ps[k]≠0):q5c prev k (ps.drop k)=(k,q0c ps[k]):=by
 rw [List.drop_eq_getElem_cons h,q5c,if_pos he]
theorem j4d {ps:List (List Td)} {k:Nat} {prev:Int} (h:k<ps.length) (he:q0c ps[k]=0) (h2:opT ps[k]=9∧prev=9):q5c prev k (ps.drop k)=(k,2):=by
 rw [List.drop_eq_getElem_cons h,q5c,if_neg (by simp [he]),if_pos h2]
theorem k7b {ps:List (List Td)} {k:Nat} {prev:Int} (h:k<ps.length) (he:q0c ps[k]=0) (h2:¬ (opT ps[k]=9∧prev=9)):q5c prev k (ps.drop k)=q5c (q6g ps (k+1)) (k+1) (ps.drop (k+1)):=by
 rw [List.drop_eq_getElem_cons h,q5c,if_neg (by simp [he]),if_neg h2,z5f h]
def hdD (ps:List (Td × Tr)):Tr:=match ps with
 | p::_=>p.2
 | []=>wdD []
def q0s (t:List Td):Tr:=match k8y t with
 | .nil=>wdD []
 | .cons x k _=>stD x (hdD k.dcs)
theorem z2h {x:Td} {F:Fo} (h:F.ok) (hl:F.len=kdT x):q0s (x::F.nodes)=stD x (hdD F.dcs):=by
 rw [q0s,v3z h hl]
structure y4i (t:List Td):Prop where
 f:(q0s t).flat=some (q3c t)
 w:(q0s t).Wf
 e:(q0s t).noE
 n:(q0s t).nodes.length≤900
theorem v8m {F:Fo} (hl:F.len=1):∃ y k,F = .cons y k .nil:=by
 cases F with
 | nil=>cases hl
 | cons y k n=>cases n with
  | nil=>exact ⟨y,k,rfl⟩
  | cons _ _ _=>simp [Fo.len] at hl
theorem q7r {t:List Td} (h:q0c t=0) (h9:opT t≠9):∃ (x y:Td) (k:Fo),t=x::(Fo.cons y k .nil).nodes∧(Fo.cons y k .nil).ok∧(Fo.cons y k .nil).exs∧(Fo.cons y k .nil).len=kdT x∧((x.op=7∧q0x x.tx=true∧x.n=0)∨(x.op=8∧x.tx=⟨#[]⟩∧x.n=0)):=by
 rcases q2g h with ⟨x,rfl,ho,_⟩ | ⟨x,F,rfl,hok,hex,hl,hx⟩
 ·exact absurd ho h9
 ·obtain ⟨y,k,rfl⟩:=v8m hl
  refine ⟨x,y,k,rfl,hok,hex,?_,hx⟩
  rw [hl]
  unfold kdT
  rcases hx with ⟨ho,_⟩ | ⟨ho,_⟩<;>rw [ho]<;>rfl
theorem z8l {t:List Td} (h:q0c t=0) (h9:opT t≠9):y4i t:=by
 have hl40:=(q2l h).1
 obtain ⟨x,y,k,rfl,hok,hex,hk,hx⟩:=q7r h h9
 have hm:=z6c _ hok hex
 have hw:=j0c _ hok hex
 have he:=k1e (.cons y k .nil)
 have hn:=z8i (.cons y k .nil)
 have e0:q0s (x::(Fo.cons y k .nil).nodes)=stD x (q0l y k.dcs):=z2h hok hk
 have e1:q3c (x::(Fo.cons y k .nil).nodes)=stX x (Fo.cons y k .nil).trs:=(q6u hok hk).1
 have hf:(q0l y k.dcs).flat=some (q0m y k.trs).tx:=by
  cases hm with
  | cons h1 _=>exact h1.2
 have hw1:(q0l y k.dcs).Wf:=hw (y,q0l y k.dcs) (by simp [Fo.dcs])
 have he1:(q0l y k.dcs).noE:=he (y,q0l y k.dcs) (by simp [Fo.dcs])
 have hn1:(q0l y k.dcs).nodes.length+5≤20*(Fo.cons y k .nil).nodes.length:=by
  rw [Fo.dcs,q3l] at hn
  have:z4g Fo.nil.dcs=0:=rfl
  exact Nat.le_trans (Nat.le_add_right _ _) hn
 simp only [List.length_cons] at hl40
 generalize q0l y k.dcs=D at e0 hf hw1 he1 hn1
 have w59:(wdD [59]).Wf:=z1y (by decide) (by decide) (by decide)
 have n1:(1:Int)≠4:=by decide
 have n2:(2:Int)≠4:=by decide
 rcases hx with ⟨ho,hnm,_⟩ | ⟨ho,_,_⟩
 ·obtain ⟨m1,m2,m3⟩:=q9o hnm
  have e2:stD x D=grD (twD (wdD ([108,101,116,32]++btL x.tx++[32,61])) (dpD (twD blD (twD D (wdD [59]))))):=by rw [stD,if_pos ho]
  refine ⟨?_,?_,?_,?_⟩
  ·rw [e0,e1,e2,j8k,q5l (z3c _) (by rw [j8j];exact q5l j8i (q5l hf (z3c _)))]
   simp [stX,ho,hdT,Fo.trs]
  ·rw [e0,e2]
   refine v1r (q5x (z1y (by simp) (by simp only [List.length_append,List.length_cons,List.length_nil];omega) fun c hc=>?_) (v1q (q5x v1p (q5x hw1 w59))))
   rcases List.mem_append.1 hc with hc | hc
   ·rcases List.mem_append.1 hc with hc | hc
    ·simp at hc;rcases hc with rfl | rfl | rfl | rfl<;>decide
    ·exact m3 c hc
   ·simp at hc;rcases hc with rfl | rfl<;>decide
  ·rw [e0,e2];exact ⟨rfl,n1,rfl,n2,rfl,he1,n1⟩
  ·rw [e0,e2]
   simp only [Tr.nodes,List.length_cons,List.length_append,List.length_nil]
   omega
 ·have e2:stD x D=twD D (wdD [59]):=by rw [stD,if_neg (by omega)]
  refine ⟨?_,?_,?_,?_⟩
  ·rw [e0,e1,e2,q5l hf (z3c _)]
   simp [stX,ho,hdT,Fo.trs]
  ·rw [e0,e2];exact q5x hw1 w59
  ·rw [e0,e2];exact ⟨rfl,he1,n1⟩
  ·rw [e0,e2]
   simp only [Tr.nodes,List.length_cons,List.length_append,List.length_nil]
   omega
theorem j0h {t:List Td} (h:q0c t=0) (h9:opT t≠9) {ws:List Int} {r:List UInt8} (hs:(q0s t).show ws = .ok r):r.filter dnB=(q3c t).filter dnB:=by
 have hd:=z8l h h9
 unfold Tr.show at hs
 split at hs
 ·cases hl:(q0s t).lay 0 ws with
  | error e=>rw [hl] at hs;cases hs
  | ok p=>
   obtain ⟨r',ws'⟩:=p
   rw [hl] at hs
   have h1:=q6n _ _ hd.e hd.w hd.f 0 ws ws' r' hl
   cases ws' with
   | nil=>cases hs;exact h1
   | cons a b=>cases hs
 ·cases hs
def v6e (a b:UInt8):Bool:=(q3g a && q3g b) || (q4c a && q4c b)
def q5t (b:UInt8):Bool:=!q3g b && !q4c b
def k1i (s rest:List UInt8):Prop:=∀ a b,s.getLast? = some a→rest.head? = some b→v6e a b=false
theorem z4s {a b:UInt8} (h:q5t b=true):v6e a b=false:=by
 simp only [q5t,Bool.and_eq_true,Bool.not_eq_true'] at h
 simp [v6e,h.1,h.2]
theorem z8t {a b:UInt8} (h:q5t a=true):v6e a b=false:=by
 simp only [q5t,Bool.and_eq_true,Bool.not_eq_true'] at h
 simp [v6e,h.1,h.2]
theorem q1y {s:List UInt8} {b:UInt8} (h:q5t b=true) (r:List UInt8):k1i s (b::r):=fun _ c _ hc=>by
 simp only [List.head?_cons,Option.some.injEq] at hc
 subst hc
 exact z4s h
theorem q7i {a:UInt8} (h:q5t a=true) (s r:List UInt8):k1i (s++[a]) r:=fun c _ hc _=>by
 simp only [List.getLast?_append,List.getLast?_singleton,Option.some_or,Option.some.injEq] at hc
 subst hc
 exact z8t h
def Lx (s:List UInt8) (ws:List Wd):Prop:=∀ rest i,k1i s rest→(lxW (s++rest) i).map (·.2)=ws++(lxW rest (i+s.length)).map (·.2)∧lxF (s++rest) i=lxF rest (i+s.length)
theorem Lx.nil:Lx [] []:=fun rest i _=>by simp
theorem Lx.app {s t:List UInt8} {ws us:List Wd} (h1:Lx s ws) (h2:Lx t us) (h:k1i s t):Lx (s++t) (ws++us):=by
 intro rest i hr
 have hst:k1i s (t++rest):=by
  intro a b ha hb
  cases t with
  | nil=>
   rw [List.append_nil] at hr
   exact hr a b ha hb
  | cons c t=>exact h a b ha hb
 have htr:k1i t rest:=by
  intro a b ha hb
  refine hr a b ?_ hb
  rw [List.getLast?_append,ha];rfl
 obtain ⟨a1,a2⟩:=h1 (t++rest) i hst
 obtain ⟨b1,b2⟩:=h2 rest (i+s.length) htr
 rw [List.append_assoc,a1,a2,b1,b2,List.length_append,Nat.add_assoc]
 exact ⟨by simp,rfl⟩
theorem Lx.blank {c:UInt8} (h:spB c=true):Lx [c] []:=by
 intro rest i _
 rw [List.cons_append,List.nil_append,lxW,lxF,z9k rest i h]
 exact ⟨by simp [lxW],by simp [lxF]⟩
theorem Lx.tok {c:UInt8} {r:List UInt8} (hs:spB c=false) (h:∀ rest,k1i (c::r) rest→q4p (c::r++rest)=true∧q0o (c::r++rest)=(c::r).length) (ht:q1b (c::r)=c::r):Lx (c::r) [c::r]:=by
 intro rest i hr
 obtain ⟨h1,h2⟩:=h rest hr
 rw [List.cons_append] at h1 h2
 have ed:(c::(r++rest)).drop (q0o (c::(r++rest)))=rest:=by rw [h2,←List.cons_append,List.drop_left]
 have ew:tkW (c::(r++rest))=c::r:=by rw [tkW,h2,←List.cons_append,List.take_left,ht]
 rw [List.cons_append,lxW,lxF,z5b i hs h1,ed,ew,h2]
 exact ⟨rfl,rfl⟩
theorem k5l {p:UInt8→Bool}:∀ (r rest:List UInt8),(∀ x∈r,p x=true)→(∀ b,rest.head? = some b→p b=false)→(r++rest).takeWhile p=r
 | [],rest,_,h=>by
  cases rest with
  | nil=>rfl
  | cons b t=>rw [List.nil_append,List.takeWhile_cons,if_neg (by simp [h b rfl])]
 | a::r,rest,h,h2=>by
  rw [List.cons_append,List.takeWhile_cons,if_pos (h a (by simp)),k5l r rest (fun x hx=>h x (by simp [hx])) h2]
theorem k4c {s:List UInt8} (h:s≠[]):∃ a,s.getLast? = some a∧a∈s:=by
 refine ⟨s.getLast h,List.getLast?_eq_some_getLast h,List.getLast_mem h⟩
theorem j5n {p:UInt8→Bool} (hp:∀ x,p x=true→x≠32) {l:List UInt8} (h:∀ x∈l,p x=true):q1b l=l:=by
 rcases List.eq_nil_or_concat l with rfl | ⟨v,c,rfl⟩
 ·rfl
 ·rw [List.concat_eq_append] at h ⊢
  exact q1i v (hp c (h c (by simp)))
theorem y1n {c:UInt8} (h:q3g c=true):spB c=false:=by
 have h1:c≠32:=z9g h
 have h2:c≠10:=by rintro rfl;revert h;decide
 simp [spB,h1,h2]
theorem y0s {c:UInt8} (h:q4c c=true):spB c=false:=by
 have h1:c≠32:=z8p h
 have h2:c≠10:=by rintro rfl;revert h;decide
 simp [spB,h1,h2]
theorem Lx.name {w:Wd} (h:∀ x∈w,q3g x=true) (h0:w≠[]) (h8:w.length≤8):Lx w [w]:=by
 cases w with
 | nil=>exact absurd rfl h0
 | cons c r=>
  have hc:=h c (by simp)
  refine Lx.tok (y1n hc) (fun rest hr=>?_) (j5n (fun _=>z9g) h)
  obtain ⟨a,ha,hm⟩:=k4c (s:=c::r) (by simp)
  have hb:∀ b,rest.head? = some b→q3g b=false:=fun b hb=>by
   have:=hr a b ha hb
   simp only [v6e,h a hm,Bool.true_and,Bool.or_eq_false_iff] at this
   exact this.1
  have e:=k5l r rest (fun x hx=>h x (by simp [hx])) hb
  rw [List.cons_append]
  simp only [q4p,q0o,hc,if_true,e]
  simp only [List.length_cons] at h8 ⊢
  exact ⟨decide_eq_true h8,trivial⟩
theorem Lx.num (n:Nat) (hn:n≤999999):Lx (q3y n) [q3y n]:=by
 have hf:=z2d n
 have h6:=q9c 5 n (by omega)
 have hz:∀ c r,q3y n=c::r→(c != 48 || r.length == 0)=true:=fun c r e=>by
  rcases Nat.eq_zero_or_pos n with h | h
  ·subst h
   rw [q3y,dif_pos (by omega)] at e
   cases e;rfl
  ·obtain ⟨d,z,e2,hd⟩:=z8j n h
   rw [e,List.cons.injEq] at e2
   rw [e2.1];simp [hd]
 cases hd:q3y n with
 | nil=>exact absurd hd (k1f n)
 | cons c r=>
  rw [hd] at hf h6
  have hc:=hf c (by simp)
  have hlow:q3g c=false:=k1k hc
  refine Lx.tok (y0s hc) (fun rest hr=>?_) (j5n (fun _=>z8p) hf)
  obtain ⟨a,ha,hm⟩:=k4c (s:=c::r) (by simp)
  have hb:∀ b,rest.head? = some b→q4c b=false:=fun b hb=>by
   have:=hr a b ha hb
   simp only [v6e,hf a hm,Bool.true_and,Bool.or_eq_false_iff] at this
   exact this.2
  have e:=k5l r rest (fun x hx=>hf x (by simp [hx])) hb
  rw [List.cons_append]
  simp only [q4p,q0o,hc,hlow,if_true,Bool.false_eq_true,if_false,e]
  simp only [List.length_cons] at h6 ⊢
  exact ⟨by rw [decide_eq_true h6,hz c r hd];rfl,trivial⟩
theorem Lx.mark {c:UInt8} (h:v9q c=true):Lx [c] [[c]]:=by
 have hc:spB c=false∧q3g c=false∧q4c c=false∧(c == 35)=false∧c≠32:=by
  simp only [v9q,y1s,List.any_cons,List.any_nil,Bool.or_false,Bool.or_eq_true,beq_iff_eq] at h
  rcases h with h | h | h | h | h | h | h | h | h<;>(subst h;decide)
 obtain ⟨h1,h2,h3,h4,h5⟩:=hc
 refine Lx.tok h1 (fun rest _=>?_) (q1i [] h5)
 rw [List.cons_append]
 simp only [q4p,q0o,h2,h3,h4,Bool.false_eq_true,if_false]
 exact ⟨h,rfl⟩
theorem Lx.pre {c:UInt8} {t:List UInt8} {ws us:List Wd} (h1:Lx [c] ws) (hc:q5t c=true) (h2:Lx t us):Lx (c::t) (ws++us):=
 Lx.app h1 h2 (q7i hc [] t)
theorem Lx.post {c:UInt8} {s:List UInt8} {ws us:List Wd} (h1:Lx s ws) (hc:q5t c=true) (h2:Lx [c] us):Lx (s++[c]) (ws++us):=
 Lx.app h1 h2 (q1y hc [])
theorem k4j {t:Tn} (h:Lx t.tx t.tk) (l:Nat):Lx (brx l t) (brk l t):=by
 unfold brx brk
 split
 ·exact Lx.pre (Lx.mark (c:=40) rfl) rfl (Lx.post h rfl (Lx.mark (c:=41) rfl))
 ·exact h
theorem y1o:∀ ks:List Tn,(∀ t∈ks,Lx t.tx t.tk)→Lx (cmx ks) (cmk ks)
 | [],_=>Lx.nil
 | [t],h=>by simpa [cmx,cmk] using h t (by simp)
 | t::u::r,h=>by
  have ih:=y1o (u::r) fun x hx=>h x (by simp [hx])
  rw [cmx,cmk]
  have h3:Lx (44::32::cmx (u::r)) ([44]::cmk (u::r)):=by
   have:=Lx.pre (Lx.mark (c:=44) rfl) rfl (Lx.pre (Lx.blank (c:=32) rfl) rfl ih)
   simpa using this
  exact Lx.app (h t (by simp)) h3 (q1y rfl _)
theorem j2o:∀ F:Fo,F.ok→F.exs→∀ t∈F.trs,Lx t.tx t.tk
 | .nil,_,_,t,ht=>by cases ht
 | .cons x k n,hok,hex,t,ht=>by
  have hexk:k.exs:=fun y hy=>hex y (by simp [Fo.nodes,hy])
  have hexn:n.exs:=fun y hy=>hex y (by simp [Fo.nodes,hy])
  have ihk:=j2o k hok.2.1 hexk
  rw [Fo.trs] at ht
  rcases List.mem_cons.1 ht with rfl | ht
  ·have hlen:k.trs.length=kdT x:=by rw [q3e];exact hok.1
   have hc:=y1o k.trs ihk
   rcases q2e (hex x (by simp [Fo.nodes])) with ⟨ho,htx,hn0,hn1,hk⟩ | ⟨ho,hnm,hn0,hk⟩ | ⟨ho,hnm,hn0,hn1,hk⟩ | ⟨ho,htx,hn0,hn1,hk⟩ | ⟨ho,htx,hn0,hk⟩ | ⟨ho,htx,hn0,hk⟩
   ·have h1:(q0m x k.trs).tx=q3y x.n.toNat:=by simp [q0m,q2w,ho]
    have h2:(q0m x k.trs).tk=[q3y x.n.toNat]:=by simp [q0m,q2p,ho]
    rw [h1,h2]
    exact Lx.num _ (by omega)
   ·obtain ⟨c,z,e,_,_,h8,hall⟩:=q7n (w:=btL x.tx) hnm
    have h1:(q0m x k.trs).tx=btL x.tx:=by simp [q0m,q2w,ho]
    have h2:(q0m x k.trs).tk=[btL x.tx]:=by simp [q0m,q2p,ho]
    rw [h1,h2]
    exact Lx.name hall (by rw [e];simp) h8
   ·obtain ⟨c,z,e,_,_,h8,hall⟩:=q7n (w:=btL x.tx) hnm
    have h1:(q0m x k.trs).tx=btL x.tx++40::(cmx k.trs++[41]):=by simp [q0m,q2w,ho]
    have h2:(q0m x k.trs).tk=[btL x.tx]++([[40]]++(cmk k.trs++[[41]])):=by simp [q0m,q2p,ho]
    rw [h1,h2]
    exact Lx.app (Lx.name hall (by rw [e];simp) h8) (Lx.pre (Lx.mark (c:=40) rfl) rfl (Lx.post hc rfl (Lx.mark (c:=41) rfl))) (q1y rfl _)
   ·have h1:(q0m x k.trs).tx=91::(cmx k.trs++[93]):=by simp [q0m,q2w,ho]
    have h2:(q0m x k.trs).tk=[[91]]++(cmk k.trs++[[93]]):=by simp [q0m,q2p,ho]
    rw [h1,h2]
    exact Lx.pre (Lx.mark (c:=91) rfl) rfl (Lx.post hc rfl (Lx.mark (c:=93) rfl))
   ·obtain ⟨a,b,hab⟩:=v9o (hlen.trans hk)
    rw [hab] at ihk ⊢
    have h1:(q0m x [a,b]).tx=brx 0 a++32::43::32::brx 1 b:=by simp [q0m,q2w,two2,ho]
    have h2:(q0m x [a,b]).tk=brk 0 a++([]++([[43]]++([]++brk 1 b))):=by simp [q0m,q2p,two2,ho]
    rw [h1,h2]
    exact Lx.app (k4j (ihk a (by simp)) 0) (Lx.pre (Lx.blank (c:=32) rfl) rfl (Lx.pre (Lx.mark (c:=43) rfl) rfl (Lx.pre (Lx.blank (c:=32) rfl) rfl (k4j (ihk b (by simp)) 1)))) (q1y rfl _)
   ·obtain ⟨a,b,hab⟩:=v9o (hlen.trans hk)
    rw [hab] at ihk ⊢
    have h1:(q0m x [a,b]).tx=brx 1 a++32::42::32::brx 2 b:=by simp [q0m,q2w,two2,ho]
    have h2:(q0m x [a,b]).tk=brk 1 a++([]++([[42]]++([]++brk 2 b))):=by simp [q0m,q2p,two2,ho]
    rw [h1,h2]
    exact Lx.app (k4j (ihk a (by simp)) 1) (Lx.pre (Lx.blank (c:=32) rfl) rfl (Lx.pre (Lx.mark (c:=42) rfl) rfl (Lx.pre (Lx.blank (c:=32) rfl) rfl (k4j (ihk b (by simp)) 2)))) (q1y rfl _)
  ·exact j2o n hok.2.2 hexn t ht
end Go.Proofs.YtchdplceopegoaaGreatDoor
