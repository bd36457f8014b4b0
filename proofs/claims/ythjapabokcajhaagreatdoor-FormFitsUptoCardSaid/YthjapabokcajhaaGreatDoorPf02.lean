/- Texts as one: LayP, LayQ, TreF, LayR, SynK, LnP, SynU, SynN, SynO. -/
import Derived.Test.YthjapabokcajhaaGreatDoorPf01
import Derived.Test.YthjapabokcajhaaGreatDoorPf00
namespace Go.Proofs.YthjapabokcajhaaGreatDoor
open Go
abbrev wdD(s:List UInt8):Tr:=.leaf ⟨1,wbS s,0⟩
abbrev blD:Tr:=.leaf ⟨2,⟨#[]⟩,0⟩
abbrev sfD:Tr:=.leaf ⟨3,⟨#[]⟩,0⟩
abbrev twD(a b:Tr):Tr:=.two ⟨6,⟨#[]⟩,0⟩ a b
abbrev dpD(a:Tr):Tr:=.one ⟨7,⟨#[]⟩,2⟩ a
abbrev grD(a:Tr):Tr:=.one ⟨8,⟨#[]⟩,0⟩ a
def inD(l:Nat)(x:Td)(d:Tr):Tr:=if prc x<l then twD (wdD [40]) (twD d (wdD [41]))else d
def kdD:List (Td × Tr)->Tr
 | []=>wdD []
 | p::r=>match r with
  | []=>p.2
  | _::_=>twD (twD p.2 (wdD [44])) (twD blD (kdD r))
def tw2(f:Td->Tr->Td->Tr->Tr):List (Td × Tr)->Tr
 | [a,b]=>f a.1 a.2 b.1 b.2
 | _=>wdD []
def q1d(op cl:List UInt8)(ks:List (Td × Tr)):Tr:=if ks.length=0 then wdD (op++cl)else grD (twD (wdD op) (twD (dpD (twD sfD (kdD ks))) (twD sfD (wdD cl))))
def q0d(x:Td)(ks:List (Td × Tr)):Tr:=
 if x.op=1 then wdD (q3c x.n.toNat)
 else if x.op=2 then wdD (btL x.tx)
 else if x.op=3 then q1d (btL x.tx++[40]) [41] ks
 else if x.op=4 then q1d [91] [93] ks
 else if x.op=5 then tw2 (fun x a y b=>grD (twD (inD 0 x a) (dpD (twD blD (twD (wdD [43,32]) (inD 1 y b)))))) ks
 else tw2 (fun x a y b=>grD (twD (inD 1 x a) (dpD (twD blD (twD (wdD [42,32]) (inD 2 y b)))))) ks
def Fo.dcs:Fo->List (Td × Tr)
 | .nil=>[]
 | .cons x k n=>(x,q0d x k.dcs)::n.dcs
theorem q2m:∀F:Fo,F.dcs.length=F.len
 | .nil=>rfl
 | .cons _ _ n=>by simp[Fo.dcs,Fo.len,q2m n]
def stD(x:Td)(d:Tr):Tr:=
 if x.op=7 then grD (twD (wdD ([108,101,116,32]++btL x.tx++[32,61])) (dpD (twD blD (twD d (wdD [59])))))else twD d (wdD [59])
theorem q9h(s:List UInt8):(wdD s).flat=some s:=rfl
theorem q3r{a b:Tr}{s t:List UInt8}(ha:a.flat=some s)(hb:b.flat=some t):(twD a b).flat=some (s++t):=by
 simp only[Tr.flat,if_true,ha,hb]
theorem k9w(a:Tr):(dpD a).flat=a.flat:=rfl
theorem k9x(a:Tr):(grD a).flat=a.flat:=rfl
theorem k9v:blD.flat=some [32]:=rfl
theorem j9c:sfD.flat=some []:=rfl
def Mt(p:Td × Tr)(t:Tn):Prop:=p.1=t.x/\p.2.flat=some t.tx
theorem k9y{p:Td × Tr}{t:Tn}(h:Mt p t)(l:Nat):(inD l p.1 p.2).flat=some (brx l t):=by
 unfold inD brx;rw[h.1]
 split
 ·rw[q3r (q9h _) (q3r h.2 (q9h _))];rfl
 ·exact h.2
inductive Mts:List (Td × Tr)->List Tn->Prop where
 | nil:Mts [] []
 | cons {p t ps ts}:Mt p t->Mts ps ts->Mts (p::ps) (t::ts)
theorem j9a:∀{ps:List (Td × Tr)}{ts:List Tn},Mts ps ts->ps≠[]->(kdD ps).flat=some (cmx ts)
 | _,_,.cons h .nil,_=>by simp only[kdD,cmx,List.append_nil];exact h.2
 | _,_,.cons (ps:=p::ps) (ts:=t::ts) h (.cons h2 h3),_=>by
  have ih:=j9a (Mts.cons h2 h3) (by simp)
  show(twD (twD _ (wdD [44])) (twD blD (kdD (p::ps)))).flat=_
  rw[q3r (q3r h.2 (q9h _)) (q3r k9v ih)];simp[cmx]
theorem k3q{ps:List (Td × Tr)}{ts:List Tn}(h:Mts ps ts)(op cl:List UInt8):(q1d op cl ps).flat=some (op++cmx ts++cl):=by
 unfold q1d
 split
 ·rename_i h0;cases h with
  | nil=>rw[q9h];simp[cmx]
  | cons=>simp at h0
 ·rename_i h0;have hne:ps≠[]:=fun e=>h0 (by rw[e];rfl)
  rw[k9x,q3r (q9h _) (q3r (by rw[k9w];exact q3r j9c (j9a h hne)) (q3r j9c (q9h _)))];simp
theorem j9b{x:Td}{ps:List (Td × Tr)}{ts:List Tn}(h:Mts ps ts)(hx:exN x)(hk:ps.length=kdT x):(q0d x ps).flat=some (q2l x ts):=by
 have two:kdT x=2->∃a b c d,ps=[a,b]/\ts=[c,d]/\Mt a c/\Mt b d:=fun e=>by
  rw[e]at hk;cases h with
  | nil=>simp at hk
  | cons h1 h2=>cases h2 with
   | nil=>simp at hk
   | cons h3 h4=>cases h4 with
    | nil=>exact⟨_,_,_,_,rfl,rfl,h1,h3⟩
    | cons=>simp at hk
 rcases q1n hx with⟨ho,_⟩|⟨ho,_⟩|⟨ho,_⟩|⟨ho,_⟩|⟨ho,_,_,h2⟩|⟨ho,_,_,h2⟩
 ·rw[show q0d x ps=wdD (q3c x.n.toNat) by simp[q0d,ho],show q2l x ts=q3c x.n.toNat by simp[q2l,ho]];rfl
 ·rw[show q0d x ps=wdD (btL x.tx) by simp[q0d,ho],show q2l x ts=btL x.tx by simp[q2l,ho]];rfl
 ·rw[show q0d x ps=q1d (btL x.tx++[40]) [41] ps by simp[q0d,ho],show q2l x ts=btL x.tx++40::(cmx ts++[41]) by simp[q2l,ho],k3q h];simp
 ·rw[show q0d x ps=q1d [91] [93] ps by simp[q0d,ho],show q2l x ts=91::(cmx ts++[93]) by simp[q2l,ho],k3q h];simp
 ·obtain⟨a,b,c,d,rfl,rfl,h3,h4⟩:=two h2;rw[show q0d x [a,b]=grD (twD (inD 0 a.1 a.2) (dpD (twD blD (twD (wdD [43,32]) (inD 1 b.1 b.2))))) by simp[q0d,tw2,ho],show q2l x [c,d]=brx 0 c++32::43::32::brx 1 d by simp[q2l,two2,ho]];rw[k9x,q3r (k9y h3 0) (by rw[k9w];exact q3r k9v (q3r (q9h _) (k9y h4 1)))];rfl
 ·obtain⟨a,b,c,d,rfl,rfl,h3,h4⟩:=two h2;rw[show q0d x [a,b]=grD (twD (inD 1 a.1 a.2) (dpD (twD blD (twD (wdD [42,32]) (inD 2 b.1 b.2))))) by simp[q0d,tw2,ho],show q2l x [c,d]=brx 1 c++32::42::32::brx 2 d by simp[q2l,two2,ho]];rw[k9x,q3r (k9y h3 1) (by rw[k9w];exact q3r k9v (q3r (q9h _) (k9y h4 2)))];rfl
theorem q8q:∀F:Fo,F.ok->F.exs->Mts F.dcs F.trs
 | .nil,_,_=>.nil
 | .cons x k n,hok,hex=>by
  have h1:=q8q k hok.2.1 fun y hy=>hex y (by simp[Fo.nodes,hy])
  have h2:=q8q n hok.2.2 fun y hy=>hex y (by simp[Fo.nodes,hy])
  exact .cons ⟨rfl,j9b h1 (hex x (by simp[Fo.nodes])) (by rw[q2m];exact hok.1)⟩ h2
def dnB(c:UInt8):Bool:=c != 32&&c != 10
def Tr.noE:Tr->Prop
 | .leaf x=>x.op≠4
 | .one _ a=>a.noE
 | .two x a b=>x.op=6/\a.noE/\b.noE
theorem q4x:∀(t:Tr)(s:List UInt8),t.noE->t.Wf->t.flat=some s->∀(deep:Nat)(ws ws':List Int)(r:List UInt8),t.lay deep ws=.ok (r,ws')->r.filter dnB=s.filter dnB
 | .leaf x,s,hn,hw,hf,deep,ws,ws',r,h=>by
  simp only[Tr.flat]at hf;simp only[Tr.lay]at h
  have hrep:(10::List.replicate deep (32:UInt8)).filter dnB=[]:=by
   rw[List.filter_eq_nil_iff];intro c hc;rcases List.mem_cons.1 hc with rfl|hc
   ·decide
   ·rw[List.eq_of_mem_replicate hc];decide
  split at hf
  ·rename_i h1;rw[if_pos h1]at h;cases hf;cases h;rfl
  ·rename_i h1;rw[if_neg h1]at h
   split at hf
   ·rename_i h2;rw[if_neg (by omega)]at h;cases hf;cases h;rw[hrep];rfl
   ·split at hf
    ·cases hf
    ·cases hf
     split at h
     ·cases h;rfl
     ·cases h;rw[hrep];rfl
 | .one x a,s,hn,hw,hf,deep,ws,ws',r,h=>by
  have hf':a.flat=some s:=hf;simp only[Tr.lay]at h
  split at h
  ·exact q4x a s hn hw.2.2 hf' _ _ _ _ h
  ·cases ws with
   | nil=>cases h
   | cons c ws=>
    simp only at h
    split at h
    ·exact q4x a s hn hw.2.2 hf' _ _ _ _ h
    ·rw[hf']at h;cases h;rfl
 | .two x a b,s,hn,hw,hf,deep,ws,ws',r,h=>by
  obtain⟨h6,ha,hb⟩:=hn;simp only[Tr.flat,if_pos h6]at hf;simp only[Tr.lay,if_pos h6]at h;cases ea:a.flat with
  | none=>rw[ea]at hf;cases hf
  | some s1=>
   cases eb:b.flat with
   | none=>rw[ea,eb]at hf;cases hf
   | some s2=>
    rw[ea,eb]at hf;cases hf;cases la:a.lay deep ws with
    | error e=>rw[la]at h;cases h
    | ok p=>
     obtain⟨r1,ws1⟩:=p;rw[la]at h;simp only at h;cases lb:b.lay deep ws1 with
     | error e=>rw[lb]at h;cases h
     | ok p2=>
      obtain⟨r2,ws2⟩:=p2;rw[lb]at h;cases h;rw[List.filter_append,List.filter_append,q4x a s1 ha hw.2.2.1 ea _ _ _ _ la,q4x b s2 hb hw.2.2.2 eb _ _ _ _ lb]
end Go.Proofs.YthjapabokcajhaaGreatDoor
namespace Go.Proofs.YthjapabokcajhaaGreatDoor
open Go
theorem j0p{c:UInt8}(h:q7n c=true):q3l c=true:=by
 simp only[q7n,Bool.and_eq_true,decide_eq_true_eq]at h;simp only[q3l,Bool.and_eq_true,decide_eq_true_eq];omega
theorem k9t{c:UInt8}(h:j8a c=true):q3l c=true:=by
 simp only[j8a,Bool.and_eq_true,decide_eq_true_eq]at h;simp only[q3l,Bool.and_eq_true,decide_eq_true_eq];omega
theorem q8l{s:List UInt8}(h1:1<=s.length)(h2:s.length<=20)(h3:∀c∈s,q3l c=true):(wdD s).Wf:=by
 have e:(wbS s).size=s.length:=by rw[<-q0h];rfl
 have hw:isW (wbS s)=true:=by
  simp only[isW,Bool.and_eq_true,decide_eq_true_eq,List.all_eq_true];exact⟨⟨by omega,by omega⟩,h3⟩
 refine⟨?_,rfl⟩;simp only[q0s,hw];rfl
theorem j1y:blD.Wf:=⟨rfl,rfl⟩
theorem v0t:sfD.Wf:=⟨rfl,rfl⟩
theorem q4m{a b:Tr}(ha:a.Wf)(hb:b.Wf):(twD a b).Wf:=⟨rfl,rfl,ha,hb⟩
theorem j1z{a:Tr}(ha:a.Wf):(dpD a).Wf:=⟨rfl,rfl,ha⟩
theorem j2a{a:Tr}(ha:a.Wf):(grD a).Wf:=⟨rfl,rfl,ha⟩
theorem j2b{l:Nat}{x:Td}{d:Tr}(h:d.Wf):(inD l x d).Wf:=by
 unfold inD
 split
 ·exact q4m (q8l (by decide) (by decide) (by decide)) (q4m h (q8l (by decide) (by decide) (by decide)))
 ·exact h
theorem v0s:∀ps:List (Td × Tr),(∀p∈ps,p.2.Wf)->ps≠[]->(kdD ps).Wf
 | [p],h,_=>h p (by simp)
 | p::q::r,h,_=>q4m (q4m (h p (by simp)) (q8l (by decide) (by decide) (by decide))) (q4m j1y (v0s (q::r) (fun z hz=>h z (by simp at hz⊢;right;exact hz)) (by simp)))
theorem k8d{op cl:List UInt8}{ps:List (Td × Tr)}(h:∀p∈ps,p.2.Wf)(h1:1<=op.length)(h2:op.length+cl.length<=20)(h3:∀c∈op,q3l c=true)(h4:1<=cl.length)(h5:∀c∈cl,q3l c=true):(q1d op cl ps).Wf:=by
 unfold q1d
 split
 ·refine q8l (by simp;omega) (by simp;omega) fun c hc=>?_
  rcases List.mem_append.1 hc with hc|hc
  ·exact h3 c hc
  ·exact h5 c hc
 ·rename_i h0;exact j2a (q4m (q8l h1 (by omega) h3) (q4m (j1z (q4m v0t (v0s ps h fun e=>h0 (by rw[e];rfl)))) (q4m v0t (q8l h4 (by omega) h5))))
theorem q7a{s:ByteArray}(h:q0r s=true):1<=(btL s).length/\(btL s).length<=8/\∀c∈btL s,q3l c=true:=by
 have h8:=q1v h;simp only[q0r,Bool.and_eq_true,decide_eq_true_eq,List.all_eq_true]at h;exact⟨by rw[q0h];exact h.1.1.1,h8,fun c hc=>j0p (h.2 c hc)⟩
theorem v2t{x:Td}{ps:List (Td × Tr)}(h:∀p∈ps,p.2.Wf)(hx:exN x)(hk:ps.length=kdT x):(q0d x ps).Wf:=by
 have two:kdT x=2->∃a b,ps=[a,b]/\a.2.Wf/\b.2.Wf:=fun e=>by
  rw[e]at hk
  match ps,hk with
  | [a,b],_=>exact⟨a,b,rfl,h a (by simp),h b (by simp)⟩
 rcases q1n hx with⟨ho,_,h0,h9,_⟩|⟨ho,hn,_⟩|⟨ho,hn,_⟩|⟨ho,_⟩|⟨ho,_,_,h2⟩|⟨ho,_,_,h2⟩
 ·rw[show q0d x ps=wdD (q3c x.n.toNat) by simp[q0d,ho]];have h1:=q6r 5 x.n.toNat (by omega);have h2:=List.length_pos_iff.2 (k3d x.n.toNat);exact q8l (by omega) (by omega) fun c hc=>k9t (z7z _ c hc)
 ·obtain⟨n1,n2,n3⟩:=q7a hn;rw[show q0d x ps=wdD (btL x.tx) by simp[q0d,ho]];exact q8l n1 (by omega) n3
 ·obtain⟨n1,n2,n3⟩:=q7a hn;rw[show q0d x ps=q1d (btL x.tx++[40]) [41] ps by simp[q0d,ho]];refine k8d h (by simp) (by rw[List.length_append];simp only[List.length_cons,List.length_nil];omega) (fun c hc=>?_) (by decide) (by decide);rcases List.mem_append.1 hc with hc|hc
  ·exact n3 c hc
  ·simp at hc;subst hc;decide
 ·rw[show q0d x ps=q1d [91] [93] ps by simp[q0d,ho]];exact k8d h (by decide) (by decide) (by decide) (by decide) (by decide)
 ·obtain⟨a,b,rfl,h3,h4⟩:=two h2;rw[show q0d x [a,b]=grD (twD (inD 0 a.1 a.2) (dpD (twD blD (twD (wdD [43,32]) (inD 1 b.1 b.2))))) by simp[q0d,tw2,ho]];exact j2a (q4m (j2b h3) (j1z (q4m j1y (q4m (q8l (by decide) (by decide) (by decide)) (j2b h4)))))
 ·obtain⟨a,b,rfl,h3,h4⟩:=two h2;rw[show q0d x [a,b]=grD (twD (inD 1 a.1 a.2) (dpD (twD blD (twD (wdD [42,32]) (inD 2 b.1 b.2))))) by simp[q0d,tw2,ho]];exact j2a (q4m (j2b h3) (j1z (q4m j1y (q4m (q8l (by decide) (by decide) (by decide)) (j2b h4)))))
theorem k3c:∀F:Fo,F.ok->F.exs->∀p∈F.dcs,p.2.Wf
 | .nil,_,_,p,hp=>by cases hp
 | .cons x k n,hok,hex,p,hp=>by
  have h1:=k3c k hok.2.1 fun y hy=>hex y (by simp[Fo.nodes,hy])
  have h2:=k3c n hok.2.2 fun y hy=>hex y (by simp[Fo.nodes,hy])
  rcases List.mem_cons.1 hp with rfl|hp
  ·exact v2t h1 (hex x (by simp[Fo.nodes])) (by rw[q2m];exact hok.1)
  ·exact h2 p hp
theorem j0t{l:Nat}{x:Td}{d:Tr}(h:d.noE):(inD l x d).noE:=by
 unfold inD
 split
 ·exact⟨rfl,by show(1:Int)≠4;decide,rfl,h,by show(1:Int)≠4;decide⟩
 ·exact h
theorem j9v:∀ps:List (Td × Tr),(∀p∈ps,p.2.noE)->(kdD ps).noE
 | [],_=>by show(1:Int)≠4;decide
 | [p],h=>h p (by simp)
 | p::q::r,h=>⟨rfl,⟨rfl,h p (by simp),by show(1:Int)≠4;decide⟩,rfl,by show(2:Int)≠4;decide,j9v (q::r) (fun z hz=>h z (by simp at hz⊢;right;exact hz))⟩
theorem k5b{op cl:List UInt8}{ps:List (Td × Tr)}(h:∀p∈ps,p.2.noE):(q1d op cl ps).noE:=by
 unfold q1d
 split
 ·show(1:Int)≠4;decide
 ·exact⟨rfl,by show(1:Int)≠4;decide,rfl,⟨rfl,by show(3:Int)≠4;decide,j9v ps h⟩,rfl,by show(3:Int)≠4;decide,by show(1:Int)≠4;decide⟩
theorem j3f{f:Td->Tr->Td->Tr->Tr}{ps:List (Td × Tr)}(h:∀p∈ps,p.2.noE)(hf:∀x a y b,a.noE->b.noE->(f x a y b).noE):(tw2 f ps).noE:=by
 unfold tw2
 split
 ·exact hf _ _ _ _ (h _ (by simp)) (h _ (by simp))
 ·show(1:Int)≠4;decide
theorem v2i{x:Td}{ps:List (Td × Tr)}(h:∀p∈ps,p.2.noE):(q0d x ps).noE:=by
 have h1:(1:Int)≠4:=by decide
 have h2:(2:Int)≠4:=by decide
 unfold q0d
 split
 ·exact h1
 ·split
  ·exact h1
  ·split
   ·exact k5b h
   ·split
    ·exact k5b h
    ·split
     ·exact j3f h fun x a y b ha hb=>⟨rfl,j0t ha,rfl,h2,rfl,h1,j0t hb⟩
     ·exact j3f h fun x a y b ha hb=>⟨rfl,j0t ha,rfl,h2,rfl,h1,j0t hb⟩
theorem z6d:∀F:Fo,∀p∈F.dcs,p.2.noE
 | .nil,p,hp=>by cases hp
 | .cons x k n,p,hp=>by
  rcases List.mem_cons.1 hp with rfl|hp
  ·exact v2i (z6d k)
  ·exact z6d n p hp
def q8t(ps:List (Td × Tr)):Nat:=(ps.map fun p=>p.2.nodes.length+5).sum
theorem q1j(p:Td × Tr)(r:List (Td × Tr)):q8t (p::r)=p.2.nodes.length+5+q8t r:=by simp[q8t]
theorem k0q(l:Nat)(x:Td)(d:Tr):(inD l x d).nodes.length<=d.nodes.length+4:=by
 unfold inD
 split
 ·simp only[Tr.nodes,List.length_cons,List.length_append,List.length_nil];omega
 ·omega
theorem k0r:∀ps:List (Td × Tr),(kdD ps).nodes.length<=q8t ps+1
 | []=>by simp[kdD,q8t,Tr.nodes]
 | [p]=>by simp only[kdD,q1j];omega
 | p::q::r=>by
  have ih:=k0r (q::r)
  show(twD (twD p.2 (wdD [44])) (twD blD (kdD (q::r)))).nodes.length<=_
  rw[q1j];simp only[Tr.nodes,List.length_cons,List.length_append,List.length_nil];omega
theorem v2j{x:Td}{ps:List (Td × Tr)}:(q0d x ps).nodes.length<=15+q8t ps:=by
 have hm:∀op cl:List UInt8,(q1d op cl ps).nodes.length<=15+q8t ps:=fun op cl=>by
  have hk:=k0r ps;unfold q1d
  split
  ·simp only[Tr.nodes,List.length_cons,List.length_nil];omega
  ·simp only[Tr.nodes,List.length_cons,List.length_append,List.length_nil];omega
 have ht:∀f:Td->Tr->Td->Tr->Tr,(∀x a y b,(f x a y b).nodes.length<=15+a.nodes.length+b.nodes.length)->(tw2 f ps).nodes.length<=15+q8t ps:=fun f hf=>by
  unfold tw2
  split
  ·rename_i a b
   have:=hf a.1 a.2 b.1 b.2
   rw[q1j,q1j];omega
  ·simp only[Tr.nodes,List.length_cons,List.length_nil];omega
 have hs:∀(l m:Nat)(sg:List UInt8)(x:Td)(a:Tr)(y:Td)(b:Tr),(grD (twD (inD l x a) (dpD (twD blD (twD (wdD sg) (inD m y b)))))).nodes.length<=15+a.nodes.length+b.nodes.length:=fun l m sg x a y b=>by
  have h1:=k0q l x a;have h2:=k0q m y b;simp only[Tr.nodes,List.length_cons,List.length_append,List.length_nil];omega
 unfold q0d
 split
 ·simp only[Tr.nodes,List.length_cons,List.length_nil];omega
 ·split
  ·simp only[Tr.nodes,List.length_cons,List.length_nil];omega
  ·split
   ·exact hm _ _
   ·split
    ·exact hm _ _
    ·split
     ·exact ht _ (hs 0 1 [43,32])
     ·exact ht _ (hs 1 2 [42,32])
theorem z0s:∀F:Fo,q8t F.dcs<=20*F.nodes.length
 | .nil=>by simp[Fo.dcs,q8t]
 | .cons x k n=>by
  have h1:=z0s k;have h2:=z0s n;have h3:=v2j (x:=x) (ps:=k.dcs);rw[Fo.dcs,q1j,Fo.nodes];simp only[List.length_cons,List.length_append];omega
end Go.Proofs.YthjapabokcajhaaGreatDoor
namespace Go.Proofs.YthjapabokcajhaaGreatDoor
open Go
def opT(t:List Td):Int:=match t with
 | []=>0
 | x::_=>x.op
theorem z6z{t:List Td}(h:0<t.length):opT t=t[0].op:=by
 cases t with
 | nil=>simp at h
 | cons x r=>rfl
def q3u(prev:Int)(k:Nat):List (List Td)->Nat × Int
 | []=>(0,0)
 | t::r=>if q0b t≠0 then(k,q0b t)else if opT t=9/\prev=9 then(k,2)else q3u (opT t) (k+1) r
def q1i(ps:List (List Td)):Nat × Int:=if 20<ps.length then(0,3)else q3u 0 0 ps
theorem z3g{t:List Td}(h:q0b t=0):0<t.length:=by
 rcases Nat.eq_zero_or_pos t.length with h0|h0
 ·have:t=[]:=List.eq_nil_of_length_eq_zero h0
  subst this
  have:=(q1z h).2.2.1
  rw[q5i [] 0 0 (by simp)]at this;cases this
 ·exact h0
def q4q(ps:List (List Td))(k:Nat):Int:=if k=0 then 0 else opT (ps.getD (k-1) [])
theorem z1h{ps:List (List Td)}{k:Nat}(h:k<ps.length):q4q ps (k+1)=opT ps[k]:=by
 simp[q4q,h]
theorem k6u{ps:List (List Td)}{k:Nat}{prev:Int}(h:k<ps.length)(he:q0b ps[k]≠0):q3u prev k (ps.drop k)=(k,q0b ps[k]):=by
 rw[List.drop_eq_getElem_cons h,q3u,if_pos he]
theorem k6v{ps:List (List Td)}{k:Nat}{prev:Int}(h:k<ps.length)(he:q0b ps[k]=0)(h2:opT ps[k]=9/\prev=9):q3u prev k (ps.drop k)=(k,2):=by
 rw[List.drop_eq_getElem_cons h,q3u,if_neg (by simp[he]),if_pos h2]
theorem k1a{ps:List (List Td)}{k:Nat}{prev:Int}(h:k<ps.length)(he:q0b ps[k]=0)(h2:¬(opT ps[k]=9/\prev=9)):q3u prev k (ps.drop k)=q3u (q4q ps (k+1)) (k+1) (ps.drop (k+1)):=by
 rw[List.drop_eq_getElem_cons h,q3u,if_neg (by simp[he]),if_neg h2,z1h h]
end Go.Proofs.YthjapabokcajhaaGreatDoor
namespace Go.Proofs.YthjapabokcajhaaGreatDoor
open Go
def hdD(ps:List (Td × Tr)):Tr:=match ps with
 | p::_=>p.2
 | []=>wdD []
def q0i(t:List Td):Tr:=match k2c t with
 | .nil=>wdD []
 | .cons x k _=>stD x (hdD k.dcs)
theorem q5n{x:Td}{F:Fo}(h:F.ok)(hl:F.len=kdT x):q0i (x::F.nodes)=stD x (hdD F.dcs):=by
 rw[q0i,j3w h hl]
structure v1m(t:List Td):Prop where
 f:(q0i t).flat=some (q3x t)
 w:(q0i t).Wf
 e:(q0i t).noE
 n:(q0i t).nodes.length<=900
theorem j7k{F:Fo}(hl:F.len=1):∃y k,F=.cons y k .nil:=by
 cases F with
 | nil=>cases hl
 | cons y k n=>cases n with
  | nil=>exact⟨y,k,rfl⟩
  | cons _ _ _=>simp[Fo.len]at hl
theorem q4j{t:List Td}(h:q0b t=0)(h9:opT t≠9):∃(x y:Td)(k:Fo),t=x::(Fo.cons y k .nil).nodes/\(Fo.cons y k .nil).ok/\(Fo.cons y k .nil).exs/\(Fo.cons y k .nil).len=kdT x/\((x.op=7/\q0r x.tx=true/\x.n=0)\/(x.op=8/\x.tx=⟨#[]⟩/\x.n=0)):=by
 rcases q5o h with⟨x,rfl,ho,_⟩|⟨x,F,rfl,hok,hex,hl,hx⟩
 ·exact absurd ho h9
 ·obtain⟨y,k,rfl⟩:=j7k hl;refine⟨x,y,k,rfl,hok,hex,?_,hx⟩;rw[hl];unfold kdT;rcases hx with⟨ho,_⟩|⟨ho,_⟩<;>rw[ho]<;>rfl
theorem q5q{t:List Td}(h:q0b t=0)(h9:opT t≠9):v1m t:=by
 have hl40:=(q1z h).1;obtain⟨x,y,k,rfl,hok,hex,hk,hx⟩:=q4j h h9;have hm:=q8q _ hok hex;have hw:=k3c _ hok hex;have he:=z6d (.cons y k .nil);have hn:=z0s (.cons y k .nil);have e0:q0i (x::(Fo.cons y k .nil).nodes)=stD x (q0d y k.dcs):=q5n hok hk;have e1:q3x (x::(Fo.cons y k .nil).nodes)=stX x (Fo.cons y k .nil).trs:=(z7g hok hk).1
 have hf:(q0d y k.dcs).flat=some (q3d y k.trs).tx:=by
  cases hm with
  | cons h1 _=>exact h1.2
 have hw1:(q0d y k.dcs).Wf:=hw (y,q0d y k.dcs) (by simp[Fo.dcs]);have he1:(q0d y k.dcs).noE:=he (y,q0d y k.dcs) (by simp[Fo.dcs])
 have hn1:(q0d y k.dcs).nodes.length+5<=20*(Fo.cons y k .nil).nodes.length:=by
  rw[Fo.dcs,q1j]at hn
  have:q8t Fo.nil.dcs=0:=rfl
  exact Nat.le_trans (Nat.le_add_right _ _) hn
 simp only[List.length_cons]at hl40;generalize q0d y k.dcs=D at e0 hf hw1 he1 hn1;have w59:(wdD [59]).Wf:=q8l (by decide) (by decide) (by decide);have n1:(1:Int)≠4:=by decide
 have n2:(2:Int)≠4:=by decide
 rcases hx with⟨ho,hnm,_⟩|⟨ho,_,_⟩
 ·obtain⟨m1,m2,m3⟩:=q7a hnm;have e2:stD x D=grD (twD (wdD ([108,101,116,32]++btL x.tx++[32,61])) (dpD (twD blD (twD D (wdD [59]))))):=by rw[stD,if_pos ho]
  refine⟨?_,?_,?_,?_⟩
  ·rw[e0,e1,e2,k9x,q3r (q9h _) (by rw[k9w];exact q3r k9v (q3r hf (q9h _)))];simp[stX,ho,hdT,Fo.trs]
  ·rw[e0,e2];refine j2a (q4m (q8l (by simp) (by simp only[List.length_append,List.length_cons,List.length_nil];omega) fun c hc=>?_) (j1z (q4m j1y (q4m hw1 w59))));rcases List.mem_append.1 hc with hc|hc
   ·rcases List.mem_append.1 hc with hc|hc
    ·simp at hc;rcases hc with rfl|rfl|rfl|rfl<;>decide
    ·exact m3 c hc
   ·simp at hc;rcases hc with rfl|rfl<;>decide
  ·rw[e0,e2];exact⟨rfl,n1,rfl,n2,rfl,he1,n1⟩
  ·rw[e0,e2];simp only[Tr.nodes,List.length_cons,List.length_append,List.length_nil];omega
 ·have e2:stD x D=twD D (wdD [59]):=by rw[stD,if_neg (by omega)]
  refine⟨?_,?_,?_,?_⟩
  ·rw[e0,e1,e2,q3r hf (q9h _)];simp[stX,ho,hdT,Fo.trs]
  ·rw[e0,e2];exact q4m hw1 w59
  ·rw[e0,e2];exact⟨rfl,he1,n1⟩
  ·rw[e0,e2];simp only[Tr.nodes,List.length_cons,List.length_append,List.length_nil];omega
theorem k3g{t:List Td}(h:q0b t=0)(h9:opT t≠9){ws:List Int}{r:List UInt8}(hs:(q0i t).show ws=.ok r):r.filter dnB=(q3x t).filter dnB:=by
 have hd:=q5q h h9;unfold Tr.show at hs
 split at hs
 ·cases hl:(q0i t).lay 0 ws with
  | error e=>rw[hl]at hs;cases hs
  | ok p=>
   obtain⟨r',ws'⟩:=p;rw[hl]at hs;have h1:=q4x _ _ hd.e hd.w hd.f 0 ws ws' r' hl;cases ws' with
   | nil=>cases hs;exact h1
   | cons a b=>cases hs
 ·cases hs
end Go.Proofs.YthjapabokcajhaaGreatDoor
namespace Go.Proofs.YthjapabokcajhaaGreatDoor
open Go
def Txt(D:Tr)(r:List UInt8):Prop:=D.flat=some r\/∃deep cs cs',D.lay deep cs=.ok (r,cs')
theorem k7x{s r:List UInt8}(h:Txt (wdD s) r):r=s:=by
 rcases h with h|⟨deep,cs,cs',h⟩
 ·cases h;rfl
 ·cases h;rfl
theorem k7w{a b:Tr}{r:List UInt8}(h:Txt (twD a b) r):∃ra rb,Txt a ra/\Txt b rb/\r=ra++rb:=by
 rcases h with h|⟨deep,cs,cs',h⟩
 ·simp only[Tr.flat,if_true]at h;cases ea:a.flat with
  | none=>rw[ea]at h;cases h
  | some s=>
   cases eb:b.flat with
   | none=>rw[ea,eb]at h;cases h
   | some t=>
    rw[ea,eb]at h;cases h;exact⟨s,t,.inl ea,.inl eb,rfl⟩
 ·simp only[Tr.lay,if_true]at h;cases la:a.lay deep cs with
  | error e=>rw[la]at h;cases h
  | ok p=>
   obtain⟨r1,c1⟩:=p;rw[la]at h;simp only at h;cases lb:b.lay deep c1 with
   | error e=>rw[lb]at h;cases h
   | ok p2=>
    obtain⟨r2,c2⟩:=p2;rw[lb]at h;cases h;exact⟨r1,r2,.inr ⟨_,_,_,la⟩,.inr ⟨_,_,_,lb⟩,rfl⟩
theorem j3z{a:Tr}{r:List UInt8}(h:Txt (dpD a) r):Txt a r:=by
 rcases h with h|⟨deep,cs,cs',h⟩
 ·exact .inl h
 ·exact .inr ⟨_,cs,cs',h⟩
theorem k7v{a:Tr}{r:List UInt8}(h:Txt (grD a) r):Txt a r:=by
 rcases h with h|⟨deep,cs,cs',h⟩
 ·exact .inl h
 ·simp only[Tr.lay]at h;rw[if_neg (by decide)]at h;cases cs with
  | nil=>cases h
  | cons c cs=>
   simp only at h
   split at h
   ·exact .inr ⟨_,_,_,h⟩
   ·cases ha:a.flat with
    | none=>rw[ha]at h;cases h
    | some s=>rw[ha]at h;cases h;exact .inl ha
end Go.Proofs.YthjapabokcajhaaGreatDoor
namespace Go.Proofs.YthjapabokcajhaaGreatDoor
open Go
def jb:List Wd->Wd
 | []=>[]
 | w::r=>w++match r with
  | []=>[]
  | _::_=>32::jb r
theorem z8i:∀s:List UInt8,jb (q3w s)=s
 | []=>rfl
 | c::r=>by
  have ih:=z8i r;by_cases hc:c=32
  ·subst hc;rw[q8e];cases hs:q3w r with
   | nil=>exact absurd hs (q6h r)
   | cons w ws=>
    rw[hs]at ih;simp[jb,<-ih]
  ·cases hs:q3w r with
   | nil=>exact absurd hs (q6h r)
   | cons w ws=>
    rw[q5m hc hs];rw[hs]at ih;rw[<-ih];simp[jb]
theorem z6u{tx:ByteArray}(h:q1s tx=0):(q0f (btL tx)).length<=60/\∀w∈q0f (btL tx),w≠[]/\w.length<=20/\∀b∈w,q3y b=true:=by
 obtain⟨h1,h2⟩:=q6j h;refine⟨by simpa using h1,fun w hw=>?_⟩;have h3:=h2 (wbS w) (List.mem_map.2 ⟨w,hw,rfl⟩);have hl:(wbS w).size=w.length:=by rw[<-q0h];rfl
 simp only[okW,Bool.and_eq_true,decide_eq_true_eq,List.all_eq_true,hl]at h3;refine⟨fun e=>?_,h3.1.2,h3.2⟩;rw[e]at h3;simp at h3
def j8c(tx:ByteArray):Wd:=if tx.size=0 then [35]else [35,32]++btL tx
theorem q8s{tx:ByteArray}:tx.size=0↔btL tx=[]:=by
 rw[<-q0h];exact List.length_eq_zero_iff
theorem z8h{p:UInt8->Bool}(h32:p 32=true):∀ws:List Wd,(∀w∈ws,∀b∈w,p b=true)->∀b∈jb ws,p b=true
 | [],_,b,hb=>by cases hb
 | [w],h,b,hb=>by
  have e:jb [w]=w:=by simp[jb]
  rw[e]at hb;exact h w (by simp) b hb
 | w::u::r,h,b,hb=>by
  have e:jb (w::u::r)=w++32::jb (u::r):=by simp[jb]
  rw[e]at hb;rcases List.mem_append.1 hb with hb|hb
  ·exact h w (by simp) b hb
  ·rcases List.mem_cons.1 hb with rfl|hb
   ·exact h32
   ·exact z8h h32 (u::r) (fun x hx=>h x (by simp[hx])) b hb
theorem k4f:∀(ws:List Wd),ws≠[]->(∀w∈ws,w≠[])->∃v c,jb ws=v++[c]/\∃w∈ws,c∈w
 | [],h,_=>absurd rfl h
 | [w],_,h=>by
  have hw:=h w (by simp);rcases List.eq_nil_or_concat w with e|⟨v,c,e⟩
  ·exact absurd e hw
  ·exact⟨v,c,by rw[jb,e];simp,w,by simp,by rw[e];simp⟩
 | w::u::r,_,h=>by
  obtain⟨v,c,e,x,hx,hc⟩:=k4f (u::r) (by simp) fun y hy=>h y (by simp[hy])
  exact⟨w++32::v,c,by rw[jb];simp[e],x,by simp[hx],hc⟩
end Go.Proofs.YthjapabokcajhaaGreatDoor
namespace Go.Proofs.YthjapabokcajhaaGreatDoor
open Go
def okP:Int->List (List Td)->Prop
 | _,[]=>True
 | prev,t::r=>q0b t=0/\¬(opT t=9/\prev=9)/\okP (opT t) r
theorem j3r:∀(ps:List (List Td))(prev:Int)(k:Nat),(q3u prev k ps).2=0->okP prev ps
 | [],_,_,_=>trivial
 | t::r,prev,k,h=>by
  rw[q3u]at h
  split at h
  ·rename_i h1;exact absurd h h1
  ·rename_i h1
   split at h
   ·cases h
   ·rename_i h2;exact⟨by omega,h2,j3r r _ _ h⟩
theorem j7p{ps:List (List Td)}(h:(q1i ps).2=0):ps.length<=20/\okP 0 ps:=by
 unfold q1i at h
 split at h
 ·cases h
 ·exact⟨by omega,j3r ps 0 0 h⟩
end Go.Proofs.YthjapabokcajhaaGreatDoor
