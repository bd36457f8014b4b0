import Derived.Test.YthcpdohdppkmkaaGreatDoorPl02
import Derived.WalkKit
import Derived.Outline
import Derived.WalkLawsBesides
open Go.Proofs.Tryz
namespace Go.Proofs.YthcpdohdppkmkaaGreatDoor
open Go Go.RowKit
theorem v8e:∀ws:List Wd,(∀w∈ws,w.length<=20)->(jb ws).length<=21*ws.length
 | [],_=>by simp[jb]
 | [w],h=>by
  have:=h w (by simp)
  simp[jb];omega
 | w::u::r,h=>by
  have h1:=h w (by simp);have h2:=v8e (u::r) fun x hx=>h x (by simp[hx])
  rw[jb,List.length_append];simp only[List.length_cons]at h2⊢;omega
theorem v4v{tx:ByteArray}(h:q2x tx=0):tx.size<=1300:=by
 by_cases A:btL tx=[]
 ·have:=q0b tx
  rw[A]at this;simp at this;omega
 ·obtain⟨D,B⟩:=j8c h;have C:q0f (btL tx)=q5l (btL tx):=by rw[q0f,if_neg A]
  rw[C]at D B;have E:=v8e _ fun w hw=>(B w hw).2.1
  rw[j4v]at E;rw[<-q0b];omega
def y5w(s:ByteArray)(u:List Wd):Nat:=((z1z (btL s))[(q2m (btL s)).length-u.length]?).getD s.size
inductive q4l (s:ByteArray):List (List Td)->Int->Int->Prop where
 | lex (h:q5o (btL s)≠0):q4l s [] ((z3c (btL s):Nat):Int) (q5o (btL s))
 | bad {u} (h:q5o (btL s)=0) (hg:PG false [] (q2m (btL s)) (.bad u)):q4l s [] ((y5w s u:Nat):Int) 5
 | full {qs} (h:q5o (btL s)=0) (hg:PG false [] (q2m (btL s)) (.ok qs)) (hf:(q0r qs).2≠0):q4l s [] 0 (q0r qs).2
 | ok {qs} (h:q5o (btL s)=0) (hg:PG false [] (q2m (btL s)) (.ok qs)) (hf:(q0r qs).2=0):q4l s qs 0 0
theorem q1e{s:ByteArray}{p p':List (List Td)}{k k' f f':Int}(h:q4l s p k f)(h':q4l s p' k' f'):p=p'/\k=k'/\f=f':=by
 cases h with
 | lex h1=>cases h' with
  | lex _=>exact⟨rfl,rfl,rfl⟩
  | bad h2=>exact absurd h2 h1
  | full h2=>exact absurd h2 h1
  | ok h2=>exact absurd h2 h1
 | bad h1 hg=>cases h' with
  | lex h2=>exact absurd h1 h2
  | bad _ hg'=>cases z0j hg hg';exact⟨rfl,rfl,rfl⟩
  | full _ hg'=>cases z0j hg hg'
  | ok _ hg'=>cases z0j hg hg'
 | full h1 hg hf=>cases h' with
  | lex h2=>exact absurd h1 h2
  | bad _ hg'=>cases z0j hg hg'
  | full _ hg'=>cases z0j hg hg';exact⟨rfl,rfl,rfl⟩
  | ok _ hg' hf'=>cases z0j hg hg';exact absurd hf' hf
 | ok h1 hg hf=>cases h' with
  | lex h2=>exact absurd h1 h2
  | bad _ hg'=>cases z0j hg hg'
  | full _ hg' hf'=>cases z0j hg hg';exact absurd hf hf'
  | ok _ hg'=>cases z0j hg hg';exact⟨rfl,rfl,rfl⟩
theorem z8x:∀(ps:List (List Td))(prev:Int),okP prev ps->∀t∈ps,q0c t=0
 | t::r,prev,h,x,hx=>by
  rcases List.mem_cons.1 hx with rfl|hx
  ·exact h.1
  ·exact z8x r _ h.2.2 x hx
end Go.Proofs.YthcpdohdppkmkaaGreatDoor
namespace Go.Proofs.YthcpdohdppkmkaaGreatDoor
def q2z(wd:Nat):Nat->List UInt8->Nat × Nat × Nat
 | c,[]=>(0,0,c)
 | c,b::s=>if b=10 then((q2z wd 0 s).1,(q2z wd 0 s).2.1+1,(q2z wd 0 s).2.2)else((if wd<=c then 1 else 0)+(q2z wd (c+1) s).1,(q2z wd (c+1) s).2.1,(q2z wd (c+1) s).2.2)
theorem z7y(wd:Nat):∀(c:Nat)(s t:List UInt8),q2z wd c (s++t)=((q2z wd c s).1+(q2z wd (q2z wd c s).2.2 t).1,(q2z wd c s).2.1+(q2z wd (q2z wd c s).2.2 t).2.1,(q2z wd (q2z wd c s).2.2 t).2.2)
 | c,[],t=>by simp[q2z]
 | c,b::s,t=>by
  simp only[List.cons_append,q2z]
  split
  ·rw[z7y wd 0 s t];simp only[Prod.mk.injEq,and_true,true_and];omega
  ·rw[z7y wd (c+1) s t];simp only[Prod.mk.injEq,and_true];omega
abbrev Crs:=(Nat × Nat) × List Int
def q2w(a b:Nat × Nat):Prop:=a.1<b.1\/(a.1=b.1/\a.2<b.2)
instance(a b:Nat × Nat):Decidable (q2w a b):=by unfold q2w;infer_instance
def z9w(a b:Crs):Crs:=if q2w b.1 a.1 then b else a
def q6e:Option Crs->Option Crs->Option Crs
 | none,y=>y
 | x,none=>x
 | some a,some b=>some (z9w a b)
theorem j0c(a b c:Crs):z9w (z9w a b) c=z9w a (z9w b c):=by
 by_cases A:q2w b.1 a.1<;>by_cases B:q2w c.1 b.1<;>by_cases C:q2w c.1 a.1
 all_goals first
  | (simp[z9w,A,B,C];done)
  | (exfalso;unfold q2w at A B C;omega)
theorem k5a(x y z:Option Crs):q6e (q6e x y) z=q6e x (q6e y z):=by
 cases x<;>cases y<;>cases z<;>simp[q6e,j0c]
def fm:List Crs->Option Crs
 | []=>none
 | a::l=>q6e (some a) (fm l)
theorem k6o:∀l m:List Crs,fm (l++m)=q6e (fm l) (fm m)
 | [],m=>by cases h:fm m<;>simp[fm,q6e,h]
 | a::l,m=>by rw[List.cons_append,fm,fm,k6o l m,k5a]
def q5u(o l:Nat)(u:List Int)(a:Crs):Crs:=((o+a.1.1,l+a.1.2),u++a.2)
theorem k1b(o l:Nat)(u:List Int)(a b:Crs):q2w (q5u o l u b).1 (q5u o l u a).1↔q2w b.1 a.1:=by
 unfold q2w q5u;dsimp only;omega
theorem j8x(o l:Nat)(u:List Int)(a b:Crs):z9w (q5u o l u a) (q5u o l u b)=q5u o l u (z9w a b):=by
 unfold z9w;by_cases h:q2w b.1 a.1
 ·rw[if_pos h,if_pos ((k1b o l u a b).2 h)]
 ·rw[if_neg h,if_neg fun k=>h ((k1b o l u a b).1 k)]
theorem z1p(o l:Nat)(u:List Int):∀az:List Crs,fm (az.map (q5u o l u))=(fm az).map (q5u o l u)
 | []=>rfl
 | a::az=>by
  rw[List.map_cons,fm,z1p o l u az,fm];cases fm az with
  | none=>rfl
  | some b=>simp[q6e,j8x]
theorem j4l:∀{l:List Crs},fm l=none->l=[]
 | [],_=>rfl
 | a::l,h=>by
  rw[fm]at h;cases hl:fm l<;>rw[hl]at h<;>simp[q6e]at h
theorem z8j:∀{l:List Crs}{a:Crs},fm l=some a->∃(p q:List Crs),l=p++a::q/\(∀b∈p,q2w a.1 b.1)/\∀b∈q,¬q2w b.1 a.1
 | b::l,a,h=>by
  rw[fm]at h;cases hl:fm l with
  | none=>
   rw[hl]at h;obtain rfl:=j4l hl;simp only[q6e,Option.some.injEq]at h;subst h;exact⟨[],[],rfl,by simp,by simp⟩
  | some c=>
   rw[hl]at h;obtain⟨p,q,rfl,h1,h2⟩:=z8j hl;simp only[q6e,Option.some.injEq,z9w]at h
   split at h
   ·rename_i hlt;subst h;refine⟨b::p,q,rfl,fun d hd=>?_,h2⟩;rcases List.mem_cons.1 hd with rfl|hd
    ·exact hlt
    ·exact h1 d hd
   ·rename_i hlt;subst h;refine⟨[],p++c::q,rfl,by simp,fun d hd=>?_⟩;rcases List.mem_append.1 hd with hd|hd
    ·have:=h1 d hd
     unfold q2w at *;omega
    ·rcases List.mem_cons.1 hd with rfl|hd
     ·exact hlt
     ·have:=h2 d hd
      unfold q2w at *;omega
def Tr.outs:Tr->Nat->List (List UInt8 × List Int)
 | .leaf x,deep=>[(if x.op=1 then x.tx.data.toList else if x.op=5 then []else 10::List.replicate deep 32,[])]
 | .one x a,deep=>if x.op=7 then a.outs (deep+x.n.toNat)else(match a.flat with|none=>[]|some s=>[(s,[0])])++(a.outs deep).map fun p=>(p.1,1::p.2)
 | .two x a b,deep=>if x.op=6 then(a.outs deep).flatMap fun p=>(b.outs deep).map fun q=>(p.1++q.1,p.2++q.2)else((a.outs deep).map fun p=>(p.1,0::p.2))++(b.outs deep).map fun p=>(p.1,1::p.2)
theorem q3n:∀(t:Tr)(deep:Nat),(t.outs deep).map (·.2)=t.ways
 | .leaf x,deep=>by simp[Tr.outs,Tr.ways]
 | .one x a,deep=>by
  simp only[Tr.outs,Tr.ways]
  split
  ·exact q3n a _
  ·rw[List.map_append,<-q3n a deep]
   congr 1
   ·cases h:a.flat<;>simp[Tr.isFlat,h]
   ·rw[List.map_map,List.map_map];rfl
 | .two x a b,deep=>by
  simp only[Tr.outs,Tr.ways]
  split
  ·rw[<-q3n a deep,<-q3n b deep,List.map_flatMap,List.flatMap_map]
   congr 1
   funext p
   rw[List.map_map,List.map_map];rfl
  ·rw[<-q3n a deep,<-q3n b deep,List.map_append,List.map_map,List.map_map,List.map_map,List.map_map];rfl
theorem q6x:∀(t:Tr)(deep:Nat)(p:List UInt8 × List Int),p∈t.outs deep->∀r,t.lay deep (p.2++r)=.ok (p.1,r)
 | .leaf x,deep,p,h,r=>by
  simp only[Tr.outs,List.mem_singleton]at h;subst h;simp only[Tr.lay,List.nil_append]
  split
  ·rfl
  ·split<;>rfl
 | .one x a,deep,p,h,r=>by
  simp only[Tr.outs]at h;simp only[Tr.lay]
  split at h
  ·rename_i h7;rw[if_pos h7];exact q6x a _ p h r
  ·rename_i h7;rw[if_neg h7];rcases List.mem_append.1 h with h|h
   ·cases hf:a.flat with
    | none=>rw[hf]at h;simp at h
    | some s=>
     rw[hf]at h;simp only[List.mem_singleton]at h;subst h;simp
   ·obtain⟨q,hq,rfl⟩:=List.mem_map.1 h;simp only[List.cons_append,if_pos];exact q6x a deep q hq r
 | .two x a b,deep,p,h,r=>by
  simp only[Tr.outs]at h;simp only[Tr.lay]
  split at h
  ·rename_i h6;rw[if_pos h6];obtain⟨u,hu,hp⟩:=List.mem_flatMap.1 h;obtain⟨v,hv,rfl⟩:=List.mem_map.1 hp;dsimp only;rw[List.append_assoc,q6x a deep u hu (v.2++r)];dsimp only;rw[q6x b deep v hv r]
  ·rename_i h6;rw[if_neg h6];rcases List.mem_append.1 h with h|h
   ·obtain⟨q,hq,rfl⟩:=List.mem_map.1 h;simp only[List.cons_append,if_pos];exact q6x a deep q hq r
   ·obtain⟨q,hq,rfl⟩:=List.mem_map.1 h;simp only[List.cons_append];rw[if_neg (by decide)];exact q6x b deep q hq r
def q5j:List (Nat × Tr)->List (List UInt8 × List Int)
 | []=>[([],[])]
 | (d,t)::ks=>(t.outs d).flatMap fun p=>(q5j ks).map fun q=>(p.1++q.1,p.2++q.2)
def q4p(wd c:Nat)(ks:List (Nat × Tr)):List Crs:=(q5j ks).map fun p=>(((q2z wd c p.1).1,(q2z wd c p.1).2.1),p.2)
def bst(wd c:Nat)(ks:List (Nat × Tr)):Option Crs:=fm (q4p wd c ks)
theorem y0j(wd c:Nat):bst wd c []=some ((0,0),[]):=by simp[bst,q4p,q5j,q2z,fm,q6e]
theorem z6g(wd c:Nat)(s:List UInt8)(u:List Int)(ks:List (Nat × Tr)):((q5j ks).map fun q=>(s++q.1,u++q.2)).map (fun p=>(((q2z wd c p.1).1,(q2z wd c p.1).2.1),p.2))=(q4p wd (q2z wd c s).2.2 ks).map (q5u (q2z wd c s).1 (q2z wd c s).2.1 u):=by
 unfold q4p;rw[List.map_map,List.map_map]
 congr 1
 funext q
 simp only[Function.comp,z7y,q5u]
theorem z7u(wd c d:Nat)(x:Nd)(ks:List (Nat × Tr))(s:List UInt8)(hs:s=if x.op=1 then x.tx.data.toList else if x.op=5 then []else 10::List.replicate d 32):
  bst wd c ((d,.leaf x)::ks)=(bst wd (q2z wd c s).2.2 ks).map (q5u (q2z wd c s).1 (q2z wd c s).2.1 []):=by
 unfold bst;rw[<-z1p,<-z6g,q4p,q5j,Tr.outs,<-hs];simp
theorem v2l(wd c d:Nat)(x:Nd)(a:Tr)(ks:List (Nat × Tr))(h:x.op=7):bst wd c ((d,.one x a)::ks)=bst wd c ((d+x.n.toNat,a)::ks):=by
 unfold bst q4p;rw[q5j,q5j,Tr.outs,if_pos h]
theorem z4c(wd c d:Nat)(k:Int)(a:Tr)(ks:List (Nat × Tr)):((((a.outs d).map fun p=>(p.1,k::p.2)).flatMap fun p=>(q5j ks).map fun q=>(p.1++q.1,p.2++q.2)).map (fun p=>(((q2z wd c p.1).1,(q2z wd c p.1).2.1),p.2)))=(q4p wd c ((d,a)::ks)).map (q5u 0 0 [k]):=by
 unfold q4p;rw[q5j,List.flatMap_map,List.map_map,List.map_flatMap,List.map_flatMap]
 congr 1
 funext p
 rw[List.map_map,List.map_map]
 congr 1
 funext q
 simp[Function.comp,q5u]
theorem k0k(wd c d:Nat)(x:Nd)(a:Tr)(ks:List (Nat × Tr))(h:x.op≠7):
  bst wd c ((d,.one x a)::ks)=q6e (match a.flat with|none=>none|some s=>(bst wd (q2z wd c s).2.2 ks).map (q5u (q2z wd c s).1 (q2z wd c s).2.1 [0])) ((bst wd c ((d,a)::ks)).map (q5u 0 0 [1])):=by
 unfold bst;rw[<-z1p,<-z4c];rw[q4p,q5j,Tr.outs,if_neg h,List.flatMap_append,List.map_append,k6o]
 congr 1
 cases A:a.flat with
 | none=>rfl
 | some s=>
  dsimp only;rw[<-z1p,<-z6g];simp
theorem v2k(wd c d:Nat)(x:Nd)(a b:Tr)(ks:List (Nat × Tr))(h:x.op=6):bst wd c ((d,.two x a b)::ks)=bst wd c ((d,a)::(d,b)::ks):=by
 unfold bst q4p;rw[q5j,q5j,q5j,Tr.outs,if_pos h,List.flatMap_assoc]
 congr 2
 congr 1
 funext p
 rw[List.flatMap_map,List.map_flatMap]
 congr 1
 funext q
 rw[List.map_map]
 congr 1
 funext z
 simp[Function.comp,List.append_assoc]
theorem k8y(wd c d:Nat)(x:Nd)(a b:Tr)(ks:List (Nat × Tr))(h:x.op≠6):
  bst wd c ((d,.two x a b)::ks)=q6e ((bst wd c ((d,a)::ks)).map (q5u 0 0 [0])) ((bst wd c ((d,b)::ks)).map (q5u 0 0 [1])):=by
 unfold bst;rw[<-z1p,<-z1p,<-z4c,<-z4c,q4p,q5j,Tr.outs,if_neg h,List.flatMap_append,List.map_append,k6o]
theorem y2k(t:Tr)(deep:Nat):t.outs deep≠[]:=fun h=>by
 have:=q3n t deep
 rw[h]at this;exact z5e t this.symm
theorem k7m:∀ks:List (Nat × Tr),q5j ks≠[]
 | []=>by simp[q5j]
 | (d,t)::ks=>by
  have h1:=y2k t d;have h2:=k7m ks;obtain⟨p,ps,e⟩:=List.exists_cons_of_ne_nil h1;rw[q5j,e];simp[h2]
theorem k5x(wd c:Nat)(ks:List (Nat × Tr)):∃a,bst wd c ks=some a:=by
 cases h:bst wd c ks with
 | some a=>exact⟨a,rfl⟩
 | none=>
  have:=j4l h
  unfold q4p at this;exact absurd (List.map_eq_nil_iff.1 this) (k7m ks)
def Tr.txt(t:Tr)(u:List Int):List UInt8:=match t.show u with| .ok s=>s| .error _=>[]
theorem j8r{t:Tr}{p:List UInt8 × List Int}(h:p∈t.outs 0):t.show p.2=.ok p.1:=by
 have B:p.2∈t.ways:=by rw[<-q3n t 0];exact List.mem_map.2 ⟨p,h,rfl⟩
 have A:=q6x t 0 p h [];rw[List.append_nil]at A;unfold Tr.show;rw[if_pos (k3b.2 (q8e t _ B)),A]
theorem v5f{t:Tr}{p:List UInt8 × List Int}(h:p∈t.outs 0):t.txt p.2=p.1:=by rw[Tr.txt,j8r h]
def Tr.cst(t:Tr)(wd:Nat)(u:List Int):Nat × Nat:=((q2z wd 0 (t.txt u)).1,(q2z wd 0 (t.txt u)).2.1)
theorem k9n(t:Tr)(wd:Nat):q4p wd 0 [(0,t)]=t.ways.map fun u=>(t.cst wd u,u):=by
 have A:q5j [(0,t)]=t.outs 0:=by simp[q5j]
 unfold q4p;rw[A,<-q3n t 0,List.map_map];refine List.map_congr_left fun p hp=>?_
 simp only[Function.comp,Tr.cst,v5f hp]
def Tr.best(t:Tr)(wd:Nat):Option Crs:=fm (t.ways.map fun u=>(t.cst wd u,u))
theorem q9t(t:Tr)(wd:Nat):t.best wd=bst wd 0 [(0,t)]:=by rw[Tr.best,<-k9n];rfl
theorem k0h(t:Tr)(wd:Nat):∃a,t.best wd=some a:=by rw[q9t];exact k5x wd 0 _
theorem y1c{f:List Int->Crs}{l:List (List Int)}{k:Nat}(hk:k<l.length):fm ((l.take (k+1)).map f)=q6e (fm ((l.take k).map f)) (some (f l[k])):=by
 rw[List.take_add_one,List.getElem?_eq_getElem hk,List.map_append,k6o];rfl
theorem z5p:∀u:List Int,¬q3b u u
 | []=>by simp[q3b]
 | a::u=>by simp only[q3b,if_pos];exact z5p u
theorem z3l:∀{u v:List Int},q3b u v->¬q3b v u
 | a::u,b::v,h=>by
  simp only[q3b]at h⊢;by_cases e:a=b
  ·subst e;rw[if_pos rfl]at h⊢;exact z3l h
  ·rw[if_neg e]at h;rw[if_neg fun k=>e k.symm];omega
theorem q6b{t:Tr}{wd:Nat}{a:Crs}(h:t.best wd=some a):a.2∈t.ways/\t.show a.2=.ok (t.txt a.2)/\a.1=t.cst wd a.2/\∀w∈t.ways,¬q2w (t.cst wd w) a.1/\(t.cst wd w=a.1->¬q3b w a.2):=by
 obtain⟨p,q,e,K,L⟩:=z8j h;obtain⟨N,r,C,E,G⟩:=List.map_eq_append_iff.1 e;obtain⟨x,O,H,I,J⟩:=List.map_eq_cons_iff.1 G;subst H E J I;have B:x∈t.ways:=by rw[C];simp
 have D:=z1a t;rw[C]at D;refine⟨B,?_,rfl,fun w A=>?_⟩
 ·obtain⟨s,M⟩:=(z4s t x).2 B;simp only[Tr.txt,M]
 ·rw[C]at A;dsimp only;rcases List.mem_append.1 A with A|A
  ·have:=K _ (List.mem_map.2 ⟨w,A,rfl⟩)
   dsimp only at this;refine⟨?_,fun k=>?_⟩
   ·unfold q2w at *;omega
   ·rw[k]at this;unfold q2w at this;omega
  ·rcases List.mem_cons.1 A with rfl|A
   ·refine⟨?_,fun _=>z5p _⟩;unfold q2w;omega
   ·refine⟨L _ (List.mem_map.2 ⟨w,A,rfl⟩),fun _=>z3l ?_⟩;exact(List.pairwise_cons.1 (List.pairwise_append.1 D).2.1).1 w A
theorem q7x:∀(t t':Tr)(r r':List Nd),t.Wf->t'.Wf->t.N++r=t'.N++r'->t=t'/\r=r'
 | .leaf x,t',r,r',h,h',e=>by
  cases t' with
  | leaf y=>simp only[Tr.N,List.cons_append,List.nil_append,List.cons.injEq]at e;exact⟨by rw[e.1],e.2⟩
  | one y a=>
   simp only[Tr.N,List.cons_append,List.nil_append,List.cons.injEq]at e;have h1:=h.2;have h2:=h'.2.1;rw[e.1,h2]at h1;cases h1
  | two y a b=>
   simp only[Tr.N,List.cons_append,List.nil_append,List.cons.injEq]at e;have h1:=h.2;have h2:=h'.2.1;rw[e.1,h2]at h1;cases h1
 | .one x a,t',r,r',h,h',e=>by
  cases t' with
  | leaf y=>
   simp only[Tr.N,List.cons_append,List.nil_append,List.cons.injEq]at e;have h1:=h.2.1;have h2:=h'.2;rw[e.1,h2]at h1;cases h1
  | one y a'=>
   simp only[Tr.N,List.cons_append,List.cons.injEq]at e;obtain⟨e1,e2⟩:=q7x a a' r r' h.2.2 h'.2.2 e.2;exact⟨by rw[e.1,e1],e2⟩
  | two y a' b=>
   simp only[Tr.N,List.cons_append,List.cons.injEq]at e;have h1:=h.2.1;have h2:=h'.2.1;rw[e.1,h2]at h1;cases h1
 | .two x a b,t',r,r',h,h',e=>by
  cases t' with
  | leaf y=>
   simp only[Tr.N,List.cons_append,List.nil_append,List.cons.injEq]at e;have h1:=h.2.1;have h2:=h'.2;rw[e.1,h2]at h1;cases h1
  | one y a'=>
   simp only[Tr.N,List.cons_append,List.cons.injEq]at e;have h1:=h.2.1;have h2:=h'.2.1;rw[e.1,h2]at h1;cases h1
  | two y a' b'=>
   simp only[Tr.N,List.cons_append,List.append_assoc,List.cons.injEq]at e;obtain⟨e1,e2⟩:=q7x a a' _ _ h.2.2.1 h'.2.2.1 e.2;obtain⟨e3,e4⟩:=q7x b b' r r' h.2.2.2 h'.2.2.2 e2;exact⟨by rw[e.1,e1,e3],e4⟩
theorem j7w{t t':Tr}(h:t.Wf)(h':t'.Wf)(e:t.N=t'.N):t=t':=(q7x t t' [] [] h h' (by rw[e])).1
noncomputable def v7x(ds:List Nd)(h:q3d ds=0):Tr:=Classical.choose (z8c h)
theorem q9f{ds:List Nd}(h:q3d ds=0):(v7x ds h).Wf:=(Classical.choose_spec (z8c h)).1
theorem q3u{ds:List Nd}(h:q3d ds=0):ds=(v7x ds h).N:=(Classical.choose_spec (z8c h)).2
theorem z8b{ds:List Nd}(h:q3d ds=0){t:Tr}(ht:t.Wf)(e:ds=t.N):v7x ds h=t:=j7w (q9f h) ht ((q3u h).symm.trans e)
open Classical in
noncomputable def flS(ds:List Nd):ByteArray:=if h:q3d ds=0 then(v7x ds h).line else⟨#[]⟩
open Classical in
noncomputable def flB(ds:List Nd):Bool:=if h:q3d ds=0 then(v7x ds h).isFlat else false
theorem j4g{ds:List Nd}{t:Tr}(ht:t.Wf)(e:ds=t.N)(hl:ds.length<=400):q3d ds=0/\flS ds=t.line/\flB ds=t.isFlat:=by
 have h:q3d ds=0:=by rw[e];exact z0y ht (by rw[<-e];exact hl)
 refine⟨h,?_,?_⟩
 ·rw[flS,dif_pos h,z8b h ht e]
 ·rw[flB,dif_pos h,z8b h ht e]
theorem y4w{ds:List Nd}(h:q3d ds≠0):flS ds=⟨#[]⟩/\flB ds=false:=⟨by rw[flS,dif_neg h],by rw[flB,dif_neg h]⟩
theorem j5u{x:Nd}{a c:Tr}(h:x.op=6):Tr.line (.two x a c)=(if(a.isFlat&&c.isFlat)=true then a.line++c.line else⟨#[]⟩)/\Tr.isFlat (.two x a c)=(a.isFlat&&c.isFlat):=by
 unfold Tr.line Tr.isFlat;simp only[Tr.flat,if_pos h];cases A:a.flat with
 | none=>simp
 | some s=>
  cases B:c.flat with
  | none=>simp
  | some t=>exact⟨q6c (by simp),by simp⟩
theorem z3r(wd:Nat):∀(s:List UInt8)(c c':Nat),wd<=c->wd<=c'->(q2z wd c s).1=(q2z wd c' s).1/\(q2z wd c s).2.1=(q2z wd c' s).2.1
 | [],c,c',_,_=>⟨rfl,rfl⟩
 | b::s,c,c',h,h'=>by
  by_cases hb:b=10
  ·simp only[q2z,if_pos hb,and_self]
  ·simp only[q2z,if_neg hb,if_pos h,if_pos h'];obtain⟨e1,e2⟩:=z3r wd s (c+1) (c'+1) (by omega) (by omega);exact⟨by rw[e1],e2⟩
theorem k6a(wd c:Nat)(s:List UInt8):(q2z wd c s).1=(q2z wd (min c wd) s).1/\(q2z wd c s).2.1=(q2z wd (min c wd) s).2.1:=by
 rcases Nat.le_total c wd with h|h
 ·rw[Nat.min_eq_left h];exact⟨rfl,rfl⟩
 ·rw[Nat.min_eq_right h];exact z3r wd s c wd h Zl
theorem y0i(wd c:Nat)(ks:List (Nat × Tr)):bst wd c ks=bst wd (min c wd) ks:=by
 unfold bst q4p
 congr 2
 funext p
 rw[(k6a wd c p.1).1,(k6a wd c p.1).2]
theorem z2w(wd:Nat):∀(s:List UInt8)(c:Nat),(∀b∈s,b≠10)->q2z wd c s=((c+s.length-wd)-(c-wd),0,c+s.length)
 | [],c,_=>by simp[q2z]
 | b::s,c,h=>by
  have hb:b≠10:=h b (by simp);simp only[q2z,if_neg hb,z2w wd s (c+1) (fun x hx=>h x (by simp[hx])),List.length_cons,Prod.mk.injEq,true_and];refine⟨?_,by omega⟩
  split<;>omega
theorem j3h(wd c d:Nat):q2z wd c (10::List.replicate d 32)=(d-wd,1,d):=by
 simp only[q2z,if_pos];rw[z2w wd (List.replicate d 32) 0 (by intro b A;rw[(List.mem_replicate.1 A).2];decide)];simp
/-! ### How much a way may cost at most -/
def Tr.lf:Tr->Nat
 | .leaf _=>1
 | .one _ a=>a.lf
 | .two _ a b=>a.lf+b.lf
def Tr.dsum:Tr->Nat
 | .leaf _=>0
 | .one _ a=>8+a.dsum
 | .two _ a b=>a.dsum+b.dsum
theorem q9l:∀t:Tr,8*t.lf+t.dsum<=8*t.N.length
 | .leaf _=>by simp[Tr.lf,Tr.dsum,Tr.N]
 | .one _ a=>by have:=q9l a;simp only[Tr.lf,Tr.dsum,Tr.N,List.length_cons];omega
 | .two _ a b=>by have:=q9l a;have:=q9l b;simp only[Tr.lf,Tr.dsum,Tr.N,List.length_cons,List.length_append];omega
theorem q9h:∀(t:Tr)(s:List UInt8),t.Wf->t.flat=some s->s.length<=20*t.lf
 | .leaf x,s,h,e=>by
  obtain⟨_,_,_,_,h5,_⟩:=q2c h.1;simp only[Tr.flat]at e;simp only[Tr.lf]
  split at e
  ·rename_i h1;cases e
   have:=q4d (h5 h1)
   have e:=q0x x.tx;omega
  ·split at e
   ·cases e;simp
   ·split at e
    ·cases e
    ·cases e;simp
 | .one x a,s,h,e=>q9h a s h.2.2 e
 | .two x a b,s,h,e=>by
  simp only[Tr.flat]at e;simp only[Tr.lf]
  split at e
  ·cases ha:a.flat with
   | none=>rw[ha]at e;cases e
   | some u=>
    cases hb:b.flat with
    | none=>rw[ha,hb]at e;cases e
    | some v=>
     rw[ha,hb]at e;cases e
     have:=q9h a u h.2.2.1 ha
     have:=q9h b v h.2.2.2 hb
     rw[List.length_append];omega
  ·have:=q9h a s h.2.2.1 e
   omega
theorem q6y:∀(t:Tr)(d:Nat)(p:List UInt8 × List Int),t.Wf->p∈t.outs d->p.1.length<=t.lf*(21+d+t.dsum)
 | .leaf x,d,p,h,hp=>by
  obtain⟨_,_,_,_,h5,_⟩:=q2c h.1;simp only[Tr.outs,List.mem_singleton]at hp;subst hp;simp only[Tr.lf,Tr.dsum]
  split
  ·rename_i h1
   have:=q4d (h5 h1)
   have e:=q0x x.tx;omega
  ·split
   ·simp
   ·simp;omega
 | .one x a,d,p,h,hp=>by
  obtain⟨_,_,_,_,_,h6⟩:=q2c h.1;simp only[Tr.outs]at hp;simp only[Tr.lf,Tr.dsum]
  split at hp
  ·rename_i h7;have h1:=q6y a _ p h.2.2 hp;have h2:a.lf*(21+(d+x.n.toNat)+a.dsum)<=a.lf*(21+d+(8+a.dsum)):=Nat.mul_le_mul_left _ (by have:=h6 h7;omega);omega
  ·rcases List.mem_append.1 hp with hp|hp
   ·cases hf:a.flat with
    | none=>rw[hf]at hp;simp at hp
    | some s=>
     rw[hf]at hp;simp only[List.mem_singleton]at hp;subst hp;have h1:=q9h a s h.2.2 hf;have h2:a.lf*20<=a.lf*(21+d+(8+a.dsum)):=Nat.mul_le_mul_left _ (by omega);dsimp only;omega
   ·obtain⟨q,hq,rfl⟩:=List.mem_map.1 hp;have h1:=q6y a d q h.2.2 hq;have h2:a.lf*(21+d+a.dsum)<=a.lf*(21+d+(8+a.dsum)):=Nat.mul_le_mul_left _ (by omega);dsimp only;omega
 | .two x a b,d,p,h,hp=>by
  simp only[Tr.outs]at hp;simp only[Tr.lf,Tr.dsum];have ma:a.lf*(21+d+a.dsum)<=a.lf*(21+d+(a.dsum+b.dsum)):=Nat.mul_le_mul_left _ (by omega);have mb:b.lf*(21+d+b.dsum)<=b.lf*(21+d+(a.dsum+b.dsum)):=Nat.mul_le_mul_left _ (by omega);rw[Nat.add_mul]
  split at hp
  ·obtain⟨u,hu,hp⟩:=List.mem_flatMap.1 hp;obtain⟨v,hv,rfl⟩:=List.mem_map.1 hp;have h1:=q6y a d u h.2.2.1 hu;have h2:=q6y b d v h.2.2.2 hv;simp only[List.length_append];omega
  ·rcases List.mem_append.1 hp with hp|hp
   ·obtain⟨q,hq,rfl⟩:=List.mem_map.1 hp;have h1:=q6y a d q h.2.2.1 hq;dsimp only;omega
   ·obtain⟨q,hq,rfl⟩:=List.mem_map.1 hp;have h1:=q6y b d q h.2.2.2 hq;dsimp only;omega
def lfK:List (Nat × Tr)->Nat
 | []=>0
 | (_,t)::ks=>t.lf+lfK ks
def KB(M:Nat)(ks:List (Nat × Tr)):Prop:=∀p∈ks,p.1+p.2.dsum<=M/\p.2.Wf
theorem k2b(M:Nat):∀(ks:List (Nat × Tr))(p:List UInt8 × List Int),KB M ks->p∈q5j ks->p.1.length<=lfK ks*(21+M)
 | [],p,_,hp=>by simp only[q5j,List.mem_singleton]at hp;subst hp;simp
 | (d,t)::ks,p,hk,hp=>by
  rw[q5j]at hp;obtain⟨u,hu,hp⟩:=List.mem_flatMap.1 hp;obtain⟨v,hv,rfl⟩:=List.mem_map.1 hp;obtain⟨k1,k2⟩:=hk (d,t) (by simp);have h1:=q6y t d u k2 hu;have h2:=k2b M ks v (fun q hq=>hk q (by simp[hq])) hv;have h3:t.lf*(21+d+t.dsum)<=t.lf*(21+M):=Nat.mul_le_mul_left _ (by dsimp only at k1;omega);simp only[lfK,List.length_append,Nat.add_mul];omega
theorem k3j(wd:Nat):∀(s:List UInt8)(c:Nat),(q2z wd c s).1<=s.length/\(q2z wd c s).2.1<=s.length
 | [],c=>by simp[q2z]
 | b::s,c=>by
  simp only[q2z,List.length_cons]
  split
  ·have:=k3j wd s 0
   dsimp only;omega
  ·have:=k3j wd s (c+1)
   dsimp only
   split<;>omega
def bs(wd c:Nat)(ks:List (Nat × Tr)):Crs:=(bst wd c ks).getD ((0,0),[])
theorem q3l(wd c:Nat)(ks:List (Nat × Tr)):bst wd c ks=some (bs wd c ks):=by
 obtain⟨a,h⟩:=k5x wd c ks;rw[bs,h];rfl
theorem y8h(wd c M:Nat)(ks:List (Nat × Tr))(h:KB M ks):(bs wd c ks).1.1<=lfK ks*(21+M)/\(bs wd c ks).1.2<=lfK ks*(21+M):=by
 obtain⟨p,q,e,_,_⟩:=z8j (q3l wd c ks);have A:bs wd c ks∈q4p wd c ks:=by rw[e];simp
 obtain⟨x,C,B⟩:=List.mem_map.1 A;rw[<-B];have D:=k2b M ks x h C;have E:=k3j wd x.1 c;dsimp only;omega
theorem most:∀D,D<401->(400-D)*(21+8*D)<=400000:=by
 set_option maxRecDepth 100000 in decide
theorem y2f{L M n:Nat}(h:8*L+M<=8*n)(hn:n<=400):L*(21+M)<=400000:=by
 have A:=most ((M+7) / 8) (by omega);have B:L*(21+M)<=(400-(M+7) / 8)*(21+8*((M+7) / 8)):=Nat.mul_le_mul (by omega) (by omega);omega
theorem y4m(wd c:Nat):bs wd c []=((0,0),[]):=by rw[bs,y0j];rfl
theorem j2u(wd c:Nat)(ks:List (Nat × Tr)):bs wd c ks=bs wd (min c wd) ks:=by rw[bs,y0i];rfl
theorem y0g{wd c d:Nat}{x:Nd}{ks:List (Nat × Tr)}(hx:q1b x=0)(h:x.op=1)(hc:c<=wd):bs wd c ((d,.leaf x)::ks)=q5u (c+x.tx.size-wd) 0 [] (bs wd (min (c+x.tx.size) wd) ks):=by
 have A:∀b∈x.tx.data.toList,b≠10:=v1b hx h;have e:=z7u wd c d x ks x.tx.data.toList (by rw[if_pos h]);rw[z2w wd _ c A,q0x,q3l,q3l wd (c+x.tx.size),Option.map_some,Option.some.injEq,j2u wd (c+x.tx.size)]at e;rw[e,Nat.sub_eq_zero_of_le hc,Nat.sub_zero]
theorem y0f{wd c d:Nat}{x:Nd}{ks:List (Nat × Tr)}(h:x.op≠1/\x.op≠5):bs wd c ((d,.leaf x)::ks)=q5u (d-wd) 1 [] (bs wd (min d wd) ks):=by
 have e:=z7u wd c d x ks (10::List.replicate d 32) (by rw[if_neg h.1,if_neg h.2]);rw[j3h,q3l,q3l wd d,Option.map_some,Option.some.injEq,j2u wd d]at e;exact e
theorem y0h{wd c d:Nat}{x:Nd}{ks:List (Nat × Tr)}(h:x.op=5):bs wd c ((d,.leaf x)::ks)=q5u 0 0 [] (bs wd c ks):=by
 have e:=z7u wd c d x ks [] (by rw[if_neg (by omega),if_pos h]);rw[q3l,q2z,q3l wd c ks,Option.map_some,Option.some.injEq]at e;exact e
theorem y0d{wd c d:Nat}{x:Nd}{a:Tr}{ks:List (Nat × Tr)}(h:x.op=7):bs wd c ((d,.one x a)::ks)=bs wd c ((d+x.n.toNat,a)::ks):=by rw[bs,v2l wd c d x a ks h];rfl
theorem y0c{wd c d:Nat}{x:Nd}{a b:Tr}{ks:List (Nat × Tr)}(h:x.op=6):bs wd c ((d,.two x a b)::ks)=bs wd c ((d,a)::(d,b)::ks):=by rw[bs,v2k wd c d x a b ks h];rfl
theorem j2t{wd c d:Nat}{x:Nd}{a b:Tr}{ks:List (Nat × Tr)}(h:x.op≠6):bs wd c ((d,.two x a b)::ks)=z9w (q5u 0 0 [0] (bs wd c ((d,a)::ks))) (q5u 0 0 [1] (bs wd c ((d,b)::ks))):=by
 have e:=k8y wd c d x a b ks h;rw[q3l,q3l wd c ((d,a)::ks),q3l wd c ((d,b)::ks),Option.map_some,Option.map_some,q6e,Option.some.injEq]at e;exact e
theorem v2j{wd c d:Nat}{x:Nd}{a:Tr}{ks:List (Nat × Tr)}{s:List UInt8}(h:x.op≠7)(ha:a.Wf)(hf:a.flat=some s)(hc:c<=wd):
  bs wd c ((d,.one x a)::ks)=z9w (q5u (c+s.length-wd) 0 [0] (bs wd (min (c+s.length) wd) ks)) (q5u 0 0 [1] (bs wd c ((d,a)::ks))):=by
 have e:=k0k wd c d x a ks h;rw[hf]at e;dsimp only at e;rw[z2w wd _ c (q7s a s ha hf),q3l,q3l wd (c+s.length),q3l wd c ((d,a)::ks),Option.map_some,Option.map_some,q6e,Option.some.injEq,j2u wd (c+s.length)]at e;rw[e,Nat.sub_eq_zero_of_le hc,Nat.sub_zero]
theorem y0e{wd c d:Nat}{x:Nd}{a:Tr}{ks:List (Nat × Tr)}(h:x.op≠7)(hf:a.flat=none):bs wd c ((d,.one x a)::ks)=q5u 0 0 [1] (bs wd c ((d,a)::ks)):=by
 have e:=k0k wd c d x a ks h;rw[hf]at e;dsimp only at e;rw[q3l,q3l wd c ((d,a)::ks),Option.map_some,q6e,Option.some.injEq]at e;exact e
end Go.Proofs.YthcpdohdppkmkaaGreatDoor
namespace Go.Proofs.YthcpdohdppkmkaaGreatDoor
open Go Go.RowKit
def q1r(n:Int):Value:=if n=0 then .nilIface else .iface 22 (.int .i64 n)
theorem q0z:q1r 0=.nilIface:=rfl
theorem z6c:q1r 1=.iface 22 (.int .i64 1):=rfl
theorem k0r:q1r 2=.iface 22 (.int .i64 2):=rfl
theorem k6j:q1r 3=.iface 22 (.int .i64 3):=rfl
theorem y4s:q1r 4=.iface 22 (.int .i64 4):=rfl
theorem v7z:q1r 5=.iface 22 (.int .i64 5):=rfl
theorem q0l{n:Int}(h:n≠0):q1r n=.iface 22 (.int .i64 n):=by simp[q1r,h]
theorem q1z{W w1:World}(hb:Below W W w1):(∀b o,b<W.heap.size->w1.cell? ⟨b,o,none⟩=W.cell? ⟨b,o,none⟩)/\(∀b o,b<W.heap.size->w1.frozen? ⟨b,o,none⟩=W.frozen? ⟨b,o,none⟩):=
 ⟨fun b o h=>hb.cell (p:=⟨b,o,none⟩) h,fun b o h=>hb.frozen (p:=⟨b,o,none⟩) h⟩
theorem ane{b o b' o':Nat}(h:b≠b'\/o≠o'):(⟨b,o,none⟩:Addr)≠⟨b',o',none⟩:=by
 intro e;simp at e;omega
theorem cso{W:World}{b o b' o':Nat}{v:Value}(h:b≠b'\/o≠o'):(W.setCell ⟨b,o,none⟩ v).cell? ⟨b',o',none⟩=W.cell? ⟨b',o',none⟩:=World.cell?_setCell_other (h:=ane h) ..
theorem css{W:World}{a:Addr}{v u:Value}(h:W.cell? a=some u):(W.setCell a v).cell? a=some v:=World.cell?_setCell_same (h:=h) ..
theorem csf{W:World}{a b:Addr}{v:Value}:(W.setCell a v).frozen? b=W.frozen? b:=World.frozen?_setCell ..
theorem z5r{n:Nat}{w w1 w2:World}{A:Obj}(h1:Below n w w1)(hn:n<=w.heap.size)(hb:Below (w1.alloc A).heap.size (w1.alloc A) w2):Below n w w2:=
 (h1.alloc (by have:=h1.size;omega) _).trans (hb.mono (by have:=h1.size;simp;omega))
theorem q0e{n:Nat}{w w1 w2:World}(h1:Below n w w1)(hn:n<=w.heap.size)(hb:Below w1 w1 w2):Below n w w2:=
 h1.trans (hb.mono (by have:=h1.size;omega))
theorem hid{p:Prop}(h:p):Hid p:=h
def z2r(B:Nat)(w:World)(a:Option Addr)(ws:List ByteArray):Prop:=
 ∀i(h:i<ws.length),∃b o,a=some ⟨b,o,none⟩/\b<B/\w.cell? ⟨b,o+i,none⟩=some (.string ws[i])
theorem z2r.W{B:Nat}{w w':World}{a:Option Addr}{ws:List ByteArray}(h:z2r B w a ws)(hb:Below B w w'):z2r B w' a ws:=by
 intro i D;obtain⟨b,o,e,A,C⟩:=h i D;exact⟨b,o,e,A,(hb.cell (p:=⟨b,_,none⟩) A).trans C⟩
theorem z2r.up{B B':Nat}{w:World}{a:Option Addr}{ws:List ByteArray}(h:z2r B w a ws)(hB:B<=B'):z2r B' w a ws:=by
 intro i C;obtain⟨b,o,e,D,A⟩:=h i C;exact⟨b,o,e,by omega,A⟩
theorem z2r.nil(B:Nat)(w:World)(a:Option Addr):z2r B w a []:=fun i hi=>by simp at hi
theorem z2r.take{B:Nat}{w:World}{a:Option Addr}{ws:List ByteArray}(h:z2r B w a ws)(k:Nat):z2r B w a (ws.take k):=by
 intro i E;have A:i<ws.length:=by simp at E;omega
 obtain⟨b,o,e,C,D⟩:=h i A;exact⟨b,o,e,C,by rw[List.getElem_take];exact D⟩
theorem z2r.drop{B:Nat}{w:World}{b o:Nat}{ws:List ByteArray}(h:z2r B w (some ⟨b,o,none⟩) ws)(k:Nat):z2r B w (some ⟨b,o+k,none⟩) (ws.drop k):=by
 intro i E;have A:k+i<ws.length:=by simp at E;omega
 obtain⟨G,H,e,C,D⟩:=h (k+i) A;simp only[Option.some.injEq,Addr.mk.injEq,and_true]at e;obtain⟨rfl,rfl⟩:=e;refine⟨b,o+k,rfl,C,?_⟩;rw[List.getElem_drop,Nat.add_assoc];exact D
theorem z2r.some{B:Nat}{w:World}{a:Option Addr}{ws:List ByteArray}(h:z2r B w a ws)(h0:0<ws.length):∃b o,a=some ⟨b,o,none⟩/\b<B:=by
 obtain⟨b,o,e,A,_⟩:=h 0 h0;exact⟨b,o,e,A⟩
abbrev Wds(w:World)(a:Option Addr)(ws:List ByteArray):Prop:=z2r w.heap.size w a ws
theorem Wds.W{w w':World}{a:Option Addr}{ws:List ByteArray}(h:Wds w a ws)(hb:Below w w w'):Wds w' a ws:=(z2r.W h hb).up hb.size
def q1u(w:World)(a:Option Addr)(ds:List Nd):Prop:=
 ∀i(h:i<ds.length),∃b o,a=some ⟨b,o,none⟩/\b<w.heap.size/\w.cell? ⟨b,o+i*3,none⟩=some (.int .i64 ds[i].op)/\w.cell? ⟨b,o+i*3+1,none⟩=some (.string ds[i].tx)/\w.cell? ⟨b,o+i*3+2,none⟩=some (.int .i64 ds[i].n)
theorem q1u.W{w w':World}{a:Option Addr}{ds:List Nd}(h:q1u w a ds)(hb:Below w w w'):q1u w' a ds:=by
 intro i G;obtain⟨b,o,e,A,C,D,E⟩:=h i G;obtain⟨B,_⟩:=q1z hb
 have:=hb.size
 exact⟨b,o,e,by omega,(B _ _ A).trans C,(B _ _ A).trans D,(B _ _ A).trans E⟩
abbrev g0l(x:Nd):Value:=.agg #[.int .i64 x.op,.string x.tx,.int .i64 x.n]
def Tds(w:World)(a:Option Addr)(ds:List Td):Prop:=
 ∀i(h:i<ds.length),∃b o,a=some ⟨b,o,none⟩/\b<w.heap.size/\w.cell? ⟨b,o+i*3,none⟩=some (.int .i64 ds[i].op)/\w.cell? ⟨b,o+i*3+1,none⟩=some (.string ds[i].tx)/\w.cell? ⟨b,o+i*3+2,none⟩=some (.int .i64 ds[i].n)
theorem Tds.W{w w':World}{a:Option Addr}{ds:List Td}(h:Tds w a ds)(hb:Below w w w'):Tds w' a ds:=by
 intro i G;obtain⟨b,o,e,A,C,D,E⟩:=h i G;obtain⟨B,_⟩:=q1z hb
 have:=hb.size
 exact⟨b,o,e,by omega,(B _ _ A).trans C,(B _ _ A).trans D,(B _ _ A).trans E⟩
theorem Tds.alloc{w:World}{a:Option Addr}{ds:List Td}(h:Tds w a ds)(o:Obj):Tds (w.alloc o) a ds:=h.W (Zb.alloc Zl _)
theorem Tds.nil(w:World)(a:Option Addr):Tds w a []:=fun i hi=>by simp at hi
abbrev tdV(x:Td):Value:=.agg #[.int .i64 x.op,.string x.tx,.int .i64 x.n]
def z8e(o:Option Nat):Int:=match o with|some j=>j|none=>-1
def kdZ(x:Td):Int:=if x.op=3\/x.op=4 then x.n else(kdT x:Int)
theorem v8h{x:Td}(h:q0q x=0):kdZ x=(kdT x:Int):=by
 unfold kdZ
 split
 ·rename_i h1;rw[kdT,if_pos h1];unfold q0q at h
  split at h
  ·cases h
  ·split at h
   ·cases h
   ·omega
 ·rfl
def q8z(t:List Td):Int:=if q0c t≠0 then q0c t else if opT t=9 then 2 else if 400<(q0s t).N.length then 3 else 0
def q8l(t:List Td):List Nd:=if q8z t=0 then(q0s t).N else []
def k2w(t:List Td):Int:=if q0c t≠0 then q0c t else if opT t=9 then 0 else 2
def txT(t:List Td):ByteArray:=match t with
 | []=>⟨#[]⟩
 | x::_=>x.tx
def k9p(t:List Td):List ByteArray:=if k2w t=0 then(q0f (btL (txT t))).map wbS else []
def z3g(t:List Td)(e:Ending)(w':World):Prop:=∃A c,e=.returned (.tuple #[.slice A (q8l t).length c,q1r (q8z t)])/\q1u w' A (q8l t)/\(q8l t).length<=c
def z7l(t:List Td)(e:Ending)(w':World):Prop:=∃A c,e=.returned (.tuple #[.slice A (k9p t).length c,q1r (k2w t)])/\Wds w' A (k9p t)/\(k9p t).length<=c
theorem j5d{t:List Td}(h:q0c t≠0):q8z t=q0c t/\q8l t=[]/\k2w t=q0c t/\k9p t=[]:=by
 have A:q8z t=q0c t:=by rw[q8z,if_pos h]
 have B:k2w t=q0c t:=by rw[k2w,if_pos h]
 exact⟨A,by rw[q8l,if_neg (by rw[A];exact h)],B,by rw[k9p,if_neg (by rw[B];exact h)]⟩
theorem z8l{t:List Td}(h:q0c t=0)(h9:opT t=9):q8z t=2/\q8l t=[]/\k2w t=0/\k9p t=(q0f (btL (txT t))).map wbS:=by
 have A:q8z t=2:=by rw[q8z,if_neg (by simp[h]),if_pos h9]
 have B:k2w t=0:=by rw[k2w,if_neg (by simp[h]),if_pos h9]
 exact⟨A,by rw[q8l,if_neg (by rw[A];decide)],B,by rw[k9p,if_pos B]⟩
theorem v4c{t:List Td}(h:q0c t=0)(h9:opT t≠9)(hn:400<(q0s t).N.length):q8z t=3/\q8l t=[]/\k2w t=2/\k9p t=[]:=by
 have A:q8z t=3:=by rw[q8z,if_neg (by simp[h]),if_neg h9,if_pos hn]
 have B:k2w t=2:=by rw[k2w,if_neg (by simp[h]),if_neg h9]
 exact⟨A,by rw[q8l,if_neg (by rw[A];decide)],B,by rw[k9p,if_neg (by rw[B];decide)]⟩
theorem y1m{t:List Td}(h:q0c t=0)(h9:opT t≠9)(hn:¬400<(q0s t).N.length):q8z t=0/\q8l t=(q0s t).N/\k2w t=2/\k9p t=[]:=by
 have A:q8z t=0:=by rw[q8z,if_neg (by simp[h]),if_neg h9,if_neg hn]
 have B:k2w t=2:=by rw[k2w,if_neg (by simp[h]),if_neg h9]
 exact⟨A,by rw[q8l,if_pos A],B,by rw[k9p,if_neg (by rw[B];decide)]⟩
end Go.Proofs.YthcpdohdppkmkaaGreatDoor
