import Derived.Test.YthcpdohdppkmkaaGreatDoorPu02
open Go.Proofs.Tryz
namespace Go.Proofs.YthcpdohdppkmkaaGreatDoor
open Go
theorem v7p{c:UInt8}(h:q3w c=true):q5s c=true:=by
 simp only[q3w,Bool.and_eq_true,decide_eq_true_eq]at h;simp only[q5s,Bool.and_eq_true,decide_eq_true_eq];omega
theorem v6g{c:UInt8}(h:q4d c=true):q5s c=true:=by
 simp only[q4d,Bool.and_eq_true,decide_eq_true_eq]at h;simp only[q5s,Bool.and_eq_true,decide_eq_true_eq];omega
theorem z3o{s:List UInt8}(h1:1<=s.length)(h2:s.length<=20)(h3:∀c∈s,q5s c=true):(wdD s).Wf:=by
 have e:(wbS s).size=s.length:=by rw[<-q0b];rfl
 have hw:isW (wbS s)=true:=by
  simp only[isW,Bool.and_eq_true,decide_eq_true_eq,List.all_eq_true];exact⟨⟨by omega,by omega⟩,h3⟩
 refine⟨?_,rfl⟩;simp only[q0u,hw];rfl
theorem y0l:blD.Wf:=⟨rfl,rfl⟩
theorem g3o:sfD.Wf:=⟨rfl,rfl⟩
theorem q7f{a b:Tr}(ha:a.Wf)(hb:b.Wf):(twD a b).Wf:=⟨rfl,rfl,ha,hb⟩
theorem y0m{a:Tr}(ha:a.Wf):(dpD a).Wf:=⟨rfl,rfl,ha⟩
theorem y0n{a:Tr}(ha:a.Wf):(grD a).Wf:=⟨rfl,rfl,ha⟩
theorem y0o{l:Nat}{x:Td}{d:Tr}(h:d.Wf):(inD l x d).Wf:=by
 unfold inD
 split
 ·exact q7f (z3o (by decide) (by decide) (by decide)) (q7f h (z3o (by decide) (by decide) (by decide)))
 ·exact h
theorem g3n:∀ps:List (Td × Tr),(∀p∈ps,p.2.Wf)->ps≠[]->(kdD ps).Wf
 | [p],h,_=>h p (by simp)
 | p::q::r,h,_=>q7f (q7f (h p (by simp)) (z3o (by decide) (by decide) (by decide))) (q7f y0l (g3n (q::r) (fun z hz=>h z (by simp at hz⊢;right;exact hz)) (by simp)))
theorem v3w{op cl:List UInt8}{ps:List (Td × Tr)}(h:∀p∈ps,p.2.Wf)(h1:1<=op.length)(h2:op.length+cl.length<=20)(h3:∀c∈op,q5s c=true)(h4:1<=cl.length)(h5:∀c∈cl,q5s c=true):(q1y op cl ps).Wf:=by
 unfold q1y
 split
 ·refine z3o (by simp;omega) (by simp;omega) fun c hc=>?_
  rcases List.mem_append.1 hc with hc|hc
  ·exact h3 c hc
  ·exact h5 c hc
 ·rename_i h0;exact y0n (q7f (z3o h1 (by omega) h3) (q7f (y0m (q7f g3o (g3n ps h fun e=>h0 (by rw[e];rfl)))) (q7f g3o (z3o h4 (by omega) h5))))
theorem z0w{s:ByteArray}(h:q0z s=true):1<=(btL s).length/\(btL s).length<=8/\∀c∈btL s,q5s c=true:=by
 have h8:=q2e h;simp only[q0z,Bool.and_eq_true,decide_eq_true_eq,List.all_eq_true]at h;exact⟨by rw[q0b];exact h.1.1.1,h8,fun c hc=>v7p (h.2 c hc)⟩
theorem g6d{x:Td}{ps:List (Td × Tr)}(h:∀p∈ps,p.2.Wf)(hx:exN x)(hk:ps.length=kdT x):(q0l x ps).Wf:=by
 have two:kdT x=2->∃a b,ps=[a,b]/\a.2.Wf/\b.2.Wf:=fun e=>by
  rw[e]at hk
  match ps,hk with
  | [a,b],_=>exact⟨a,b,rfl,h a (by simp),h b (by simp)⟩
 rcases q2j hx with⟨ho,_,h0,h9,_⟩|⟨ho,hn,_⟩|⟨ho,hn,_⟩|⟨ho,_⟩|⟨ho,_,_,h2⟩|⟨ho,_,_,h2⟩
 ·rw[show q0l x ps=wdD (q3q x.n.toNat) by simp[q0l,ho]];have h1:=z0g 5 x.n.toNat (by omega);have h2:=List.length_pos_iff.2 (k5v x.n.toNat);exact z3o (by omega) (by omega) fun c hc=>v6g (z3v _ c hc)
 ·obtain⟨n1,n2,n3⟩:=z0w hn;rw[show q0l x ps=wdD (btL x.tx) by simp[q0l,ho]];exact z3o n1 (by omega) n3
 ·obtain⟨n1,n2,n3⟩:=z0w hn;rw[show q0l x ps=q1y (btL x.tx++[40]) [41] ps by simp[q0l,ho]];refine v3w h (by simp) (by rw[List.length_append];simp only[List.length_cons,List.length_nil];omega) (fun c hc=>?_) (by decide) (by decide);rcases List.mem_append.1 hc with hc|hc
  ·exact n3 c hc
  ·simp at hc;subst hc;decide
 ·rw[show q0l x ps=q1y [91] [93] ps by simp[q0l,ho]];exact v3w h (by decide) (by decide) (by decide) (by decide) (by decide)
 ·obtain⟨a,b,rfl,h3,h4⟩:=two h2;rw[show q0l x [a,b]=grD (twD (inD 0 a.1 a.2) (dpD (twD blD (twD (wdD [43,32]) (inD 1 b.1 b.2))))) by simp[q0l,tw2,ho]];exact y0n (q7f (y0o h3) (y0m (q7f y0l (q7f (z3o (by decide) (by decide) (by decide)) (y0o h4)))))
 ·obtain⟨a,b,rfl,h3,h4⟩:=two h2;rw[show q0l x [a,b]=grD (twD (inD 1 a.1 a.2) (dpD (twD blD (twD (wdD [42,32]) (inD 2 b.1 b.2))))) by simp[q0l,tw2,ho]];exact y0n (q7f (y0o h3) (y0m (q7f y0l (q7f (z3o (by decide) (by decide) (by decide)) (y0o h4)))))
theorem j7j:∀F:Fo,F.ok->F.exs->∀p∈F.D,p.2.Wf
 | .nil,_,_,p,hp=>by cases hp
 | .cons x k n,hok,hex,p,hp=>by
  have h1:=j7j k hok.2.1 fun y hy=>hex y (by simp[Fo.N,hy])
  have h2:=j7j n hok.2.2 fun y hy=>hex y (by simp[Fo.N,hy])
  rcases List.mem_cons.1 hp with rfl|hp
  ·exact g6d h1 (hex x (by simp[Fo.N])) (by rw[q7p];exact hok.1)
  ·exact h2 p hp
theorem v8b{l:Nat}{x:Td}{d:Tr}(h:d.noE):(inD l x d).noE:=by
 unfold inD
 split
 ·exact⟨rfl,by show(1:Int)≠4;decide,rfl,h,by show(1:Int)≠4;decide⟩
 ·exact h
theorem g1n:∀ps:List (Td × Tr),(∀p∈ps,p.2.noE)->(kdD ps).noE
 | [],_=>by show(1:Int)≠4;decide
 | [p],h=>h p (by simp)
 | p::q::r,h=>⟨rfl,⟨rfl,h p (by simp),by show(1:Int)≠4;decide⟩,rfl,by show(2:Int)≠4;decide,g1n (q::r) (fun z hz=>h z (by simp at hz⊢;right;exact hz))⟩
theorem v0n{op cl:List UInt8}{ps:List (Td × Tr)}(h:∀p∈ps,p.2.noE):(q1y op cl ps).noE:=by
 unfold q1y
 split
 ·show(1:Int)≠4;decide
 ·exact⟨rfl,by show(1:Int)≠4;decide,rfl,⟨rfl,by show(3:Int)≠4;decide,g1n ps h⟩,rfl,by show(3:Int)≠4;decide,by show(1:Int)≠4;decide⟩
theorem y2g{f:Td->Tr->Td->Tr->Tr}{ps:List (Td × Tr)}(h:∀p∈ps,p.2.noE)(hf:∀x a y b,a.noE->b.noE->(f x a y b).noE):(tw2 f ps).noE:=by
 unfold tw2
 split
 ·exact hf _ _ _ _ (h _ (by simp)) (h _ (by simp))
 ·show(1:Int)≠4;decide
theorem g5o{x:Td}{ps:List (Td × Tr)}(h:∀p∈ps,p.2.noE):(q0l x ps).noE:=by
 have h1:(1:Int)≠4:=by decide
 have h2:(2:Int)≠4:=by decide
 unfold q0l
 split
 ·exact h1
 ·split
  ·exact h1
  ·split
   ·exact v0n h
   ·split
    ·exact v0n h
    ·split
     ·exact y2g h fun x a y b ha hb=>⟨rfl,v8b ha,rfl,h2,rfl,h1,v8b hb⟩
     ·exact y2g h fun x a y b ha hb=>⟨rfl,v8b ha,rfl,h2,rfl,h1,v8b hb⟩
theorem k5u:∀F:Fo,∀p∈F.D,p.2.noE
 | .nil,p,hp=>by cases hp
 | .cons x k n,p,hp=>by
  rcases List.mem_cons.1 hp with rfl|hp
  ·exact g5o (k5u k)
  ·exact k5u n p hp
def z6t(ps:List (Td × Tr)):Nat:=(ps.map fun p=>p.2.N.length+5).sum
theorem q4f(p:Td × Tr)(r:List (Td × Tr)):z6t (p::r)=p.2.N.length+5+z6t r:=by simp[z6t]
theorem v8d(l:Nat)(x:Td)(d:Tr):(inD l x d).N.length<=d.N.length+4:=by
 unfold inD
 split
 ·simp only[Tr.N,List.length_cons,List.length_append,List.length_nil];omega
 ·omega
theorem v8e:∀ps:List (Td × Tr),(kdD ps).N.length<=z6t ps+1
 | []=>by simp[kdD,z6t,Tr.N]
 | [p]=>by simp only[kdD,q4f];omega
 | p::q::r=>by
  have ih:=v8e (q::r)
  show(twD (twD p.2 (wdD [44])) (twD blD (kdD (q::r)))).N.length<=_
  rw[q4f];simp only[Tr.N,List.length_cons,List.length_append,List.length_nil];omega
theorem g5p{x:Td}{ps:List (Td × Tr)}:(q0l x ps).N.length<=15+z6t ps:=by
 have hm:∀op cl:List UInt8,(q1y op cl ps).N.length<=15+z6t ps:=fun op cl=>by
  have hk:=v8e ps;unfold q1y
  split
  ·simp only[Tr.N,List.length_cons,List.length_nil];omega
  ·simp only[Tr.N,List.length_cons,List.length_append,List.length_nil];omega
 have ht:∀f:Td->Tr->Td->Tr->Tr,(∀x a y b,(f x a y b).N.length<=15+a.N.length+b.N.length)->(tw2 f ps).N.length<=15+z6t ps:=fun f hf=>by
  unfold tw2
  split
  ·rename_i a b
   have:=hf a.1 a.2 b.1 b.2
   rw[q4f,q4f];omega
  ·simp only[Tr.N,List.length_cons,List.length_nil];omega
 have hs:∀(l m:Nat)(sg:List UInt8)(x:Td)(a:Tr)(y:Td)(b:Tr),(grD (twD (inD l x a) (dpD (twD blD (twD (wdD sg) (inD m y b)))))).N.length<=15+a.N.length+b.N.length:=fun l m sg x a y b=>by
  have h1:=v8d l x a;have h2:=v8d m y b;simp only[Tr.N,List.length_cons,List.length_append,List.length_nil];omega
 unfold q0l
 split
 ·simp only[Tr.N,List.length_cons,List.length_nil];omega
 ·split
  ·simp only[Tr.N,List.length_cons,List.length_nil];omega
  ·split
   ·exact hm _ _
   ·split
    ·exact hm _ _
    ·split
     ·exact ht _ (hs 0 1 [43,32])
     ·exact ht _ (hs 1 2 [42,32])
theorem k2c:∀F:Fo,z6t F.D<=20*F.N.length
 | .nil=>by simp[Fo.D,z6t]
 | .cons x k n=>by
  have h1:=k2c k;have h2:=k2c n;have h3:=g5p (x:=x) (ps:=k.D);rw[Fo.D,q4f,Fo.N];simp only[List.length_cons,List.length_append];omega
def hdD(ps:List (Td × Tr)):Tr:=match ps with
 | p::_=>p.2
 | []=>wdD []
def q0n(t:List Td):Tr:=match j5y t with
 | .nil=>wdD []
 | .cons x k _=>stD x (hdD k.D)
theorem z1g{x:Td}{F:Fo}(h:F.ok)(hl:F.len=kdT x):q0n (x::F.N)=stD x (hdD F.D):=by
 rw[q0n,y2y h hl]
structure g4l(t:List Td):Prop where
 f:(q0n t).flat=some (q3g t)
 w:(q0n t).Wf
 e:(q0n t).noE
 n:(q0n t).N.length<=900
theorem y7p{F:Fo}(hl:F.len=1):∃y k,F=.cons y k .nil:=by
 cases F with
 | nil=>cases hl
 | cons y k n=>cases n with
  | nil=>exact⟨y,k,rfl⟩
  | cons _ _ _=>simp[Fo.len]at hl
theorem q7b{t:List Td}(h:q0d t=0)(h9:opT t≠9):∃(x y:Td)(k:Fo),t=x::(Fo.cons y k .nil).N/\(Fo.cons y k .nil).ok/\(Fo.cons y k .nil).exs/\(Fo.cons y k .nil).len=kdT x/\((x.op=7/\q0z x.tx=true/\x.n=0)\/(x.op=8/\x.tx=⟨#[]⟩/\x.n=0)):=by
 rcases q2v h with⟨x,rfl,ho,_⟩|⟨x,F,rfl,hok,hex,hl,hx⟩
 ·exact absurd ho h9
 ·obtain⟨y,k,rfl⟩:=y7p hl;refine⟨x,y,k,rfl,hok,hex,?_,hx⟩;rw[hl];unfold kdT;rcases hx with⟨ho,_⟩|⟨ho,_⟩<;>rw[ho]<;>rfl
theorem z0h{t:List Td}(h:q0d t=0)(h9:opT t≠9):g4l t:=by
 have hl40:=(q2o h).1;obtain⟨x,y,k,rfl,hok,hex,hk,hx⟩:=q7b h h9;have hm:=z3u _ hok hex;have hw:=j7j _ hok hex;have he:=k5u (.cons y k .nil);have hn:=k2c (.cons y k .nil);have e0:q0n (x::(Fo.cons y k .nil).N)=stD x (q0l y k.D):=z1g hok hk;have e1:q3g (x::(Fo.cons y k .nil).N)=stX x (Fo.cons y k .nil).R:=(q7a hok hk).1
 have hf:(q0l y k.D).flat=some (q0m y k.R).tx:=by
  cases hm with
  | cons h1 _=>exact h1.2
 have hw1:(q0l y k.D).Wf:=hw (y,q0l y k.D) (by simp[Fo.D]);have he1:(q0l y k.D).noE:=he (y,q0l y k.D) (by simp[Fo.D])
 have hn1:(q0l y k.D).N.length+5<=20*(Fo.cons y k .nil).N.length:=by
  rw[Fo.D,q4f]at hn
  have:z6t Fo.nil.D=0:=rfl
  exact Nat.le_trans (Nat.le_add_right _ _) hn
 simp only[List.length_cons]at hl40;generalize q0l y k.D=D at e0 hf hw1 he1 hn1;have w59:(wdD [59]).Wf:=z3o (by decide) (by decide) (by decide);have n1:(1:Int)≠4:=by decide
 have n2:(2:Int)≠4:=by decide
 rcases hx with⟨ho,hnm,_⟩|⟨ho,_,_⟩
 ·obtain⟨m1,m2,m3⟩:=z0w hnm;have e2:stD x D=grD (twD (wdD ([108,101,116,32]++btL x.tx++[32,61])) (dpD (twD blD (twD D (wdD [59]))))):=by rw[stD,if_pos ho]
  refine⟨?_,?_,?_,?_⟩
  ·rw[e0,e1,e2,v6j,q6a (z4x _) (by rw[v6i];exact q6a v6h (q6a hf (z4x _)))];simp[stX,ho,hdT,Fo.R]
  ·rw[e0,e2];refine y0n (q7f (z3o (by simp) (by simp only[List.length_append,List.length_cons,List.length_nil];omega) fun c hc=>?_) (y0m (q7f y0l (q7f hw1 w59))));rcases List.mem_append.1 hc with hc|hc
   ·rcases List.mem_append.1 hc with hc|hc
    ·simp at hc;rcases hc with rfl|rfl|rfl|rfl<;>decide
    ·exact m3 c hc
   ·simp at hc;rcases hc with rfl|rfl<;>decide
  ·rw[e0,e2];exact⟨rfl,n1,rfl,n2,rfl,he1,n1⟩
  ·rw[e0,e2];simp only[Tr.N,List.length_cons,List.length_append,List.length_nil];omega
 ·have e2:stD x D=twD D (wdD [59]):=by rw[stD,if_neg (by omega)]
  refine⟨?_,?_,?_,?_⟩
  ·rw[e0,e1,e2,q6a hf (z4x _)];simp[stX,ho,hdT,Fo.R]
  ·rw[e0,e2];exact q7f hw1 w59
  ·rw[e0,e2];exact⟨rfl,he1,n1⟩
  ·rw[e0,e2];simp only[Tr.N,List.length_cons,List.length_append,List.length_nil];omega
def y5j(a b:UInt8):Bool:=(q3w a&&q3w b)||(q4d a&&q4d b)
def q6y(b:UInt8):Bool:=!q3w b&&!q4d b
def k5y(s rest:List UInt8):Prop:=∀a b,s.getLast?=some a->rest.head?=some b->y5j a b=false
theorem z7j{a b:UInt8}(h:q6y b=true):y5j a b=false:=by
 simp only[q6y,Bool.and_eq_true,Bool.not_eq_true']at h;simp[y5j,h.1,h.2]
theorem k2k{a b:UInt8}(h:q6y a=true):y5j a b=false:=by
 simp only[q6y,Bool.and_eq_true,Bool.not_eq_true']at h;simp[y5j,h.1,h.2]
theorem q2m{s:List UInt8}{b:UInt8}(h:q6y b=true)(r:List UInt8):k5y s (b::r):=fun _ c _ hc=>by
 simp only[List.head?_cons,Option.some.injEq]at hc;subst hc;exact z7j h
theorem q8l{a:UInt8}(h:q6y a=true)(s r:List UInt8):k5y (s++[a]) r:=fun c _ hc _=>by
 simp only[List.getLast?_append,List.getLast?_singleton,Option.some_or,Option.some.injEq]at hc;subst hc;exact k2k h
def Lx(s:List UInt8)(ws:List Wd):Prop:=∀rest i,k5y s rest->(lxW (s++rest) i).map (·.2)=ws++(lxW rest (i+s.length)).map (·.2)/\lxF (s++rest) i=lxF rest (i+s.length)
theorem Lx.nil:Lx [] []:=fun rest i _=>by simp
theorem Lx.app{s t:List UInt8}{ws us:List Wd}(h1:Lx s ws)(h2:Lx t us)(h:k5y s t):Lx (s++t) (ws++us):=by
 intro rest i hr
 have hst:k5y s (t++rest):=by
  intro a b ha hb;cases t with
  | nil=>
   rw[List.append_nil]at hr;exact hr a b ha hb
  | cons c t=>exact h a b ha hb
 have htr:k5y t rest:=by
  intro a b ha hb;refine hr a b ?_ hb;rw[List.getLast?_append,ha];rfl
 obtain⟨a1,a2⟩:=h1 (t++rest) i hst;obtain⟨b1,b2⟩:=h2 rest (i+s.length) htr;rw[List.append_assoc,a1,a2,b1,b2,List.length_append,Nat.add_assoc];exact⟨by simp,rfl⟩
theorem Lx.blank{c:UInt8}(h:spB c=true):Lx [c] []:=by
 intro rest i _;rw[List.cons_append,List.nil_append,lxW,lxF,k3l rest i h];exact⟨by simp[lxW],by simp[lxF]⟩
theorem Lx.tok{c:UInt8}{r:List UInt8}(hs:spB c=false)(h:∀rest,k5y (c::r) rest->q5f (c::r++rest)=true/\q0t (c::r++rest)=(c::r).length)(ht:q1f (c::r)=c::r):Lx (c::r) [c::r]:=by
 intro rest i hr;obtain⟨h1,h2⟩:=h rest hr;rw[List.cons_append]at h1 h2;have ed:(c::(r++rest)).drop (q0t (c::(r++rest)))=rest:=by rw[h2,<-List.cons_append,List.drop_left]
 have ew:tkW (c::(r++rest))=c::r:=by rw[tkW,h2,<-List.cons_append,List.take_left,ht]
 rw[List.cons_append,lxW,lxF,z7t i hs h1,ed,ew,h2];exact⟨rfl,rfl⟩
theorem j1u{p:UInt8->Bool}:∀(r rest:List UInt8),(∀x∈r,p x=true)->(∀b,rest.head?=some b->p b=false)->(r++rest).takeWhile p=r
 | [],rest,_,h=>by
  cases rest with
  | nil=>rfl
  | cons b t=>rw[List.nil_append,List.takeWhile_cons,if_neg (by simp[h b rfl])]
 | a::r,rest,h,h2=>by
  rw[List.cons_append,List.takeWhile_cons,if_pos (h a (by simp)),j1u r rest (fun x hx=>h x (by simp[hx])) h2]
theorem j0e{s:List UInt8}(h:s≠[]):∃a,s.getLast?=some a/\a∈s:=by
 refine⟨s.getLast h,List.getLast?_eq_some_getLast h,List.getLast_mem h⟩
theorem v3h{p:UInt8->Bool}(hp:∀x,p x=true->x≠32){l:List UInt8}(h:∀x∈l,p x=true):q1f l=l:=by
 rcases List.eq_nil_or_concat l with rfl|⟨v,c,rfl⟩
 ·rfl
 ·rw[List.concat_eq_append]at h⊢;exact q1m v (hp c (h c (by simp)))
theorem g1g{c:UInt8}(h:q3w c=true):spB c=false:=by
 have h1:c≠32:=k3h h;have h2:c≠10:=by rintro rfl;revert h;decide
 simp[spB,h1,h2]
theorem g0n{c:UInt8}(h:q4d c=true):spB c=false:=by
 have h1:c≠32:=k2g h;have h2:c≠10:=by rintro rfl;revert h;decide
 simp[spB,h1,h2]
theorem Lx.name{w:Wd}(h:∀x∈w,q3w x=true)(h0:w≠[])(h8:w.length<=8):Lx w [w]:=by
 cases w with
 | nil=>exact absurd rfl h0
 | cons c r=>
  have hc:=h c (by simp);refine Lx.tok (g1g hc) (fun rest hr=>?_) (v3h (fun _=>k3h) h);obtain⟨a,ha,hm⟩:=j0e (s:=c::r) (by simp)
  have hb:∀b,rest.head?=some b->q3w b=false:=fun b hb=>by
   have:=hr a b ha hb
   simp only[y5j,h a hm,Bool.true_and,Bool.or_eq_false_iff]at this;exact this.1
  have e:=j1u r rest (fun x hx=>h x (by simp[hx])) hb;rw[List.cons_append];simp only[q5f,q0t,hc,if_true,e];simp only[List.length_cons]at h8⊢;exact⟨decide_eq_true h8,trivial⟩
theorem Lx.num(n:Nat)(hn:n<=999999):Lx (q3q n) [q3q n]:=by
 have hf:=z3v n;have h6:=z0g 5 n (by omega)
 have hz:∀c r,q3q n=c::r->(c != 48||r.length==0)=true:=fun c r e=>by
  rcases Nat.eq_zero_or_pos n with h|h
  ·subst h;rw[q3q,dif_pos (by omega)]at e;cases e;rfl
  ·obtain⟨d,z,e2,hd⟩:=k2d n h;rw[e,List.cons.injEq]at e2;rw[e2.1];simp[hd]
 cases hd:q3q n with
 | nil=>exact absurd hd (k5v n)
 | cons c r=>
  rw[hd]at hf h6;have hc:=hf c (by simp);have hlow:q3w c=false:=z9c hc;refine Lx.tok (g0n hc) (fun rest hr=>?_) (v3h (fun _=>k2g) hf);obtain⟨a,ha,hm⟩:=j0e (s:=c::r) (by simp)
  have hb:∀b,rest.head?=some b->q4d b=false:=fun b hb=>by
   have:=hr a b ha hb
   simp only[y5j,hf a hm,Bool.true_and,Bool.or_eq_false_iff]at this;exact this.2
  have e:=j1u r rest (fun x hx=>hf x (by simp[hx])) hb;rw[List.cons_append];simp only[q5f,q0t,hc,hlow,if_true,Bool.false_eq_true,if_false,e];simp only[List.length_cons]at h6⊢;exact⟨by rw[decide_eq_true h6,hz c r hd];rfl,trivial⟩
theorem Lx.mark{c:UInt8}(h:y8y c=true):Lx [c] [[c]]:=by
 have hc:spB c=false/\q3w c=false/\q4d c=false/\(c==35)=false/\c≠32:=by
  simp only[y8y,g1l,List.any_cons,List.any_nil,Bool.or_false,Bool.or_eq_true,beq_iff_eq]at h;rcases h with h|h|h|h|h|h|h|h|h<;>(subst h;decide)
 obtain⟨h1,h2,h3,h4,h5⟩:=hc;refine Lx.tok h1 (fun rest _=>?_) (q1m [] h5);rw[List.cons_append];simp only[q5f,q0t,h2,h3,h4,Bool.false_eq_true,if_false];exact⟨h,rfl⟩
theorem Lx.pre{c:UInt8}{t:List UInt8}{ws us:List Wd}(h1:Lx [c] ws)(hc:q6y c=true)(h2:Lx t us):Lx (c::t) (ws++us):=
 Lx.app h1 h2 (q8l hc [] t)
theorem Lx.post{c:UInt8}{s:List UInt8}{ws us:List Wd}(h1:Lx s ws)(hc:q6y c=true)(h2:Lx [c] us):Lx (s++[c]) (ws++us):=
 Lx.app h1 h2 (q2m hc [])
theorem j0n{t:Tn}(h:Lx t.tx t.tk)(l:Nat):Lx (brx l t) (brk l t):=by
 unfold brx brk
 split
 ·exact Lx.pre (Lx.mark (c:=40) rfl) rfl (Lx.post h rfl (Lx.mark (c:=41) rfl))
 ·exact h
theorem g1h:∀ks:List Tn,(∀t∈ks,Lx t.tx t.tk)->Lx (cmx ks) (cmk ks)
 | [],_=>Lx.nil
 | [t],h=>by simpa[cmx,cmk]using h t (by simp)
 | t::u::r,h=>by
  have ih:=g1h (u::r) fun x hx=>h x (by simp[hx])
  rw[cmx,cmk]
  have h3:Lx (44::32::cmx (u::r)) ([44]::cmk (u::r)):=by
   have:=Lx.pre (Lx.mark (c:=44) rfl) rfl (Lx.pre (Lx.blank (c:=32) rfl) rfl ih)
   simpa using this
  exact Lx.app (h t (by simp)) h3 (q2m rfl _)
theorem v0c:∀F:Fo,F.ok->F.exs->∀t∈F.R,Lx t.tx t.tk
 | .nil,_,_,t,ht=>by cases ht
 | .cons x k n,hok,hex,t,ht=>by
  have hexk:k.exs:=fun y hy=>hex y (by simp[Fo.N,hy])
  have hexn:n.exs:=fun y hy=>hex y (by simp[Fo.N,hy])
  have ihk:=v0c k hok.2.1 hexk;rw[Fo.R]at ht;rcases List.mem_cons.1 ht with rfl|ht
  ·have hlen:k.R.length=kdT x:=by rw[q2s];exact hok.1
   have hc:=g1h k.R ihk;rcases q2j (hex x (by simp[Fo.N]))with⟨ho,htx,hn0,hn1,hk⟩|⟨ho,hnm,hn0,hk⟩|⟨ho,hnm,hn0,hn1,hk⟩|⟨ho,htx,hn0,hn1,hk⟩|⟨ho,htx,hn0,hk⟩|⟨ho,htx,hn0,hk⟩
   ·have h1:(q0m x k.R).tx=q3q x.n.toNat:=by simp[q0m,q3o,ho]
    have h2:(q0m x k.R).tk=[q3q x.n.toNat]:=by simp[q0m,q2w,ho]
    rw[h1,h2];exact Lx.num _ (by omega)
   ·obtain⟨c,z,e,_,_,h8,hall⟩:=q8p (w:=btL x.tx) hnm;have h1:(q0m x k.R).tx=btL x.tx:=by simp[q0m,q3o,ho]
    have h2:(q0m x k.R).tk=[btL x.tx]:=by simp[q0m,q2w,ho]
    rw[h1,h2];exact Lx.name hall (by rw[e];simp) h8
   ·obtain⟨c,z,e,_,_,h8,hall⟩:=q8p (w:=btL x.tx) hnm;have h1:(q0m x k.R).tx=btL x.tx++40::(cmx k.R++[41]):=by simp[q0m,q3o,ho]
    have h2:(q0m x k.R).tk=[btL x.tx]++([[40]]++(cmk k.R++[[41]])):=by simp[q0m,q2w,ho]
    rw[h1,h2];exact Lx.app (Lx.name hall (by rw[e];simp) h8) (Lx.pre (Lx.mark (c:=40) rfl) rfl (Lx.post hc rfl (Lx.mark (c:=41) rfl))) (q2m rfl _)
   ·have h1:(q0m x k.R).tx=91::(cmx k.R++[93]):=by simp[q0m,q3o,ho]
    have h2:(q0m x k.R).tk=[[91]]++(cmk k.R++[[93]]):=by simp[q0m,q2w,ho]
    rw[h1,h2];exact Lx.pre (Lx.mark (c:=91) rfl) rfl (Lx.post hc rfl (Lx.mark (c:=93) rfl))
   ·obtain⟨a,b,hab⟩:=y8w (hlen.trans hk);rw[hab]at ihk⊢;have h1:(q0m x [a,b]).tx=brx 0 a++32::43::32::brx 1 b:=by simp[q0m,q3o,two2,ho]
    have h2:(q0m x [a,b]).tk=brk 0 a++([]++([[43]]++([]++brk 1 b))):=by simp[q0m,q2w,two2,ho]
    rw[h1,h2];exact Lx.app (j0n (ihk a (by simp)) 0) (Lx.pre (Lx.blank (c:=32) rfl) rfl (Lx.pre (Lx.mark (c:=43) rfl) rfl (Lx.pre (Lx.blank (c:=32) rfl) rfl (j0n (ihk b (by simp)) 1)))) (q2m rfl _)
   ·obtain⟨a,b,hab⟩:=y8w (hlen.trans hk);rw[hab]at ihk⊢;have h1:(q0m x [a,b]).tx=brx 1 a++32::42::32::brx 2 b:=by simp[q0m,q3o,two2,ho]
    have h2:(q0m x [a,b]).tk=brk 1 a++([]++([[42]]++([]++brk 2 b))):=by simp[q0m,q2w,two2,ho]
    rw[h1,h2];exact Lx.app (j0n (ihk a (by simp)) 1) (Lx.pre (Lx.blank (c:=32) rfl) rfl (Lx.pre (Lx.mark (c:=42) rfl) rfl (Lx.pre (Lx.blank (c:=32) rfl) rfl (j0n (ihk b (by simp)) 2)))) (q2m rfl _)
  ·exact v0c n hok.2.2 hexn t ht
theorem z8q:∀(f g:Fo),(f.app g).R=f.R++g.R
 | .nil,g=>rfl
 | .cons x k n,g=>by simp[Fo.app,Fo.R,z8q n g]
def q6l(ns:List Td)(t:Tn):Prop:=∃F:Fo,F.ok/\F.R=[t]/\F.N=ns/\∀x∈ns,x.op<7
theorem y9p(t:Tn)(a b:Nat)(h:a<=b):(brk a t).length<=(brk b t).length:=by
 unfold brk
 split
 ·rw[if_pos (by omega)];exact Nat.le_refl _
 ·split
  ·simp;omega
  ·exact Nat.le_refl _
theorem y3y(t:Tn)(b:Nat):(brk b t).length<=(brk 0 t).length+2:=by
 rw[q3y];unfold brk
 split
 ·simp
 ·omega
def g5i(x:Td):Fo:=.cons x .nil .nil
theorem v7c{x:Td}(h:kdT x=0)(h7:x.op<7):q6l [x] (q0m x []):=
 ⟨g5i x,⟨h.symm,trivial,trivial⟩,rfl,rfl,fun y hy=>by rw[List.mem_singleton]at hy;rw[hy];exact h7⟩
theorem v0p{x:Td}{K:Fo}(hk:K.ok)(h:K.len=kdT x)(h7:x.op<7)(ha:∀y∈K.N,y.op<7):q6l (x::K.N) (q0m x K.R):=
 ⟨.cons x K .nil,⟨h,hk,trivial⟩,rfl,by simp[Fo.N],fun y hy=>by
  rcases List.mem_cons.1 hy with rfl|hy
  ·exact h7
  ·exact ha y hy⟩
theorem g5g{k:Nat}(hk:k<2):kdT (sgT k)=2:=by
 rcases Nat.lt_or_ge k 1 with h|h
 ·obtain rfl:k=0:=by omega
  rfl
 ·obtain rfl:k=1:=by omega
  rfl
theorem two1{k:Nat}(hk:k<2){a b:List Td}{s t:Tn}(ha:q6l a s)(hb:q6l b t):q6l (sgT k::(a++b)) (q0m (sgT k) [s,t]):=by
 obtain⟨F,f1,f2,f3,f4⟩:=ha;obtain⟨G,g1,g2,g3,g4⟩:=hb;have hl:(F.app G).len=2:=by rw[<-q2s,z8q,f2,g2];rfl
 have h:=v0p (x:=sgT k) (K:=F.app G) (j5m f1 g1) (by rw[hl,g5g hk]) (by show(5:Int)+k<7;omega) (fun y hy=>by
  rw[q9y,f3,g3]at hy;rcases List.mem_append.1 hy with hy|hy
  ·exact f4 y hy
  ·exact g4 y hy)
 rw[q9y,f3,g3,z8q,f2,g2]at h;exact h
theorem y8n{k:Nat}(hk:k<2)(s t:Tn):(brk k (q0m (sgT k) [s,t])).length=(brk k s).length+1+(brk (k+1) t).length:=by
 rcases Nat.lt_or_ge k 1 with h|h
 ·obtain rfl:k=0:=by omega
  rw[q3y];simp[q0m,q2w,sgT,two2];omega
 ·obtain rfl:k=1:=by omega
  rw[brk,if_neg (by simp[q0m,prc,sgT])];simp[q0m,q2w,sgT,two2];omega
theorem k5q:∀ks:List Tn,(cmk ks).length+1=(ks.map fun t=>t.tk.length+1).sum+(if ks=[]then 1 else 0)
 | []=>rfl
 | [t]=>by simp[cmk]
 | t::u::r=>by
  have ih:=k5q (u::r);rw[q3z,cmt,List.length_append,List.length_cons,List.map_cons,List.sum_cons];rw[if_neg (by simp)]at ih⊢;omega
theorem j6s(ks:List Tn)(t:Tn):(cmk (ks++[t])).length=(cmk ks).length+t.tk.length+(if ks=[]then 0 else 1):=by
 have h1:=k5q (ks++[t]);have h2:=k5q ks;rw[if_neg (by simp),List.map_append,List.sum_append]at h1;simp only[List.map_cons,List.map_nil,List.sum_cons,List.sum_nil]at h1;by_cases h:ks=[]
 ·rw[if_pos h]at h2⊢;omega
 ·rw[if_neg h]at h2⊢;omega
theorem q4x{w:Wd}(h:z2p w=true)(ts:List Wd):many (w::ts)=many ts+1:=by
 simp[many,h]
theorem y7l(k:Nat):z2p (sgn k)=true:=by
 unfold sgn
 split<;>rfl
theorem v0s{w:Wd}(h:z7w w=true):z2p w=true:=by
 have:=(z4m (.inr (.inr (.inl h)))).2.2.2.2
 simpa[z2p]using this
theorem z3z{w:Wd}(h:nmW w=true):z2p w=true:=by
 have:=(z4m (.inr (.inr (.inr h)))).2.2.2.2
 simpa[z2p]using this
def g4o(j:Job)(ts:List Wd):Rs->Prop
 | .bad _=>True
 | .ok m ns u=>match j with
  | .level k=>∃t,q6l ns t/\(brk k t).length+many u<=many ts
  | .single=>∃t,q6l ns t/\(brk 2 t).length+many u<=many ts
  | .loop k acc=>k<2->∀t0,q6l acc t0->∃t,q6l ns t/\(brk k t).length+many u<=(brk k t0).length+many ts
  | .args e n acc=>z2p e=true->∀F:Fo,F.ok->F.len=n->F.N=acc->(∀x∈acc,x.op<7)->∃G:Fo,G.ok/\G.len=m/\G.N=ns/\(∀x∈ns,x.op<7)/\(cmk G.R).length+1+many u<=(cmk F.R).length+many ts
theorem z9i{F:Fo}{acc ns:List Td}{t:Tn}(hF:F.ok)(hn:F.N=acc)(ha:∀x∈acc,x.op<7)(ht:q6l ns t):∃G:Fo,G.ok/\G.len=F.len+1/\G.N=acc++ns/\(∀x∈acc++ns,x.op<7)/\G.R=F.R++[t]:=by
 obtain⟨T,t1,t2,t3,t4⟩:=ht;refine⟨F.app T,j5m hF t1,?_,by rw[q9y,hn,t3],fun x hx=>?_,by rw[z8q,t2]⟩
 ·rw[j5l,<-q2s T,t2];rfl
 ·rcases List.mem_append.1 hx with hx|hx
  ·exact ha x hx
  ·exact t4 x hx
theorem v1t{j:Job}{ts:List Wd}{r:Rs}(h:PR j ts r):g4o j ts r:=by
 induction h with
 | lev2 _ ih=>rename_i r _;cases r with
  | bad=>trivial
  | ok m ns u=>exact ih
 | levB=>trivial
 | levO h0 _ _ ih1 ih2=>rename_i k _ _ _ _ r _ _;cases r with
  | bad=>trivial
  | ok m ns u=>
   obtain⟨t0,a1,a2⟩:=ih1;obtain⟨t,b1,b2⟩:=ih2 h0 t0 a1
   have:=y9p t0 k (k+1) (by omega)
   exact⟨t,b1,by omega⟩
 | lopE _=>exact fun _ t0 h=>⟨t0,h,Nat.le_refl _⟩
 | lopB=>trivial
 | lopO _ _ ih1 ih2=>rename_i r _ _;cases r with
  | bad=>trivial
  | ok m ns u=>
   intro hk t0 h0;obtain⟨t1,a1,a2⟩:=ih1;obtain⟨t,b1,b2⟩:=ih2 hk _ (two1 hk h0 a1);rw[y8n hk]at b2;exact⟨t,b1,by rw[q4x (y7l _)];omega⟩
 | sinN=>trivial
 | sPB=>trivial
 | sPC _ ih=>
  obtain⟨t,a1,a2⟩:=ih
  have:=y3y t 2
  exact⟨t,a1,by rw[q4x (w:=[41]) rfl]at a2;rw[q4x (w:=[40]) rfl];omega⟩
 | sPX=>trivial
 | sLB=>trivial
 | sLO _ ih=>
  rename_i ts n ns u _;obtain⟨G,g1,g2,g3,g4,g5⟩:=ih rfl .nil trivial rfl rfl (fun x hx=>by cases hx);have hkd:kdT (lsT n)=n:=by simp[kdT,lsT]
  refine⟨q0m (lsT n) G.R,?_,?_⟩
  ·rw[<-g3];exact v0p g1 (by rw[hkd];exact g2) (by show(4:Int)<7;omega) (by rw[g3];exact g4)
  ·rw[brk,if_neg (by simp[q0m,prc,lsT])];have e:(q0m (lsT n) G.R).tk.length=(cmk G.R).length+2:=by simp[q0m,q2w,lsT]
   have e0:(cmk Fo.nil.R).length=0:=rfl;rw[e,q4x (w:=[91]) rfl];omega
 | sNum h0=>
  rename_i w ts;refine⟨q0m (j5b w) [],v7c (by simp[kdT,j5b]) (by show(1:Int)<7;omega),?_⟩;rw[brk,if_neg (by simp[q0m,prc,j5b]),q4x (v0s h0)];simp[q0m,q2w,j5b];omega
 | sName h0 _=>
  rename_i w ts _;refine⟨q0m (nmT w) [],v7c (by simp[kdT,nmT]) (by show(2:Int)<7;omega),?_⟩;rw[brk,if_neg (by simp[q0m,prc,nmT]),q4x (z3z h0)];simp[q0m,q2w,nmT];omega
 | sCB=>trivial
 | sCO h0 _ ih=>
  rename_i w ts n ns u _;obtain⟨G,g1,g2,g3,g4,g5⟩:=ih rfl .nil trivial rfl rfl (fun x hx=>by cases hx);have hkd:kdT (clT w n)=n:=by simp[kdT,clT]
  refine⟨q0m (clT w n) G.R,?_,?_⟩
  ·rw[<-g3];exact v0p g1 (by rw[hkd];exact g2) (by show(3:Int)<7;omega) (by rw[g3];exact g4)
  ·rw[brk,if_neg (by simp[q0m,prc,clT])];have e:(q0m (clT w n) G.R).tk.length=(cmk G.R).length+3:=by simp[q0m,q2w,clT]
   have e0:(cmk Fo.nil.R).length=0:=rfl;rw[e,q4x (z3z h0),q4x (w:=[40]) rfl];omega
 | sBad=>trivial
 | aEnd=>exact fun he F hF hl hn ha=>⟨F,hF,hl,hn,ha,by rw[q4x he];omega⟩
 | aSep=>trivial
 | aB0=>trivial
 | aO0 _ _ _ ih1 ih2=>rename_i r _ _ _;cases r with
  | bad=>trivial
  | ok m ns u=>
   intro he F hF hl hn ha;obtain⟨t,a1,a2⟩:=ih1;obtain⟨G,g1,g2,g3,g4,g5⟩:=z9i hF hn ha a1;obtain⟨H,h1,h2,h3,h4,h5⟩:=ih2 he G g1 (by omega) g3 g4;have hnil:F.R=[]:=List.eq_nil_of_length_eq_zero (by rw[q2s];exact hl);rw[g5,j6s,if_pos hnil]at h5;rw[q3y]at a2;exact⟨H,h1,h2,h3,h4,by omega⟩
 | aB=>trivial
 | aO _ _ _ ih1 ih2=>rename_i r _ _ _;cases r with
  | bad=>trivial
  | ok m ns u=>
   intro he F hF hl hn ha;obtain⟨t,a1,a2⟩:=ih1;obtain⟨G,g1,g2,g3,g4,g5⟩:=z9i hF hn ha a1;obtain⟨H,h1,h2,h3,h4,h5⟩:=ih2 he G g1 (by omega) g3 g4
   have hne:F.R≠[]:=fun e=>by
    have:=q2s F
    rw[e,hl]at this;simp at this
   rw[g5,j6s,if_neg hne]at h5;rw[q3y]at a2;exact⟨H,h1,h2,h3,h4,by rw[q4x (w:=[44]) rfl];omega⟩
end Go.Proofs.YthcpdohdppkmkaaGreatDoor
