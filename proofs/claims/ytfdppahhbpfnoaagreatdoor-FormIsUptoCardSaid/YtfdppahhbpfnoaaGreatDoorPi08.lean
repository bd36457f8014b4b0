import Derived.Test.YtfdppahhbpfnoaaGreatDoorPi06
import Derived.Lib.Fields
import Derived.Test.YtfdppahhbpfnoaaGreatDoorPi04
open Go.Proofs.Tryz
namespace Go.Proofs.YtfdppahhbpfnoaaGreatDoor
open Go
abbrev neW(w:Wd):Bool:=!w.isEmpty
theorem k3r:∀(ws:List Wd)(t:Wd),ws.foldl q6p t=(ws.filter neW).foldl q6p t
 | [],_=>rfl
 | w::r,t=>by
  cases w with
  | nil=>
   have e:q6p t []=t:=by simp[q6p]
   rw[List.foldl_cons,e,k3r r t];rfl
  | cons c z=>exact k3r r _
theorem z3x:∀(l cur h:Wd)(tl:List Wd),(∀b∈l,Lib.isSp b=true->b=32)->q5n l=h::tl->Lib.fieldsGo cur l=((cur++h)::tl).filter neW
 | [],cur,h,tl,_,e=>by
  have e2:[[]]=h::tl:=e;simp only[List.cons.injEq]at e2;obtain⟨rfl,rfl⟩:=e2;cases cur<;>simp[Lib.fieldsGo]
 | b::l,cur,h,tl,hb,e=>by
  have hl:∀x∈l,Lib.isSp x=true->x=32:=fun x hx=>hb x (by simp[hx])
  cases hs:q5n l with
  | nil=>exact absurd hs (q9q l)
  | cons h2 tl2=>
   by_cases h32:b=32
   ·subst h32;rw[q6l,hs]at e;simp only[List.cons.injEq]at e;obtain⟨rfl,rfl⟩:=e;have ih:=z3x l [] h2 tl2 hl hs;have hsp:Lib.isSp 32=true:=by decide
    cases cur with
    | nil=>rw[Lib.fieldsGo_sp _ _ hsp,ih];simp
    | cons a z=>rw[Lib.fieldsGo_end _ _ _ hsp (by simp),ih];simp
   ·have hsp:Lib.isSp b=false:=by
     cases A:Lib.isSp b with
     | false=>rfl
     | true=>exact absurd (hb b (by simp) A) h32
    rw[q4x h32 hs]at e;simp only[List.cons.injEq]at e;obtain⟨rfl,rfl⟩:=e;rw[Lib.fieldsGo_more _ _ _ hsp,z3x l (cur++[b]) h2 tl2 hl hs];simp
theorem z1q{l:Wd}(h:∀b∈l,Lib.isSp b=true->b=32):Lib.fields l=(q5n l).filter neW:=by
 cases A:q5n l with
 | nil=>exact absurd A (q9q l)
 | cons a tl=>exact z3x l [] a tl h A
theorem k0s{l:Wd}(h:∀b∈l,Lib.isSp b=true->b=32):∀w∈Lib.fields l,w≠[]:=by
 intro w A;rw[z1q h]at A
 have:=(List.mem_filter.1 A).2
 rintro rfl;simp at this
theorem j0a{l:Wd}(h:∀b∈l,Lib.isSp b=true->b=32):ntx (q0e l)=jb (Lib.fields l):=by
 have e:(q0e l).filter neW=Lib.fields l:=by
  rw[z1q h];unfold q0e
  split
  ·rename_i h0;subst h0;rfl
  ·rfl
 rw[<-y4m (k0s h),<-e,ntx,ntx,k3r]
theorem j4z:∀(a b:List Wd),a≠[]->b≠[]->jb (a++b)=jb a++32::jb b
 | [w],b,_,hb=>by
  cases b with
  | nil=>exact absurd rfl hb
  | cons x y=>simp[jb]
 | w::u::r,b,_,hb=>by
  have ih:=j4z (u::r) b (by simp) hb;rw[List.cons_append]at ih;simp only[List.cons_append,jb]at ih⊢;rw[ih];simp
theorem v7e{a:List Wd}(h:∀w∈a,w≠[]):jb a=[]↔a=[]:=by
 cases a with
 | nil=>simp[jb]
 | cons w r=>
  have:=h w (by simp)
  constructor
  ·intro e;have A:w++(match r with|[]=>[]|_::_=>32::jb r)=[]:=e;exact absurd (List.append_eq_nil_iff.1 A).1 this
  ·intro e;cases e
theorem v8x{a b:List Wd}(ha:∀w∈a,w≠[])(hb:∀w∈b,w≠[]):q6p (jb a) (jb b)=jb (a++b):=by
 by_cases A:a=[]
 ·subst A
  have:jb ([]:List Wd)=[]:=rfl
  rw[this,q6p,if_neg (by simp)];rfl
 ·by_cases B:b=[]
  ·subst B
   have:jb ([]:List Wd)=[]:=rfl
   rw[this,q6p,if_neg (by simp)];simp
  ·have C:jb a≠[]:=fun e=>A ((v7e ha).1 e)
   have D:jb b≠[]:=fun e=>B ((v7e hb).1 e)
   rw[q6p,if_pos ⟨D,C⟩,j4z a b A B];simp
theorem j5a:∀ws:List Wd,Lib.join ws [32]=jb ws
 | []=>rfl
 | [w]=>by rw[Lib.join_one];simp[jb]
 | w::u::r=>by
  have ih:=j5a (u::r);rw[Lib.join_cons]at ih⊢;rw[jb,<-ih];simp[Lib.joinTail]
def q9u(w:Wd):List Wd:=Lib.fields (w.drop 1)
def v7c(w:Wd):Prop:=w.headD 0=35/\∀b∈w,prB b=true
theorem y4w{b:UInt8}(h:prB b=true)(hs:Lib.isSp b=true):b=32:=by
 simp only[prB,Bool.and_eq_true,decide_eq_true_eq]at h;simp only[Lib.isSp,Bool.or_eq_true,beq_iff_eq]at hs;have A:=h.1;rcases hs with(((((e|e)|e)|e)|e)|e)<;>subst e<;>first|rfl|(exfalso;revert A;decide)
theorem y4k{w:Wd}(h:v7c w):∀b∈w.drop 1,Lib.isSp b=true->b=32:=fun b hb hs=>y4w (h.2 b (List.mem_of_mem_drop hb)) hs
theorem y4l{w:Wd}(h:v7c w):q0y w=jb (q9u w):=j0a (y4k h)
theorem j4g{w:Wd}(h:v7c w):∀x∈q9u w,x≠[]:=k0s (y4k h)
theorem j1x(A:List (List Td))(X t:Wd):k0d true (A++[[ntT X]]) t=A++[[ntT (q6p X t)]]:=by
 have e:q5o (A++[[ntT X]])=X:=by
  simp only[q5o,List.getLast?_append,List.getLast?_singleton];rfl
 rw[k0d,if_pos rfl,e,List.dropLast_concat]
theorem j8n:∀(nts:List Wd)(acc:List (List Td))(W:List Wd)(ts:List Wd)(r:Rp),(∀w∈nts,v7c w)->(∀x∈W,x≠[])->PG true (acc++[[ntT (jb (W++nts.flatMap q9u))]]) ts r->PG true (acc++[[ntT (jb W)]]) (nts++ts) r
 | [],acc,W,ts,r,_,_,h=>by simpa using h
 | w::z,acc,W,ts,r,hn,hW,h=>by
  have hw:=hn w (by simp);refine .note hw.1 ?_;rw[j1x,y4l hw,v8x hW (j4g hw)];refine j8n z acc (W++q9u w) ts r (fun x hx=>hn x (by simp[hx])) ?_ ?_
  ·intro x hx;rcases List.mem_append.1 hx with hx|hx
   ·exact hW x hx
   ·exact j4g hw x hx
  ·rw[List.flatMap_cons,<-List.append_assoc]at h;exact h
theorem v4l{A:List Wd}{B:List (List Td)}{ts:List Wd}{r:Rp}(h0:A≠[])(hn:∀w∈A,v7c w)(h:PG true (B++[[ntT (jb (A.flatMap q9u))]]) ts r):PG false B (A++ts) r:=by
 cases A with
 | nil=>exact absurd rfl h0
 | cons w z=>
  have C:=hn w (by simp);refine .note C.1 ?_;rw[k0d,if_neg (by simp),y4l C];refine j8n z B (q9u w) ts r (fun x hx=>hn x (by simp[hx])) (j4g C) ?_;rw[List.flatMap_cons]at h;exact h
theorem j9u{p:UInt8->Bool}{c:UInt8}{r:List UInt8}(hc:p c=true)(hl:(r.takeWhile p).length+1=(c::r).length):∀b∈c::r,p b=true:=by
 have B:r.takeWhile p=r:=by
  have G:=z5d (p:=p) r;rw[show(r.takeWhile p).length=r.length by simp only[List.length_cons]at hl;omega,List.take_length]at G;exact G.symm
 have E:∀(l:List UInt8)x,x∈l.takeWhile p->p x=true:=by
  intro l
  induction l with
  | nil=>intro x A;cases A
  | cons a l ih=>
   intro x A;rw[List.takeWhile_cons]at A;by_cases D:p a=true
   ·rw[if_pos D]at A;rcases List.mem_cons.1 A with rfl|A
    ·exact D
    ·exact ih x A
   ·rw[if_neg D]at A;cases A
 intro b C;rcases List.mem_cons.1 C with rfl|C
 ·exact hc
 ·rw[<-B]at C;exact E r b C
theorem v8j{w:Wd}(h:q3b w):w≠[]:=by
 obtain⟨c,r,rfl,_⟩:=h;simp
theorem v5r{w:Wd}(h:q3b w):nmW w=(decide (w≠z1x)&&q2b (w.headD 0)):=by
 obtain⟨c,r,rfl,_,I,D,_⟩:=h;have C:btL (wbS (c::r))=c::r:=rfl;have B:(wbS (c::r)).size=(c::r).length:=by rw[<-q0c,C]
 unfold nmW q0o;rw[C,B];show _=(decide ((c::r)≠z1x)&&q2b c);cases A:q2b c with
 | false=>simp[A]
 | true=>
  simp only[q6q,A,if_true,decide_eq_true_eq]at I;simp only[q1c,A,if_true]at D;have E:=j9u A D;have G:(c::r).all q2b=true:=List.all_eq_true.2 E;rw[G];have H:(c::r).length<=8:=by omega
  simp only[List.length_cons]at H⊢;simp;omega
theorem y2d{w:Wd}(h:q3b w)(hn:z0j w=true):(∀b∈w,q1w b=true)/\w.length<=6:=by
 obtain⟨c,r,rfl,_,D,C,_⟩:=h;have B:q1w c=true:=hn;have A:q2b c=false:=k3o B;simp only[q6q,A,B,if_true,Bool.false_eq_true,if_false,Bool.and_eq_true,decide_eq_true_eq]at D;simp only[q1c,A,B,if_true,Bool.false_eq_true,if_false]at C;exact⟨j9u B C,by omega⟩
theorem y5o{w:Wd}(h:q3b w)(hn:w.headD 0=35):v7c w:=by
 obtain⟨c,r,rfl,_,C,I,_⟩:=h;have J:c=35:=hn;subst J;have D:q2b 35=false:=by decide
 have E:q1w 35=false:=by decide
 have G:((35:UInt8)==35)=true:=by decide
 simp only[q6q,D,E,G,if_true,Bool.false_eq_true,if_false]at C;simp only[q1c,D,E,G,if_true,Bool.false_eq_true,if_false]at I
 have A:r.takeWhile nlB=r:=by
  have H:=z5d (p:=nlB) r;rw[show(r.takeWhile nlB).length=r.length by simp only[List.length_cons]at I;omega,List.take_length]at H;exact H.symm
 rw[A,List.all_eq_true]at C;refine⟨rfl,fun b B=>?_⟩;rcases List.mem_cons.1 B with rfl|B
 ·decide
 ·exact C b B
abbrev wdD(s:List UInt8):Tr:=.leaf ⟨1,wbS s,0⟩
abbrev blD:Tr:=.leaf ⟨2,⟨#[]⟩,0⟩
abbrev sfD:Tr:=.leaf ⟨3,⟨#[]⟩,0⟩
abbrev twD(a b:Tr):Tr:=.two ⟨6,⟨#[]⟩,0⟩ a b
abbrev dpD(a:Tr):Tr:=.one ⟨7,⟨#[]⟩,2⟩ a
abbrev grD(a:Tr):Tr:=.one ⟨8,⟨#[]⟩,0⟩ a
def inD(l:Nat)(x:Td)(d:Tr):Tr:=if prc x<l then twD (wdD [40]) (twD d (wdD [41]))else d
def kdD:List (Td × Tr)->Tr
 | []=>wdD []
 | p::r=>match r with
  | []=>p.2
  | _::_=>twD (twD p.2 (wdD [44])) (twD blD (kdD r))
def tw2(f:Td->Tr->Td->Tr->Tr):List (Td × Tr)->Tr
 | [a,b]=>f a.1 a.2 b.1 b.2
 | _=>wdD []
def q3j(op cl:List UInt8)(ks:List (Td × Tr)):Tr:=if ks.length=0 then wdD (op++cl)else grD (twD (wdD op) (twD (dpD (twD sfD (kdD ks))) (twD sfD (wdD cl))))
def q0l(x:Td)(ks:List (Td × Tr)):Tr:=
 if x.op=1 then wdD (q7t x.n.toNat)
 else if x.op=2 then wdD (btL x.tx)
 else if x.op=3 then q3j (btL x.tx++[40]) [41] ks
 else if x.op=4 then q3j [91] [93] ks
 else if x.op=5 then tw2 (fun x a y b=>grD (twD (inD 0 x a) (dpD (twD blD (twD (wdD [43,32]) (inD 1 y b)))))) ks
 else tw2 (fun x a y b=>grD (twD (inD 1 x a) (dpD (twD blD (twD (wdD [42,32]) (inD 2 y b)))))) ks
def Fo.D:Fo->List (Td × Tr)
 | .nil=>[]
 | .cons x k n=>(x,q0l x k.D)::n.D
theorem q6t:∀F:Fo,F.D.length=F.len
 | .nil=>rfl
 | .cons _ _ n=>by simp[Fo.D,Fo.len,q6t n]
def stD(x:Td)(d:Tr):Tr:=
 if x.op=7 then grD (twD (wdD ([108,101,116,32]++btL x.tx++[32,61])) (dpD (twD blD (twD d (wdD [59])))))else twD d (wdD [59])
theorem z4b(s:List UInt8):(wdD s).flat=some s:=rfl
theorem q6v{a b:Tr}{s t:List UInt8}(ha:a.flat=some s)(hb:b.flat=some t):(twD a b).flat=some (s++t):=by
 simp only[Tr.flat,if_true,ha,hb]
theorem v2j(a:Tr):(dpD a).flat=a.flat:=rfl
theorem v2k(a:Tr):(grD a).flat=a.flat:=rfl
theorem v2i:blD.flat=some [32]:=rfl
theorem y3w:sfD.flat=some []:=rfl
def Mt(p:Td × Tr)(t:Tn):Prop:=p.1=t.x/\p.2.flat=some t.tx
theorem v2l{p:Td × Tr}{t:Tn}(h:Mt p t)(l:Nat):(inD l p.1 p.2).flat=some (brx l t):=by
 unfold inD brx;rw[h.1]
 split
 ·rw[q6v (z4b _) (q6v h.2 (z4b _))];rfl
 ·exact h.2
inductive Mts:List (Td × Tr)->List Tn->Prop where
 | nil:Mts [] []
 | cons {p t ps ts}:Mt p t->Mts ps ts->Mts (p::ps) (t::ts)
theorem y3v:∀{ps:List (Td × Tr)}{ts:List Tn},Mts ps ts->ps≠[]->(kdD ps).flat=some (cmx ts)
 | _,_,.cons h .nil,_=>by simp only[kdD,cmx,List.append_nil];exact h.2
 | _,_,.cons (ps:=p::ps) (ts:=t::ts) h (.cons h2 h3),_=>by
  have ih:=y3v (Mts.cons h2 h3) (by simp)
  show(twD (twD _ (wdD [44])) (twD blD (kdD (p::ps)))).flat=_
  rw[q6v (q6v h.2 (z4b _)) (q6v v2i ih)];simp[cmx]
theorem j4d{ps:List (Td × Tr)}{ts:List Tn}(h:Mts ps ts)(op cl:List UInt8):(q3j op cl ps).flat=some (op++cmx ts++cl):=by
 unfold q3j
 split
 ·rename_i h0;cases h with
  | nil=>rw[z4b];simp[cmx]
  | cons=>simp at h0
 ·rename_i h0;have A:ps≠[]:=fun e=>h0 (by rw[e];rfl)
  rw[v2k,q6v (z4b _) (q6v (by rw[v2j];exact q6v y3w (y3v h A)) (q6v y3w (z4b _)))];simp
theorem y7j{x:Td}{ps:List (Td × Tr)}{ts:List Tn}(h:Mts ps ts)(hx:exN x)(hk:ps.length=kdT x):(q0l x ps).flat=some (k8b x ts):=by
 have E:kdT x=2->∃a b c d,ps=[a,b]/\ts=[c,d]/\Mt a c/\Mt b d:=fun e=>by
  rw[e]at hk;cases h with
  | nil=>simp at hk
  | cons h1 B=>cases B with
   | nil=>simp at hk
   | cons C D=>cases D with
    | nil=>exact⟨_,_,_,_,rfl,rfl,h1,C⟩
    | cons=>simp at hk
 rcases q6f hx with⟨A,_⟩|⟨A,_⟩|⟨A,_⟩|⟨A,_⟩|⟨A,_,_,B⟩|⟨A,_,_,B⟩
 ·rw[show q0l x ps=wdD (q7t x.n.toNat) by simp[q0l,A],show k8b x ts=q7t x.n.toNat by simp[k8b,A]];rfl
 ·rw[show q0l x ps=wdD (btL x.tx) by simp[q0l,A],show k8b x ts=btL x.tx by simp[k8b,A]];rfl
 ·rw[show q0l x ps=q3j (btL x.tx++[40]) [41] ps by simp[q0l,A],show k8b x ts=btL x.tx++40::(cmx ts++[41]) by simp[k8b,A],j4d h];simp
 ·rw[show q0l x ps=q3j [91] [93] ps by simp[q0l,A],show k8b x ts=91::(cmx ts++[93]) by simp[k8b,A],j4d h];simp
 ·obtain⟨a,b,c,d,rfl,rfl,C,D⟩:=E B;rw[show q0l x [a,b]=grD (twD (inD 0 a.1 a.2) (dpD (twD blD (twD (wdD [43,32]) (inD 1 b.1 b.2))))) by simp[q0l,tw2,A],show k8b x [c,d]=brx 0 c++32::43::32::brx 1 d by simp[k8b,two2,A]];rw[v2k,q6v (v2l C 0) (by rw[v2j];exact q6v v2i (q6v (z4b _) (v2l D 1)))];rfl
 ·obtain⟨a,b,c,d,rfl,rfl,C,D⟩:=E B;rw[show q0l x [a,b]=grD (twD (inD 1 a.1 a.2) (dpD (twD blD (twD (wdD [42,32]) (inD 2 b.1 b.2))))) by simp[q0l,tw2,A],show k8b x [c,d]=brx 1 c++32::42::32::brx 2 d by simp[k8b,two2,A]];rw[v2k,q6v (v2l C 1) (by rw[v2j];exact q6v v2i (q6v (z4b _) (v2l D 2)))];rfl
theorem z8a:∀F:Fo,F.ok->F.exs->Mts F.D F.R
 | .nil,_,_=>.nil
 | .cons x k n,hok,hex=>by
  have h1:=z8a k hok.2.1 fun y hy=>hex y (by simp[Fo.N,hy])
  have h2:=z8a n hok.2.2 fun y hy=>hex y (by simp[Fo.N,hy])
  exact .cons ⟨rfl,y7j h1 (hex x (by simp[Fo.N])) (by rw[q6t];exact hok.1)⟩ h2
def Tr.noE:Tr->Prop
 | .leaf x=>x.op≠4
 | .one _ a=>a.noE
 | .two x a b=>x.op=6/\a.noE/\b.noE
theorem v3q{c:UInt8}(h:q2b c=true):q6a c=true:=by
 simp only[q2b,Bool.and_eq_true,decide_eq_true_eq]at h;simp only[q6a,Bool.and_eq_true,decide_eq_true_eq];omega
theorem v2h{c:UInt8}(h:q1w c=true):q6a c=true:=by
 simp only[q1w,Bool.and_eq_true,decide_eq_true_eq]at h;simp only[q6a,Bool.and_eq_true,decide_eq_true_eq];omega
theorem z2w{s:List UInt8}(h1:1<=s.length)(h2:s.length<=20)(h3:∀c∈s,q6a c=true):(wdD s).Wf:=by
 have e:(wbS s).size=s.length:=by rw[<-q0c];rfl
 have A:isW (wbS s)=true:=by
  simp only[isW,Bool.and_eq_true,decide_eq_true_eq,List.all_eq_true];exact⟨⟨by omega,by omega⟩,h3⟩
 refine⟨?_,rfl⟩;simp only[q1a,A];rfl
theorem v5y:blD.Wf:=⟨rfl,rfl⟩
theorem y5w:sfD.Wf:=⟨rfl,rfl⟩
theorem q7k{a b:Tr}(ha:a.Wf)(hb:b.Wf):(twD a b).Wf:=⟨rfl,rfl,ha,hb⟩
theorem v5z{a:Tr}(ha:a.Wf):(dpD a).Wf:=⟨rfl,rfl,ha⟩
theorem v6a{a:Tr}(ha:a.Wf):(grD a).Wf:=⟨rfl,rfl,ha⟩
theorem v6b{l:Nat}{x:Td}{d:Tr}(h:d.Wf):(inD l x d).Wf:=by
 unfold inD
 split
 ·exact q7k (z2w (by decide) (by decide) (by decide)) (q7k h (z2w (by decide) (by decide) (by decide)))
 ·exact h
theorem y5v:∀ps:List (Td × Tr),(∀p∈ps,p.2.Wf)->ps≠[]->(kdD ps).Wf
 | [p],h,_=>h p (by simp)
 | p::q::r,h,_=>q7k (q7k (h p (by simp)) (z2w (by decide) (by decide) (by decide))) (q7k v5y (y5v (q::r) (fun z hz=>h z (by simp at hz⊢;right;exact hz)) (by simp)))
theorem v0l{op cl:List UInt8}{ps:List (Td × Tr)}(h:∀p∈ps,p.2.Wf)(h1:1<=op.length)(h2:op.length+cl.length<=20)(h3:∀c∈op,q6a c=true)(h4:1<=cl.length)(h5:∀c∈cl,q6a c=true):(q3j op cl ps).Wf:=by
 unfold q3j
 split
 ·refine z2w (by simp;omega) (by simp;omega) fun c A=>?_
  rcases List.mem_append.1 A with A|A
  ·exact h3 c A
  ·exact h5 c A
 ·rename_i h0;exact v6a (q7k (z2w h1 (by omega) h3) (q7k (v5z (q7k y5w (y5v ps h fun e=>h0 (by rw[e];rfl)))) (q7k y5w (z2w h4 (by omega) h5))))
theorem z4m{s:ByteArray}(h:q0o s=true):1<=(btL s).length/\(btL s).length<=8/\∀c∈btL s,q6a c=true:=by
 have A:=q5q h;simp only[q0o,Bool.and_eq_true,decide_eq_true_eq,List.all_eq_true]at h;exact⟨by rw[q0c];exact h.1.1.1,A,fun c hc=>v3q (h.2 c hc)⟩
theorem y8m{x:Td}{ps:List (Td × Tr)}(h:∀p∈ps,p.2.Wf)(hx:exN x)(hk:ps.length=kdT x):(q0l x ps).Wf:=by
 have C:kdT x=2->∃a b,ps=[a,b]/\a.2.Wf/\b.2.Wf:=fun e=>by
  rw[e]at hk
  match ps,hk with
  | [a,b],_=>exact⟨a,b,rfl,h a (by simp),h b (by simp)⟩
 rcases q6f hx with⟨A,_,L,N,_⟩|⟨A,H,_⟩|⟨A,H,_⟩|⟨A,_⟩|⟨A,_,_,D⟩|⟨A,_,_,D⟩
 ·rw[show q0l x ps=wdD (q7t x.n.toNat) by simp[q0l,A]];have M:=z8b 5 x.n.toNat (by omega);have D:=List.length_pos_iff.2 (v9t x.n.toNat);exact z2w (by omega) (by omega) fun c B=>v2h (v2d _ c B)
 ·obtain⟨J,K,I⟩:=z4m H;rw[show q0l x ps=wdD (btL x.tx) by simp[q0l,A]];exact z2w J (by omega) I
 ·obtain⟨J,K,I⟩:=z4m H;rw[show q0l x ps=q3j (btL x.tx++[40]) [41] ps by simp[q0l,A]];refine v0l h (by simp) (by rw[List.length_append];simp only[List.length_cons,List.length_nil];omega) (fun c B=>?_) (by decide) (by decide);rcases List.mem_append.1 B with B|B
  ·exact I c B
  ·simp at B;subst B;decide
 ·rw[show q0l x ps=q3j [91] [93] ps by simp[q0l,A]];exact v0l h (by decide) (by decide) (by decide) (by decide) (by decide)
 ·obtain⟨a,b,rfl,E,G⟩:=C D;rw[show q0l x [a,b]=grD (twD (inD 0 a.1 a.2) (dpD (twD blD (twD (wdD [43,32]) (inD 1 b.1 b.2))))) by simp[q0l,tw2,A]];exact v6a (q7k (v6b E) (v5z (q7k v5y (q7k (z2w (by decide) (by decide) (by decide)) (v6b G)))))
 ·obtain⟨a,b,rfl,E,G⟩:=C D;rw[show q0l x [a,b]=grD (twD (inD 1 a.1 a.2) (dpD (twD blD (twD (wdD [42,32]) (inD 2 b.1 b.2))))) by simp[q0l,tw2,A]];exact v6a (q7k (v6b E) (v5z (q7k v5y (q7k (z2w (by decide) (by decide) (by decide)) (v6b G)))))
theorem j3l:∀F:Fo,F.ok->F.exs->∀p∈F.D,p.2.Wf
 | .nil,_,_,p,hp=>by cases hp
 | .cons x k n,hok,hex,p,hp=>by
  have h1:=j3l k hok.2.1 fun y hy=>hex y (by simp[Fo.N,hy])
  have h2:=j3l n hok.2.2 fun y hy=>hex y (by simp[Fo.N,hy])
  rcases List.mem_cons.1 hp with rfl|hp
  ·exact y8m h1 (hex x (by simp[Fo.N])) (by rw[q6t];exact hok.1)
  ·exact h2 p hp
theorem v3x{l:Nat}{x:Td}{d:Tr}(h:d.noE):(inD l x d).noE:=by
 unfold inD
 split
 ·exact⟨rfl,by show(1:Int)≠4;decide,rfl,h,by show(1:Int)≠4;decide⟩
 ·exact h
theorem y4i:∀ps:List (Td × Tr),(∀p∈ps,p.2.noE)->(kdD ps).noE
 | [],_=>by show(1:Int)≠4;decide
 | [p],h=>h p (by simp)
 | p::q::r,h=>⟨rfl,⟨rfl,h p (by simp),by show(1:Int)≠4;decide⟩,rfl,by show(2:Int)≠4;decide,y4i (q::r) (fun z hz=>h z (by simp at hz⊢;right;exact hz))⟩
theorem j6n{op cl:List UInt8}{ps:List (Td × Tr)}(h:∀p∈ps,p.2.noE):(q3j op cl ps).noE:=by
 unfold q3j
 split
 ·show(1:Int)≠4;decide
 ·exact⟨rfl,by show(1:Int)≠4;decide,rfl,⟨rfl,by show(3:Int)≠4;decide,y4i ps h⟩,rfl,by show(3:Int)≠4;decide,by show(1:Int)≠4;decide⟩
theorem v7k{f:Td->Tr->Td->Tr->Tr}{ps:List (Td × Tr)}(h:∀p∈ps,p.2.noE)(hf:∀x a y b,a.noE->b.noE->(f x a y b).noE):(tw2 f ps).noE:=by
 unfold tw2
 split
 ·exact hf _ _ _ _ (h _ (by simp)) (h _ (by simp))
 ·show(1:Int)≠4;decide
theorem y7y{x:Td}{ps:List (Td × Tr)}(h:∀p∈ps,p.2.noE):(q0l x ps).noE:=by
 have A:(1:Int)≠4:=by decide
 have B:(2:Int)≠4:=by decide
 unfold q0l
 split
 ·exact A
 ·split
  ·exact A
  ·split
   ·exact j6n h
   ·split
    ·exact j6n h
    ·split
     ·exact v7k h fun x a y b ha hb=>⟨rfl,v3x ha,rfl,B,rfl,A,v3x hb⟩
     ·exact v7k h fun x a y b ha hb=>⟨rfl,v3x ha,rfl,B,rfl,A,v3x hb⟩
theorem k3j:∀F:Fo,∀p∈F.D,p.2.noE
 | .nil,p,hp=>by cases hp
 | .cons x k n,p,hp=>by
  rcases List.mem_cons.1 hp with rfl|hp
  ·exact y7y (k3j k)
  ·exact k3j n p hp
def z3h(ps:List (Td × Tr)):Nat:=(ps.map fun p=>p.2.N.length+5).sum
theorem q2l(p:Td × Tr)(r:List (Td × Tr)):z3h (p::r)=p.2.N.length+5+z3h r:=by simp[z3h]
theorem k9x(l:Nat)(x:Td)(d:Tr):(inD l x d).N.length<=d.N.length+4:=by
 unfold inD
 split
 ·simp only[Tr.N,List.length_cons,List.length_append,List.length_nil];omega
 ·omega
theorem k9y:∀ps:List (Td × Tr),(kdD ps).N.length<=z3h ps+1
 | []=>by simp[kdD,z3h,Tr.N]
 | [p]=>by simp only[kdD,q2l];omega
 | p::q::r=>by
  have ih:=k9y (q::r)
  show(twD (twD p.2 (wdD [44])) (twD blD (kdD (q::r)))).N.length<=_
  rw[q2l];simp only[Tr.N,List.length_cons,List.length_append,List.length_nil];omega
theorem y7z{x:Td}{ps:List (Td × Tr)}:(q0l x ps).N.length<=15+z3h ps:=by
 have A:∀op cl:List UInt8,(q3j op cl ps).N.length<=15+z3h ps:=fun op cl=>by
  have G:=k9y ps;unfold q3j
  split
  ·simp only[Tr.N,List.length_cons,List.length_nil];omega
  ·simp only[Tr.N,List.length_cons,List.length_append,List.length_nil];omega
 have C:∀f:Td->Tr->Td->Tr->Tr,(∀x a y b,(f x a y b).N.length<=15+a.N.length+b.N.length)->(tw2 f ps).N.length<=15+z3h ps:=fun f hf=>by
  unfold tw2
  split
  ·rename_i a b
   have:=hf a.1 a.2 b.1 b.2
   rw[q2l,q2l];omega
  ·simp only[Tr.N,List.length_cons,List.length_nil];omega
 have B:∀(l m:Nat)(sg:List UInt8)(x:Td)(a:Tr)(y:Td)(b:Tr),(grD (twD (inD l x a) (dpD (twD blD (twD (wdD sg) (inD m y b)))))).N.length<=15+a.N.length+b.N.length:=fun l m sg x a y b=>by
  have D:=k9x l x a;have E:=k9x m y b;simp only[Tr.N,List.length_cons,List.length_append,List.length_nil];omega
 unfold q0l
 split
 ·simp only[Tr.N,List.length_cons,List.length_nil];omega
 ·split
  ·simp only[Tr.N,List.length_cons,List.length_nil];omega
  ·split
   ·exact A _ _
   ·split
    ·exact A _ _
    ·split
     ·exact C _ (B 0 1 [43,32])
     ·exact C _ (B 1 2 [42,32])
theorem z6a:∀F:Fo,z3h F.D<=20*F.N.length
 | .nil=>by simp[Fo.D,z3h]
 | .cons x k n=>by
  have h1:=z6a k;have h2:=z6a n;have h3:=y7z (x:=x) (ps:=k.D);rw[Fo.D,q2l,Fo.N];simp only[List.length_cons,List.length_append];omega
theorem y5l(s:List UInt8):(tkW s).length<=q1c s:=by
 unfold tkW;refine Nat.le_trans (z1b _) ?_;rw[List.length_take];omega
theorem z8q:∀(n:Nat)(s:List UInt8)(i:Nat),s.length<=n->((lxW s i).map fun x=>x.2.length).sum<=s.length
 | 0,s,i,h=>by
  have:s=[]:=List.eq_nil_of_length_eq_zero (by omega)
  subst this;rw[lxW,z4k];simp
 | n+1,s,i,h=>by
  cases s with
  | nil=>rw[lxW,z4k];simp
  | cons c r=>
   cases hs:spB c with
   | true=>
    have ih:=z8q n r (i+1) (by simp at h;omega);rw[lxW,j6g r i hs];rw[lxW]at ih;simp only[List.length_cons];omega
   | false=>
    cases ho:q6q (c::r)with
    | false=>rw[lxW,k6x i hs ho];simp
    | true=>
     have hp:=q5j c r;have hle:=z0x (c::r);have ih:=z8q n ((c::r).drop (q1c (c::r))) (i+q1c (c::r)) (by simp only[List.length_drop];omega);have hw:=y5l (c::r);rw[List.length_drop]at ih;rw[lxW,k6y i hs ho];simp only[List.map_cons,List.sum_cons];omega
theorem v0k(s:List UInt8):((q2c s).map List.length).sum<=s.length:=by
 have h:=z8q s.length s 0 Zl;rw[q2c,List.map_map];exact h
def szW(W:List Wd):Nat:=(W.map fun x=>x.length+1).sum
theorem k5f(a b:List Wd):szW (a++b)=szW a+szW b:=by simp[szW]
theorem q2j(x:Wd)(b:List Wd):szW (x::b)=x.length+1+szW b:=by simp[szW]
theorem z9n:∀W:List Wd,W.length<=szW W
 | []=>Nat.zero_le _
 | x::r=>by have:=z9n r;rw[q2j,List.length_cons];omega
theorem y0i:∀W:List Wd,(jb W).length<=szW W
 | []=>Nat.zero_le _
 | x::r=>by
  have:=y0i r
  rw[q2j];cases r with
  | nil=>simp[jb];omega
  | cons y r=>
   have e:jb (x::y::r)=x++32::jb (y::r):=by simp[jb]
   rw[e,List.length_append,List.length_cons];omega
theorem z3y:∀(l cur:Wd),szW (Lib.fieldsGo cur l)<=2*(cur.length+l.length)
 | [],cur=>by
  cases cur with
  | nil=>simp[Lib.fieldsGo,szW]
  | cons a z=>simp[Lib.fieldsGo,szW];omega
 | c::l,cur=>by
  cases hs:Lib.isSp c with
  | true=>
   have ih:=z3y l [];cases cur with
   | nil=>
    rw[Lib.fieldsGo_sp _ _ hs];simp only[List.length_nil,List.length_cons]at ih⊢;omega
   | cons a z=>
    rw[Lib.fieldsGo_end _ _ _ hs (by simp),q2j];simp only[List.length_nil,List.length_cons]at ih⊢;omega
  | false=>
   have ih:=z3y l (cur++[c]);rw[Lib.fieldsGo_more _ _ _ hs];simp only[List.length_append,List.length_cons,List.length_nil]at ih⊢;omega
theorem y3x(w:Wd):szW (q9u w)<=2*w.length:=by
 have:=z3y (w.drop 1) []
 rw[List.length_drop]at this;simp only[List.length_nil]at this;show szW (Lib.fieldsGo [] (w.drop 1))<=_;omega
theorem j4h:∀nts:List Wd,szW (nts.flatMap q9u)<=2*(nts.map List.length).sum
 | []=>Nat.zero_le _
 | x::r=>by
  have h1:=j4h r;have h2:=y3x x;rw[List.flatMap_cons,k5f,List.map_cons,List.sum_cons];omega
theorem v5g(ws:List Wd)(p k:Nat):(((ws.drop p).take k).map List.length).sum<=(ws.map List.length).sum:=by
 have e:ws=ws.take p++((ws.drop p).take k++(ws.drop p).drop k):=by rw[List.take_append_drop,List.take_append_drop]
 have h:=congrArg (fun l=>(l.map List.length).sum) e;simp only[List.map_append,List.sum_append]at h;omega
def hdD(ps:List (Td × Tr)):Tr:=match ps with
 | p::_=>p.2
 | []=>wdD []
def q0q(t:List Td):Tr:=match j2n t with
 | .nil=>wdD []
 | .cons x k _=>stD x (hdD k.D)
theorem z9i{x:Td}{F:Fo}(h:F.ok)(hl:F.len=kdT x):q0q (x::F.N)=stD x (hdD F.D):=by
 rw[q0q,v8g h hl]
structure y6w(t:List Td):Prop where
 f:(q0q t).flat=some (y2v t)
 w:(q0q t).Wf
 e:(q0q t).noE
 n:(q0q t).N.length<=900
theorem y1g{F:Fo}(hl:F.len=1):∃y k,F=.cons y k .nil:=by
 cases F with
 | nil=>cases hl
 | cons y k n=>cases n with
  | nil=>exact⟨y,k,rfl⟩
  | cons _ _ _=>simp[Fo.len]at hl
theorem z9k{t:List Td}(h:q0b t=0)(h9:opT t≠9):∃(x y:Td)(k:Fo),t=x::(Fo.cons y k .nil).N/\(Fo.cons y k .nil).ok/\(Fo.cons y k .nil).exs/\(Fo.cons y k .nil).len=kdT x/\((x.op=7/\q0o x.tx=true/\x.n=0)\/(x.op=8/\x.tx=⟨#[]⟩/\x.n=0)):=by
 rcases z9j h with⟨x,rfl,A,_⟩|⟨x,F,rfl,C,B,D,E⟩
 ·exact absurd A h9
 ·obtain⟨y,k,rfl⟩:=y1g D;refine⟨x,y,k,rfl,C,B,?_,E⟩;rw[D];unfold kdT;rcases E with⟨A,_⟩|⟨A,_⟩<;>rw[A]<;>rfl
theorem z6c{t:List Td}(h:q0b t=0)(h9:opT t≠9):y6w t:=by
 have J:=(q4y h).1;obtain⟨x,y,k,rfl,E,I,U,Z⟩:=z9k h h9;have X:=z8a _ E I;have Y:=j3l _ E I;have W:=k3j (.cons y k .nil);have V:=z6a (.cons y k .nil);have B:q0q (x::(Fo.cons y k .nil).N)=stD x (q0l y k.D):=z9i E U;have S:y2v (x::(Fo.cons y k .nil).N)=stX x (Fo.cons y k .nil).R:=(y5h E U).1
 have M:(q0l y k.D).flat=some (y8o y k.R).tx:=by
  cases X with
  | cons h1 _=>exact h1.2
 have H:(q0l y k.D).Wf:=Y (y,q0l y k.D) (by simp[Fo.D]);have G:(q0l y k.D).noE:=W (y,q0l y k.D) (by simp[Fo.D])
 have O:(q0l y k.D).N.length+5<=20*(Fo.cons y k .nil).N.length:=by
  rw[Fo.D,q2l]at V
  have:z3h Fo.nil.D=0:=rfl
  exact Nat.le_trans (Nat.le_add_right _ _) V
 simp only[List.length_cons]at J;generalize q0l y k.D=D at B M H G O;have K:(wdD [59]).Wf:=z2w (by decide) (by decide) (by decide);have Q:(1:Int)≠4:=by decide
 have b:(2:Int)≠4:=by decide
 rcases Z with⟨L,P,_⟩|⟨L,_,_⟩
 ·obtain⟨d,e,a⟩:=z4m P;have C:stD x D=grD (twD (wdD ([108,101,116,32]++btL x.tx++[32,61])) (dpD (twD blD (twD D (wdD [59]))))):=by rw[stD,if_pos L]
  refine⟨?_,?_,?_,?_⟩
  ·rw[B,S,C,v2k,q6v (z4b _) (by rw[v2j];exact q6v v2i (q6v M (z4b _)))];simp[stX,L,hdT,Fo.R]
  ·rw[B,C];refine v6a (q7k (z2w (by simp) (by simp only[List.length_append,List.length_cons,List.length_nil];omega) fun c A=>?_) (v5z (q7k v5y (q7k H K))));rcases List.mem_append.1 A with A|A
   ·rcases List.mem_append.1 A with A|A
    ·simp at A;rcases A with rfl|rfl|rfl|rfl<;>decide
    ·exact a c A
   ·simp at A;rcases A with rfl|rfl<;>decide
  ·rw[B,C];exact⟨rfl,Q,rfl,b,rfl,G,Q⟩
  ·rw[B,C];simp only[Tr.N,List.length_cons,List.length_append,List.length_nil];omega
 ·have C:stD x D=twD D (wdD [59]):=by rw[stD,if_neg (by omega)]
  refine⟨?_,?_,?_,?_⟩
  ·rw[B,S,C,q6v M (z4b _)];simp[stX,L,hdT,Fo.R]
  ·rw[B,C];exact q7k H K
  ·rw[B,C];exact⟨rfl,G,Q⟩
  ·rw[B,C];simp only[Tr.N,List.length_cons,List.length_append,List.length_nil];omega
def LnD(D:Tr)(b h:Nat):Prop:=(∀r,D.flat=some r->r.length<=b)/\∀deep cs cs' r,D.lay deep cs=.ok (r,cs')->deep+h<=80->r.length<=b
theorem LnD.mono{D:Tr}{b b' h h':Nat}(hd:LnD D b h)(hb:b<=b')(hh:h<=h'):LnD D b' h':=
 ⟨fun r hr=>Nat.le_trans (hd.1 r hr) hb,fun deep cs cs' r hr h1=>Nat.le_trans (hd.2 deep cs cs' r hr (by omega)) hb⟩
inductive Mls (h:Nat):List (Td × Tr)->List Tn->Prop where
 | nil:Mls h [] []
 | cons {p t ps ts}:p.1=t.x->LnD p.2 (90*t.tk.length) h->Mls h ps ts->Mls h (p::ps) (t::ts)
theorem Mls.up{h h':Nat}(hh:h<=h'){ps:List (Td × Tr)}{ts:List Tn}(m:Mls h ps ts):Mls h' ps ts:=by
 induction m with
 | nil=>exact .nil
 | cons e hd _ ih=>exact .cons e (hd.mono Zl hh) ih
def ntL(wd:Nat)(tx:ByteArray):List UInt8:=if q0e (btL tx)=[]then [35,10]else(j6b ((q0e (btL tx)).map wbS) (z3u (wd-2) ((q0e (btL tx)).map wbS))).flatMap fun l=>35::32::(btL l++[10])
def dcL(wd:Nat)(t:List Td):List UInt8:=(q0q t).txt (bs wd 0 [(0,q0q t)]).2++[10]
def z2v(t:List Td)(wd:Int):Int:=if wd<10\/100<wd then 1 else if q0b t≠0 then q0b t else if opT t=9 then 0 else if 400<(q0q t).N.length then 3 else 0
def z3g(wd:Nat)(t:List Td):List UInt8:=match t with
 | []=>[]
 | x::_=>if x.op=9 then ntL wd x.tx else dcL wd t
theorem v4f{t:List Td}(wd:Nat):∃u∈(q0q t).ways,dcL wd t=(q0q t).txt u++[10]/\(q0q t).show u=.ok ((q0q t).txt u)/\∀v∈(q0q t).ways,¬q2w ((q0q t).cst wd v) ((q0q t).cst wd u):=by
 have E:(q0q t).best wd=some (bs wd 0 [(0,q0q t)]):=by rw[q9w,q3o]
 obtain⟨A,B,C,D⟩:=q6d E;exact⟨_,A,rfl,B,fun v hv=>by rw[<-C];exact(D v hv).1⟩
theorem k1x{t:List Td}(h:q0b t=0)(h9:opT t=9):∃x,t=[x]/\x.op=9/\q2x x.tx=0/\y2v t=y8p x.tx:=by
 rcases z9j h with⟨x,rfl,A,H,E⟩|⟨x,F,rfl,_,_,_,B⟩
 ·have G:(Fo.nil).len=kdT x:=by simp[kdT,A,Fo.len]
  have C:y2v [x]=stX x []:=(y5h (x:=x) (F:=.nil) trivial G).1;exact⟨x,rfl,A,E,by rw[C,y8p];simp[stX,A]⟩
 ·have D:x.op=9:=h9;rcases B with⟨B,_⟩|⟨B,_⟩<;>omega
def q9k(wd:Nat)(ps:List (List Td)):List UInt8:=ps.flatMap (z3g wd)
theorem v5w{x:Td}(h:q0p x=0):x.tx.size<=1300:=by
 unfold q0p at h
 split at h
 ·cases h
 ·split at h
  ·cases h
  ·split at h
   ·cases h
   ·rename_i h3
    split at h
    ·exact v3y h
    ·rename_i h4
     split at h
     ·cases h
     ·rename_i h5;cases B:q2u x.op with
      | false=>
       have:¬0<x.tx.size:=fun h6=>h3 (.inr ⟨B,h6⟩)
       omega
      | true=>
       cases A:q0o x.tx with
       | false=>exact absurd ⟨B,A⟩ h5
       | true=>
        have:=q5q A
        rw[q0c]at this;omega
theorem j8s{ps:List (List Td)}(h:(q0r ps).2=0):∀t∈ps,∀x∈t,x.tx.size<=1300:=by
 intro t B x C;have A:=k4p ps 0 (k4z h).2 t B;exact v5w ((q4y A).2.1 x C)
end Go.Proofs.YtfdppahhbpfnoaaGreatDoor
