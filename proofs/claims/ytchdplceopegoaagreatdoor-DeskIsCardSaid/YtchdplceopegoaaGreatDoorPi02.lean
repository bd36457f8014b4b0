import Derived.Test.YtchdplceopegoaaGreatDoorPi01
open Go.Proofs.Tryz
open List (append_assoc append_nil cons_append flatMap_map foldl_cons length_append length_cons length_nil map_append map_flatMap map_map nil_append)
namespace Go.Proofs.YtchdplceopegoaaGreatDoor
open Go
def opT(t:List Td):Int:=match t with
 | []=>0
 | x::_=>x.op
theorem z5j{t:List Td}(h:0<t.length):opT t=t[0].op:=by
 cases t with
 | nil=>simp at h
 | cons x r=>rfl
def q7u(prev:Int)(k:Nat):List (List Td)->Nat × Int
 | []=>(0,0)
 | t::r=>if q0b t≠0 then(k,q0b t)else if opT t=9/\prev=9 then(k,2)else q7u (opT t) (k+1) r
def q0z(ps:List (List Td)):Nat × Int:=if 20<ps.length then(0,3)else q7u 0 0 ps
theorem z1s{t:List Td}(h:q0b t=0):0<t.length:=by
 rcases Nat.eq_zero_or_pos t.length with A|A
 ·have:t=[]:=List.eq_nil_of_length_eq_zero A
  subst this
  have:=(q3k h).2.2.1
  rw[q8v [] 0 0 (by simp)]at this;cases this
 ·exact A
def q7f(ps:List (List Td))(k:Nat):Int:=if k=0 then 0 else opT (ps.getD (k-1) [])
theorem z2u{ps:List (List Td)}{k:Nat}(h:k<ps.length):q7f ps (k+1)=opT ps[k]:=by
 simp[q7f,h]
theorem k3v{ps:List (List Td)}{k:Nat}{A:Int}(h:k<ps.length)(he:q0b ps[k]≠0):q7u A k (ps.drop k)=(k,q0b ps[k]):=by
 rw[List.drop_eq_getElem_cons h,q7u,if_pos he]
theorem k3w{ps:List (List Td)}{k:Nat}{A:Int}(h:k<ps.length)(he:q0b ps[k]=0)(h2:opT ps[k]=9/\A=9):q7u A k (ps.drop k)=(k,2):=by
 rw[List.drop_eq_getElem_cons h,q7u,if_neg (by simp[he]),if_pos h2]
theorem z7s{ps:List (List Td)}{k:Nat}{A:Int}(h:k<ps.length)(he:q0b ps[k]=0)(h2:¬(opT ps[k]=9/\A=9)):q7u A k (ps.drop k)=q7u (q7f ps (k+1)) (k+1) (ps.drop (k+1)):=by
 rw[List.drop_eq_getElem_cons h,q7u,if_neg (by simp[he]),if_neg h2,z2u h]
def hdD(ps:List (Td × Tr)):Tr:=match ps with
 | p::_=>p.2
 | []=>wdD []
def q0w(t:List Td):Tr:=match j5f t with
 | .nil=>wdD []
 | .cons x k _=>stD x (hdD k.D)
theorem k0n{x:Td}{F:Fo}(h:F.ok)(hl:F.len=kdT x):q0w (x::F.N)=stD x (hdD F.D):=by
 rw[q0w,y1s h hl]
structure g1g(t:List Td):Prop where
 f:(q0w t).flat=some (q2p t)
 w:(q0w t).Wf
 e:(q0w t).noE
 n:(q0w t).N.length<=900
theorem y4x{F:Fo}(hl:F.len=1):∃y k,F=.cons y k .nil:=by
 cases F with
 | nil=>cases hl
 | cons y k n=>cases n with
  | nil=>exact⟨y,k,rfl⟩
  | cons _ _ _=>simp[Fo.len]at hl
theorem k0p{t:List Td}(h:q0b t=0)(h9:opT t≠9):∃(x y:Td)(k:Fo),t=x::(Fo.cons y k .nil).N/\(Fo.cons y k .nil).ok/\(Fo.cons y k .nil).exs/\(Fo.cons y k .nil).len=kdT x/\((x.op=7/\q0o x.tx=true/\x.n=0)\/(x.op=8/\x.tx=⟨#[]⟩/\x.n=0)):=by
 rcases q5y h with⟨x,rfl,A,_⟩|⟨x,F,rfl,C,B,D,E⟩
 ·exact absurd A h9
 ·obtain⟨y,k,rfl⟩:=y4x D;refine⟨x,y,k,rfl,C,B,?_,E⟩;rw[D];unfold kdT;rcases E with⟨A,_⟩|⟨A,_⟩<;>rw[A]<;>rfl
theorem z6x{t:List Td}(h:q0b t=0)(h9:opT t≠9):g1g t:=by
 have J:=(q3k h).1;obtain⟨x,y,k,rfl,E,I,U,Z⟩:=k0p h h9;have X:=z8y _ E I;have Y:=j6g _ E I;have W:=k5o (.cons y k .nil);have V:=z6v (.cons y k .nil);have B:q0w (x::(Fo.cons y k .nil).N)=stD x (q0r y k.D):=k0n E U;have S:q2p (x::(Fo.cons y k .nil).N)=stX x (Fo.cons y k .nil).R:=(z5r E U).1
 have M:(q0r y k.D).flat=some (q0k y k.R).tx:=by
  cases X with
  | cons h1 _=>exact h1.2
 have H:(q0r y k.D).Wf:=Y (y,q0r y k.D) (by simp[Fo.D]);have G:(q0r y k.D).noE:=W (y,q0r y k.D) (by simp[Fo.D])
 have O:(q0r y k.D).N.length+5<=20*(Fo.cons y k .nil).N.length:=by
  rw[Fo.D,q2k]at V
  have:z4d Fo.nil.D=0:=rfl
  exact Nat.le_trans (Nat.le_add_right _ _) V
 simp only[length_cons]at J;generalize q0r y k.D=D at B M H G O;have K:(wdD [59]).Wf:=z3u (by decide) (by decide) (by decide);have Q:(1:Int)≠4:=by decide
 have b:(2:Int)≠4:=by decide
 rcases Z with⟨L,P,_⟩|⟨L,_,_⟩
 ·obtain⟨d,e,a⟩:=z5h P;have C:stD x D=grD (twD (wdD ([108,101,116,32]++btL x.tx++[32,61])) (dpD (twD blD (twD D (wdD [59]))))):=by rw[stD,if_pos L]
  refine⟨?_,?_,?_,?_⟩
  ·rw[B,S,C,v5k,q6x (z4x _) (by rw[v5j];exact q6x v5i (q6x M (z4x _)))];simp[stX,L,hdT,Fo.R]
  ·rw[B,C];refine v9e (q7n (z3u (by simp) (by simp only[length_append,length_cons,length_nil];omega) fun c A=>?_) (v9d (q7n v9c (q7n H K))));rcases List.mem_append.1 A with A|A
   ·rcases List.mem_append.1 A with A|A
    ·simp at A;rcases A with rfl|rfl|rfl|rfl<;>decide
    ·exact a c A
   ·simp at A;rcases A with rfl|rfl<;>decide
  ·rw[B,C];exact⟨rfl,Q,rfl,b,rfl,G,Q⟩
  ·rw[B,C];simp only[Tr.N,length_cons,length_append,length_nil];omega
 ·have C:stD x D=twD D (wdD [59]):=by rw[stD,if_neg (by omega)]
  refine⟨?_,?_,?_,?_⟩
  ·rw[B,S,C,q6x M (z4x _)];simp[stX,L,hdT,Fo.R]
  ·rw[B,C];exact q7n H K
  ·rw[B,C];exact⟨rfl,G,Q⟩
  ·rw[B,C];simp only[Tr.N,length_cons,length_append,length_nil];omega
def y3s(a b:UInt8):Bool:=(q2a a&&q2a b)||(q1x a&&q1x b)
def k4e(b:UInt8):Bool:=!q2a b&&!q1x b
def k5t(s rest:List UInt8):Prop:=∀a b,s.getLast?=some a->rest.head?=some b->y3s a b=false
theorem j1u{a b:UInt8}(h:k4e b=true):y3s a b=false:=by
 simp only[k4e,Bool.and_eq_true,Bool.not_eq_true']at h;simp[y3s,h.1,h.2]
theorem j7l{a b:UInt8}(h:k4e a=true):y3s a b=false:=by
 simp only[k4e,Bool.and_eq_true,Bool.not_eq_true']at h;simp[y3s,h.1,h.2]
theorem q3g{s:List UInt8}{b:UInt8}(h:k4e b=true)(r:List UInt8):k5t s (b::r):=fun _ c _ hc=>by
 simp only[List.head?_cons,Option.some.injEq]at hc;subst hc;exact j1u h
theorem j1n{a:UInt8}(h:k4e a=true)(s r:List UInt8):k5t (s++[a]) r:=fun c _ hc _=>by
 simp only[List.getLast?_append,List.getLast?_singleton,Option.some_or,Option.some.injEq]at hc;subst hc;exact j7l h
def Lx(s:List UInt8)(ws:List Wd):Prop:=∀rest i,k5t s rest->(lxW (s++rest) i).map (·.2)=ws++(lxW rest (i+s.length)).map (·.2)/\lxF (s++rest) i=lxF rest (i+s.length)
theorem Lx.nil:Lx [] []:=fun rest i _=>by simp
theorem Lx.app{s t:List UInt8}{ws us:List Wd}(h1:Lx s ws)(h2:Lx t us)(h:k5t s t):Lx (s++t) (ws++us):=by
 intro A i D
 have E:k5t s (t++A):=by
  intro a b B C;cases t with
  | nil=>
   rw[append_nil]at D;exact D a b B C
  | cons c t=>exact h a b B C
 have G:k5t t A:=by
  intro a b B C;refine D a b ?_ C;rw[List.getLast?_append,B];rfl
 obtain⟨H,I⟩:=h1 (t++A) i E;obtain⟨J,K⟩:=h2 A (i+s.length) G;rw[append_assoc,H,I,J,K,length_append,Nat.add_assoc];exact⟨by simp,rfl⟩
theorem Lx.blank{c:UInt8}(h:spB c=true):Lx [c] []:=by
 intro A i _;rw[cons_append,nil_append,lxW,lxF,k3e A i h];exact⟨by simp[lxW],by simp[lxF]⟩
theorem Lx.tok{c:UInt8}{r:List UInt8}(hs:spB c=false)(h:∀rest,k5t (c::r) rest->q4y (c::r++rest)=true/\q0x (c::r++rest)=(c::r).length)(ht:q1k (c::r)=c::r):Lx (c::r) [c::r]:=by
 intro rest i E;obtain⟨B,A⟩:=h rest E;rw[cons_append]at B A;have C:(c::(r++rest)).drop (q0x (c::(r++rest)))=rest:=by rw[A,<-cons_append,List.drop_left]
 have D:tkW (c::(r++rest))=c::r:=by rw[tkW,A,<-cons_append,List.take_left,ht]
 rw[cons_append,lxW,lxF,z7m i hs B,C,D,A];exact⟨rfl,rfl⟩
theorem j0m{p:UInt8->Bool}:∀(r rest:List UInt8),(∀x∈r,p x=true)->(∀b,rest.head?=some b->p b=false)->(r++rest).takeWhile p=r
 | [],rest,_,h=>by
  cases rest with
  | nil=>rfl
  | cons b t=>rw[nil_append,List.takeWhile_cons,if_neg (by simp[h b rfl])]
 | a::r,rest,h,h2=>by
  rw[cons_append,List.takeWhile_cons,if_pos (h a (by simp)),j0m r rest (fun x hx=>h x (by simp[hx])) h2]
theorem k8w{s:List UInt8}(h:s≠[]):∃a,s.getLast?=some a/\a∈s:=by
 refine⟨s.getLast h,List.getLast?_eq_some_getLast h,List.getLast_mem h⟩
theorem v2t{p:UInt8->Bool}(hp:∀x,p x=true->x≠32){l:List UInt8}(h:∀x∈l,p x=true):q1k l=l:=by
 rcases List.eq_nil_or_concat l with rfl|⟨v,c,rfl⟩
 ·rfl
 ·rw[List.concat_eq_append]at h⊢;exact q1u v (hp c (h c (by simp)))
theorem y8i{c:UInt8}(h:q2a c=true):spB c=false:=by
 have A:c≠32:=k3a h;have B:c≠10:=by rintro rfl;revert h;decide
 simp[spB,A,B]
theorem y7u{c:UInt8}(h:q1x c=true):spB c=false:=by
 have A:c≠32:=k2f h;have B:c≠10:=by rintro rfl;revert h;decide
 simp[spB,A,B]
theorem Lx.name{w:Wd}(h:∀x∈w,q2a x=true)(h0:w≠[])(h8:w.length<=8):Lx w [w]:=by
 cases w with
 | nil=>exact absurd rfl h0
 | cons c r=>
  have B:=h c (by simp);refine Lx.tok (y8i B) (fun rest hr=>?_) (v2t (fun _=>k3a) h);obtain⟨a,C,D⟩:=k8w (s:=c::r) (by simp)
  have A:∀b,rest.head?=some b->q2a b=false:=fun b A=>by
   have:=hr a b C A
   simp only[y3s,h a D,Bool.true_and,Bool.or_eq_false_iff]at this;exact this.1
  have e:=j0m r rest (fun x hx=>h x (by simp[hx])) A;rw[cons_append];simp only[q4y,q0x,B,if_true,e];simp only[length_cons]at h8⊢;exact⟨decide_eq_true h8,trivial⟩
theorem Lx.num(n:Nat)(hn:n<=999999):Lx (q3o n) [q3o n]:=by
 have B:=z8z n;have D:=z0s 5 n (by omega)
 have K:∀c r,q3o n=c::r->(c != 48||r.length==0)=true:=fun c r e=>by
  rcases Nat.eq_zero_or_pos n with h|h
  ·subst h;rw[q3o,dif_pos (by omega)]at e;cases e;rfl
  ·obtain⟨d,z,H,A⟩:=j6h n h;rw[e,List.cons.injEq]at H;rw[H.1];simp[A]
 cases A:q3o n with
 | nil=>exact absurd A (k5p n)
 | cons c r=>
  rw[A]at B D;have G:=B c (by simp);have C:q2a c=false:=z9h G;refine Lx.tok (y7u G) (fun rest hr=>?_) (v2t (fun _=>k2f) B);obtain⟨a,I,J⟩:=k8w (s:=c::r) (by simp)
  have E:∀b,rest.head?=some b->q1x b=false:=fun b E=>by
   have:=hr a b I E
   simp only[y3s,B a J,Bool.true_and,Bool.or_eq_false_iff]at this;exact this.2
  have e:=j0m r rest (fun x hx=>B x (by simp[hx])) E;rw[cons_append];simp only[q4y,q0x,G,C,if_true,Bool.false_eq_true,if_false,e];simp only[length_cons]at D⊢;exact⟨by rw[decide_eq_true D,K c r A];rfl,trivial⟩
theorem Lx.mark{c:UInt8}(h:y6p c=true):Lx [c] [[c]]:=by
 have G:spB c=false/\q2a c=false/\q1x c=false/\(c==35)=false/\c≠32:=by
  simp only[y6p,k6i,List.any_cons,List.any_nil,Bool.or_false,Bool.or_eq_true,beq_iff_eq]at h;rcases h with h|h|h|h|h|h|h|h|h<;>(subst h;decide)
 obtain⟨A,B,C,D,E⟩:=G;refine Lx.tok A (fun rest _=>?_) (q1u [] E);rw[cons_append];simp only[q4y,q0x,B,C,D,Bool.false_eq_true,if_false];exact⟨h,rfl⟩
theorem Lx.pre{c:UInt8}{t:List UInt8}{ws us:List Wd}(h1:Lx [c] ws)(hc:k4e c=true)(h2:Lx t us):Lx (c::t) (ws++us):=
 Lx.app h1 h2 (j1n hc [] t)
theorem Lx.post{c:UInt8}{s:List UInt8}{ws us:List Wd}(h1:Lx s ws)(hc:k4e c=true)(h2:Lx [c] us):Lx (s++[c]) (ws++us):=
 Lx.app h1 h2 (q3g hc [])
theorem k9d{t:Tn}(h:Lx t.tx t.tk)(l:Nat):Lx (brx l t) (brk l t):=by
 unfold brx brk
 split
 ·exact Lx.pre (Lx.mark (c:=40) rfl) rfl (Lx.post h rfl (Lx.mark (c:=41) rfl))
 ·exact h
theorem y8j:∀ks:List Tn,(∀t∈ks,Lx t.tx t.tk)->Lx (cmx ks) (cmk ks)
 | [],_=>Lx.nil
 | [t],h=>by simpa[cmx,cmk]using h t (by simp)
 | t::u::r,h=>by
  have ih:=y8j (u::r) fun x hx=>h x (by simp[hx])
  rw[cmx,cmk]
  have h3:Lx (44::32::cmx (u::r)) ([44]::cmk (u::r)):=by
   have:=Lx.pre (Lx.mark (c:=44) rfl) rfl (Lx.pre (Lx.blank (c:=32) rfl) rfl ih)
   simpa using this
  exact Lx.app (h t (by simp)) h3 (q3g rfl _)
theorem j8t:∀F:Fo,F.ok->F.exs->∀t∈F.R,Lx t.tx t.tk
 | .nil,_,_,t,ht=>by cases ht
 | .cons x k n,hok,hex,t,ht=>by
  have hexk:k.exs:=fun y hy=>hex y (by simp[Fo.N,hy])
  have hexn:n.exs:=fun y hy=>hex y (by simp[Fo.N,hy])
  have ihk:=j8t k hok.2.1 hexk;rw[Fo.R]at ht;rcases List.mem_cons.1 ht with rfl|ht
  ·have hlen:k.R.length=kdT x:=by rw[z3a];exact hok.1
   have M:=y8j k.R ihk;rcases q2c (hex x (by simp[Fo.N]))with⟨A,J,E,K,H⟩|⟨A,I,E,H⟩|⟨A,I,E,K,H⟩|⟨A,J,E,K,H⟩|⟨A,J,E,H⟩|⟨A,J,E,H⟩
   ·have B:(q0k x k.R).tx=q3o x.n.toNat:=by simp[q0k,q2z,A]
    have C:(q0k x k.R).tk=[q3o x.n.toNat]:=by simp[q0k,j3o,A]
    rw[B,C];exact Lx.num _ (by omega)
   ·obtain⟨c,z,e,_,_,L,D⟩:=q9a (w:=btL x.tx) I;have B:(q0k x k.R).tx=btL x.tx:=by simp[q0k,q2z,A]
    have C:(q0k x k.R).tk=[btL x.tx]:=by simp[q0k,j3o,A]
    rw[B,C];exact Lx.name D (by rw[e];simp) L
   ·obtain⟨c,z,e,_,_,L,D⟩:=q9a (w:=btL x.tx) I;have B:(q0k x k.R).tx=btL x.tx++40::(cmx k.R++[41]):=by simp[q0k,q2z,A]
    have C:(q0k x k.R).tk=[btL x.tx]++([[40]]++(cmk k.R++[[41]])):=by simp[q0k,j3o,A]
    rw[B,C];exact Lx.app (Lx.name D (by rw[e];simp) L) (Lx.pre (Lx.mark (c:=40) rfl) rfl (Lx.post M rfl (Lx.mark (c:=41) rfl))) (q3g rfl _)
   ·have B:(q0k x k.R).tx=91::(cmx k.R++[93]):=by simp[q0k,q2z,A]
    have C:(q0k x k.R).tk=[[91]]++(cmk k.R++[[93]]):=by simp[q0k,j3o,A]
    rw[B,C];exact Lx.pre (Lx.mark (c:=91) rfl) rfl (Lx.post M rfl (Lx.mark (c:=93) rfl))
   ·obtain⟨a,b,G⟩:=y6m (hlen.trans H);rw[G]at ihk⊢;have B:(q0k x [a,b]).tx=brx 0 a++32::43::32::brx 1 b:=by simp[q0k,q2z,two2,A]
    have C:(q0k x [a,b]).tk=brk 0 a++([]++([[43]]++([]++brk 1 b))):=by simp[q0k,j3o,two2,A]
    rw[B,C];exact Lx.app (k9d (ihk a (by simp)) 0) (Lx.pre (Lx.blank (c:=32) rfl) rfl (Lx.pre (Lx.mark (c:=43) rfl) rfl (Lx.pre (Lx.blank (c:=32) rfl) rfl (k9d (ihk b (by simp)) 1)))) (q3g rfl _)
   ·obtain⟨a,b,G⟩:=y6m (hlen.trans H);rw[G]at ihk⊢;have B:(q0k x [a,b]).tx=brx 1 a++32::42::32::brx 2 b:=by simp[q0k,q2z,two2,A]
    have C:(q0k x [a,b]).tk=brk 1 a++([]++([[42]]++([]++brk 2 b))):=by simp[q0k,j3o,two2,A]
    rw[B,C];exact Lx.app (k9d (ihk a (by simp)) 1) (Lx.pre (Lx.blank (c:=32) rfl) rfl (Lx.pre (Lx.mark (c:=42) rfl) rfl (Lx.pre (Lx.blank (c:=32) rfl) rfl (k9d (ihk b (by simp)) 2)))) (q3g rfl _)
  ·exact j8t n hok.2.2 hexn t ht
def q6i(t l:Wd):Wd:=(if l≠[]/\t≠[]then t++[32]else t)++l
def ntx(ws:List Wd):Wd:=ws.foldl q6i []
def q1c(w:Wd):Wd:=ntx (q0d (w.drop 1))
def jb:List Wd->Wd
 | []=>[]
 | w::r=>w++match r with
  | []=>[]
  | _::_=>32::jb r
theorem k2l:∀s:List UInt8,jb (q4x s)=s
 | []=>rfl
 | c::r=>by
  have ih:=k2l r;by_cases hc:c=32
  ·subst hc;rw[q5d];cases hs:q4x r with
   | nil=>exact absurd hs (q8j r)
   | cons w ws=>
    rw[hs]at ih;simp[jb,<-ih]
  ·cases hs:q4x r with
   | nil=>exact absurd hs (q8j r)
   | cons w ws=>
    rw[q5e hc hs];rw[hs]at ih;rw[<-ih];simp[jb]
theorem j7i:∀(ws:List Wd)(t:Wd),(∀w∈ws,w≠[])->t≠[]->ws.foldl q6i t=t++(match ws with|[]=>[]|_::_=>32::jb ws)
 | [],t,_,_=>by simp
 | w::r,t,h,ht=>by
  have hw:=h w (by simp);have e:q6i t w=t++32::w:=by simp[q6i,hw,ht]
  rw[foldl_cons,e,j7i r _ (fun x hx=>h x (by simp[hx])) (by simp)];cases r with
  | nil=>simp[jb]
  | cons u r=>simp[jb]
theorem y1f{ws:List Wd}(h:∀w∈ws,w≠[]):ntx ws=jb ws:=by
 cases ws with
 | nil=>rfl
 | cons w r=>
  have A:=h w (by simp);have e:q6i [] w=w:=by simp[q6i]
  rw[ntx,foldl_cons,e,j7i r w (fun x hx=>h x (by simp[hx])) A];cases r<;>simp[jb]
theorem v0h(ws:List Wd):ntx ([]::ws)=ntx ws:=by
 have e:q6i [] []=[]:=by simp[q6i]
 rw[ntx,foldl_cons,e];rfl
theorem k0a{tx:ByteArray}(h:q2t tx=0):(q0d (btL tx)).length<=60/\∀w∈q0d (btL tx),w≠[]/\w.length<=20/\∀b∈w,q7v b=true:=by
 obtain⟨B,C⟩:=z0g h;refine⟨by simpa using B,fun w hw=>?_⟩;have A:=C (wbS w) (List.mem_map.2 ⟨w,hw,rfl⟩);have D:(wbS w).size=w.length:=by rw[<-q0c];rfl
 simp only[okW,Bool.and_eq_true,decide_eq_true_eq,List.all_eq_true,D]at A;refine⟨fun e=>?_,A.1.2,A.2⟩;rw[e]at A;simp at A
def j4b(tx:ByteArray):Wd:=if tx.size=0 then [35]else [35,32]++btL tx
theorem z1i{tx:ByteArray}:tx.size=0↔btL tx=[]:=by
 rw[<-q0c];exact List.length_eq_zero_iff
theorem j2i{tx:ByteArray}(h:q2t tx=0):q1c (j4b tx)=btL tx:=by
 obtain⟨_,E⟩:=k0a h;unfold j4b q1c;by_cases A:tx.size=0
 ·rw[if_pos A,z1i.1 A];rfl
 ·rw[if_neg A];have B:btL tx≠[]:=fun e=>A (z1i.2 e)
  have C:([35,32]++btL tx).drop 1=32::btL tx:=rfl;have D:q0d (btL tx)=q4x (btL tx):=by rw[q0d,if_neg B]
  rw[C,q0d,if_neg (by simp),q5d,v0h,y1f (fun w hw=>(E w (by rw[D];exact hw)).1),k2l]
theorem z9n{p:UInt8->Bool}(A:p 32=true):∀ws:List Wd,(∀w∈ws,∀b∈w,p b=true)->∀b∈jb ws,p b=true
 | [],_,b,hb=>by cases hb
 | [w],h,b,hb=>by
  have e:jb [w]=w:=by simp[jb]
  rw[e]at hb;exact h w (by simp) b hb
 | w::u::r,h,b,hb=>by
  have e:jb (w::u::r)=w++32::jb (u::r):=by simp[jb]
  rw[e]at hb;rcases List.mem_append.1 hb with hb|hb
  ·exact h w (by simp) b hb
  ·rcases List.mem_cons.1 hb with rfl|hb
   ·exact A
   ·exact z9n A (u::r) (fun x hx=>h x (by simp[hx])) b hb
theorem j7p:∀(ws:List Wd),ws≠[]->(∀w∈ws,w≠[])->∃v c,jb ws=v++[c]/\∃w∈ws,c∈w
 | [],h,_=>absurd rfl h
 | [w],_,h=>by
  have hw:=h w (by simp);rcases List.eq_nil_or_concat w with e|⟨v,c,e⟩
  ·exact absurd e hw
  ·exact⟨v,c,by rw[jb,e];simp,w,by simp,by rw[e];simp⟩
 | w::u::r,_,h=>by
  obtain⟨v,c,e,x,hx,hc⟩:=j7p (u::r) (by simp) fun y hy=>h y (by simp[hy])
  exact⟨w++32::v,c,by rw[jb];simp[e],x,by simp[hx],hc⟩
theorem v6z{tx:ByteArray}(h:q2t tx=0):q3l (j4b tx):=by
 obtain⟨_,H⟩:=k0a h;unfold j4b;by_cases I:tx.size=0
 ·rw[if_pos I];exact⟨35,[],rfl,rfl,rfl,rfl,rfl⟩
 ·rw[if_neg I];have J:btL tx≠[]:=fun e=>I (z1i.2 e)
  have M:q0d (btL tx)=q4x (btL tx):=by rw[q0d,if_neg J]
  rw[M]at H;have L:=k2l (btL tx)
  have D:∀b∈btL tx,prB b=true/\nlB b=true:=by
   intro b B;rw[<-L]at B
   have:=z9n (p:=fun b=>prB b&&nlB b) rfl (q4x (btL tx)) (fun w G b B=>by
    have K:=(H w G).2.2 b B;simp only[q7v,Bool.and_eq_true,decide_eq_true_eq]at K;simp only[prB,nlB,Bool.and_eq_true,decide_eq_true_eq,bne_iff_ne,ne_eq];refine⟨by omega,?_⟩;rintro rfl
    simp at K) b B
   simpa using this
  have E:(32::btL tx).takeWhile nlB=32::btL tx:=by
   have:=j0m (p:=nlB) (32::btL tx) [] (fun x A=>by
    rcases List.mem_cons.1 A with rfl|A
    ·rfl
    ·exact(D x A).2) (fun b B=>by cases B)
   rw[append_nil]at this;exact this
  refine⟨35,32::btL tx,rfl,rfl,?_,?_,?_⟩
  ·simp only[q4y];rw[E];simp only[q2a,q1x];show List.all _ _=true;rw[List.all_eq_true];intro x A;rcases List.mem_cons.1 A with rfl|A
   ·rfl
   ·exact(D x A).1
  ·simp only[q0x];rw[E];rfl
  ·obtain⟨v,c,e,w,G,O⟩:=j7p (q4x (btL tx)) (q8j _) (fun w G=>(H w G).1);rw[L]at e
   have C:c≠32:=by
    rintro rfl
    have:=(H w G).2.2 32 O
    revert this;decide
   have N:(35::32::btL tx)=(35::32::v)++[c]:=by rw[e];rfl
   rw[N];exact q1u _ C
inductive Rp where
 | ok (ps:List (List Td)):Rp
 | bad (rest:List Wd):Rp
abbrev q9n:Wd:=[108,101,116]
def ntT(t:Wd):Td:=⟨9,wbS t,0⟩
def j2b(w:Wd):Td:=⟨7,wbS w,0⟩
def doT:Td:=⟨8,⟨#[]⟩,0⟩
def q5u(acc:List (List Td)):Wd:=match acc.getLast? with
 | some (x::_)=>btL x.tx
 | _=>[]
def z8n(pv:Bool)(acc:List (List Td))(t:Wd):List (List Td):=if pv then acc.dropLast++[[ntT (q6i (q5u acc) t)]]else acc++[[ntT t]]
inductive PG:Bool->List (List Td)->List Wd->Rp->Prop where
 | done {pv acc}:PG pv acc [] (.ok acc)
 | note {pv acc w ts r}:w.headD 0=35->PG true (z8n pv acc (q1c w)) ts r->PG pv acc (w::ts) r
 | letN {pv acc ts}:(∀w,ts.head?=some w->nmW w=false)->PG pv acc (q9n::ts) (.bad ts)
 | letE {pv acc nm ts}:nmW nm=true->ts.head?≠some [61]->PG pv acc (q9n::nm::ts) (.bad ts)
 | letB {pv acc nm ts u}:nmW nm=true->PR (.level 0) ts (.bad u)->PG pv acc (q9n::nm::[61]::ts) (.bad u)
 | letX {pv acc nm ts m ns u}:nmW nm=true->PR (.level 0) ts (.ok m ns u)->u.head?≠some [59]->PG pv acc (q9n::nm::[61]::ts) (.bad u)
 | letO {pv acc nm ts m ns u r}:nmW nm=true->PR (.level 0) ts (.ok m ns ([59]::u))->PG false (acc++[j2b nm::ns]) u r->PG pv acc (q9n::nm::[61]::ts) r
 | doB {pv acc w ts u}:w.headD 0≠35->w≠q9n->PR (.level 0) (w::ts) (.bad u)->PG pv acc (w::ts) (.bad u)
 | doX {pv acc w ts m ns u}:w.headD 0≠35->w≠q9n->PR (.level 0) (w::ts) (.ok m ns u)->u.head?≠some [59]->PG pv acc (w::ts) (.bad u)
 | doO {pv acc w ts m ns u r}:w.headD 0≠35->w≠q9n->PR (.level 0) (w::ts) (.ok m ns ([59]::u))->PG false (acc++[doT::ns]) u r->PG pv acc (w::ts) r
theorem q9o:q9n.headD 0≠35:=by decide
theorem q9q{pv:Bool}{B:List (List Td)}{ts:List Wd}{r:Rp}(h:PG pv B ts r):∀{r':Rp},PG pv B ts r'->r=r':=by
 induction h with
 | done=>intro r' A;cases A;rfl
 | note h0 _ ih=>intro r' A;cases A with
  | note _ h2=>exact ih h2
  | letN=>exact absurd h0 q9o
  | letE=>exact absurd h0 q9o
  | letB=>exact absurd h0 q9o
  | letX=>exact absurd h0 q9o
  | letO=>exact absurd h0 q9o
  | doB h2=>exact absurd h0 h2
  | doX h2=>exact absurd h0 h2
  | doO h2=>exact absurd h0 h2
 | letN h0=>intro r' A;cases A with
  | note h2=>exact absurd h2 q9o
  | letN=>rfl
  | letE h2=>rw[h0 _ rfl]at h2;cases h2
  | letB h2=>rw[h0 _ rfl]at h2;cases h2
  | letX h2=>rw[h0 _ rfl]at h2;cases h2
  | letO h2=>rw[h0 _ rfl]at h2;cases h2
  | doB _ h2=>exact absurd rfl h2
  | doX _ h2=>exact absurd rfl h2
  | doO _ h2=>exact absurd rfl h2
 | letE h0 h1=>intro r' A;cases A with
  | note h2=>exact absurd h2 q9o
  | letN h2=>rw[h2 _ rfl]at h0;cases h0
  | letE=>rfl
  | letB=>simp at h1
  | letX=>simp at h1
  | letO=>simp at h1
  | doB _ h2=>exact absurd rfl h2
  | doX _ h2=>exact absurd rfl h2
  | doO _ h2=>exact absurd rfl h2
 | letB h0 h1=>intro r' A;cases A with
  | note h2=>exact absurd h2 q9o
  | letN h2=>rw[h2 _ rfl]at h0;cases h0
  | letE _ h2=>simp at h2
  | letB _ h2=>cases q3i h1 h2;rfl
  | letX _ h2=>cases q3i h1 h2
  | letO _ h2=>cases q3i h1 h2
  | doB _ h2=>exact absurd rfl h2
  | doX _ h2=>exact absurd rfl h2
  | doO _ h2=>exact absurd rfl h2
 | letX h0 h1 h3=>intro r' A;cases A with
  | note h2=>exact absurd h2 q9o
  | letN h2=>rw[h2 _ rfl]at h0;cases h0
  | letE _ h2=>simp at h2
  | letB _ h2=>cases q3i h1 h2
  | letX _ h2 _=>cases q3i h1 h2;rfl
  | letO _ h2 _=>cases q3i h1 h2;simp at h3
  | doB _ h2=>exact absurd rfl h2
  | doX _ h2=>exact absurd rfl h2
  | doO _ h2=>exact absurd rfl h2
 | letO h0 h1 _ ih=>intro r' A;cases A with
  | note h2=>exact absurd h2 q9o
  | letN h2=>rw[h2 _ rfl]at h0;cases h0
  | letE _ h2=>simp at h2
  | letB _ h2=>cases q3i h1 h2
  | letX _ h2 h4=>cases q3i h1 h2;simp at h4
  | letO _ h2 h4=>cases q3i h1 h2;exact ih h4
  | doB _ h2=>exact absurd rfl h2
  | doX _ h2=>exact absurd rfl h2
  | doO _ h2=>exact absurd rfl h2
 | doB h0 h1 h3=>intro r' A;cases A with
  | note h2=>exact absurd h2 h0
  | letN=>exact absurd rfl h1
  | letE=>exact absurd rfl h1
  | letB=>exact absurd rfl h1
  | letX=>exact absurd rfl h1
  | letO=>exact absurd rfl h1
  | doB _ _ h2=>cases q3i h3 h2;rfl
  | doX _ _ h2=>cases q3i h3 h2
  | doO _ _ h2=>cases q3i h3 h2
 | doX h0 h1 h3 h4=>intro r' A;cases A with
  | note h2=>exact absurd h2 h0
  | letN=>exact absurd rfl h1
  | letE=>exact absurd rfl h1
  | letB=>exact absurd rfl h1
  | letX=>exact absurd rfl h1
  | letO=>exact absurd rfl h1
  | doB _ _ h2=>cases q3i h3 h2
  | doX _ _ h2 _=>cases q3i h3 h2;rfl
  | doO _ _ h2 _=>cases q3i h3 h2;simp at h4
 | doO h0 h1 h3 _ ih=>intro r' A;cases A with
  | note h2=>exact absurd h2 h0
  | letN=>exact absurd rfl h1
  | letE=>exact absurd rfl h1
  | letB=>exact absurd rfl h1
  | letX=>exact absurd rfl h1
  | letO=>exact absurd rfl h1
  | doB _ _ h2=>cases q3i h3 h2
  | doX _ _ h2 h4=>cases q3i h3 h2;simp at h4
  | doO _ _ h2 h4=>cases q3i h3 h2;exact ih h4
def okP:Int->List (List Td)->Prop
 | _,[]=>True
 | prev,t::r=>q0b t=0/\¬(opT t=9/\prev=9)/\okP (opT t) r
theorem y1j:∀(ps:List (List Td))(prev:Int)(k:Nat),(q7u prev k ps).2=0->okP prev ps
 | [],_,_,_=>trivial
 | t::r,prev,k,h=>by
  rw[q7u]at h
  split at h
  ·rename_i h1;exact absurd h h1
  ·rename_i h1
   split at h
   ·cases h
   ·rename_i h2;exact⟨by omega,h2,y1j r _ _ h⟩
theorem k0i{ps:List (List Td)}(h:(q0z ps).2=0):ps.length<=20/\okP 0 ps:=by
 unfold q0z at h
 split at h
 ·cases h
 ·exact⟨by omega,y1j ps 0 0 h⟩
theorem y4p{t:List Td}(h:q0b t=0)(rest:List UInt8)(i:Nat):(lxW (q2p t++10::rest) i).map (·.2)=j3i t++(lxW rest (i+(q2p t).length+1)).map (·.2)/\lxF (q2p t++10::rest) i=lxF rest (i+(q2p t).length+1):=by
 have P:∀{s:List UInt8}{ws:List Wd},Lx s ws->(lxW (s++10::rest) i).map (·.2)=ws++(lxW rest (i+s.length+1)).map (·.2)/\lxF (s++10::rest) i=lxF rest (i+s.length+1):=fun{s ws}I=>by
  obtain⟨Y,Z⟩:=I (10::rest) i (q3g rfl rest);have e:lx (10::rest) (i+s.length)=lx rest (i+s.length+1):=k3e _ _ rfl;rw[Y,Z,lxW,lxF,e];exact⟨rfl,rfl⟩
 rcases q5y h with⟨x,rfl,A,_,O⟩|⟨x,F,rfl,E,K,I,X⟩
 ·have H:q2p [x]=j4b x.tx/\j3i [x]=[j4b x.tx]:=by
   have g:(Fo.nil).len=kdT x:=by unfold kdT;rw[A];rfl
   have:=z5r (x:=x) (F:=.nil) trivial g
   rw[show([x]:List Td)=x::Fo.nil.N from rfl,this.1,this.2];simp[stX,stK,A,j4b]
  have J:=y8k (v6z O) rest i;rw[H.1,H.2,lxW,lxF,J];exact⟨rfl,rfl⟩
 ·have L:F.len=kdT x:=by
   rw[I];unfold kdT;rcases X with⟨h,_⟩|⟨h,_⟩<;>rw[h]<;>rfl
  obtain⟨H,J⟩:=z5r E L;have S:F.R.length=1:=by rw[z3a];exact I
  obtain⟨t,W⟩:∃t,F.R=[t]:=by
   match F.R,S with
   | [t],_=>exact⟨t,rfl⟩
  have M:=j8t F E K t (by rw[W];simp);rw[H,J,W];refine P ?_;have G:=Lx.post M (c:=59) rfl (Lx.mark (c:=59) rfl);rcases X with⟨A,Q,_⟩|⟨A,_,_⟩
  ·obtain⟨c,z,e,_,_,f,C⟩:=q9a (w:=btL x.tx) Q;have B:=Lx.name C (by rw[e];simp) f;have D:Lx q9n [q9n]:=Lx.name (by decide) (by decide) (by decide);have a:Lx (32::61::32::(t.tx++[59])) ([]++([[61]]++([]++(t.tk++[[59]])))):=Lx.pre (Lx.blank (c:=32) rfl) rfl (Lx.pre (Lx.mark (c:=61) rfl) rfl (Lx.pre (Lx.blank (c:=32) rfl) rfl G));have b:=Lx.app B a (q3g rfl _);have d:=Lx.app D (Lx.pre (Lx.blank (c:=32) rfl) rfl b) (q3g rfl _);have U:stX x [t]=q9n++32::(btL x.tx++32::61::32::(t.tx++[59])):=by simp[stX,A,hdT]
   have V:stK x [t]=[q9n]++([]++([btL x.tx]++([]++([[61]]++([]++(t.tk++[[59]])))))):=by simp[stK,A,hdK]
   rw[U,V];exact d
  ·have U:stX x [t]=t.tx++[59]:=by simp[stX,A,hdT]
   have V:stK x [t]=t.tk++[[59]]:=by simp[stK,A,hdK]
   rw[U,V];exact G
theorem k6h:∀(ps:List (List Td))(prev:Int)(i:Nat),okP prev ps->(lxW (q2w ps) i).map (·.2)=ps.flatMap j3i/\lxF (q2w ps) i=none
 | [],_,i,_=>by
  rw[show q2w []=[]from rfl,lxW,lxF,z3h];exact⟨rfl,rfl⟩
 | t::r,prev,i,h=>by
  have e:q2w (t::r)=q2p t++10::q2w r:=by rw[z7r];simp
  obtain⟨A,B⟩:=y4p h.1 (q2w r) i;obtain⟨C,D⟩:=k6h r _ (i+(q2p t).length+1) h.2.2;rw[e,A,B,C,D];exact⟨by simp,rfl⟩
theorem k0h:∀(ps:List (List Td))(prev:Int)(pv:Bool)(acc:List (List Td)),okP prev ps->(pv=true->prev=9)->PG pv acc (ps.flatMap j3i) (.ok (acc++ps))
 | [],_,_,acc,_,_=>by simpa using PG.done
 | t::r,prev,pv,acc,h,hpv=>by
  have ih:∀pv',(pv'=true->opT t=9)->PG pv' (acc++[t]) (r.flatMap j3i) (.ok (acc++[t]++r)):=fun pv' h'=>k0h r (opT t) pv' (acc++[t]) h.2.2 h'
  have e0:acc++t::r=acc++[t]++r:=by simp
  rw[e0,List.flatMap_cons];rcases q5y h.1 with⟨x,rfl,A,D,K⟩|⟨x,F,rfl,G,I,V,C⟩
  ·have X:j3i [x]=[j4b x.tx]:=by
    have Z:(Fo.nil).len=kdT x:=by unfold kdT;rw[A];rfl
    have:=z5r (x:=x) (F:=.nil) trivial Z
    rw[show([x]:List Td)=x::Fo.nil.N from rfl,this.2];simp[stK,A,j4b]
   rw[X]
   have O:pv=false:=by
    cases pv with
    | false=>rfl
    | true=>exact absurd ⟨A,hpv rfl⟩ h.2.1
   have C:x=ntT (btL x.tx):=k0v A rfl D;refine .note (by unfold j4b;split<;>rfl) ?_;rw[j2i K,O]
   have H:z8n false acc (btL x.tx)=acc++[[x]]:=by
    rw[z8n];simp only[Bool.false_eq_true,if_false];rw[<-C]
   rw[H];exact ih true (fun _=>A)
  ·have J:F.len=kdT x:=by
    rw[V];unfold kdT;rcases C with⟨h,_⟩|⟨h,_⟩<;>rw[h]<;>rfl
   obtain⟨_,H⟩:=z5r G J;have Q:F.R.length=1:=by rw[z3a];exact V
   obtain⟨t,P⟩:∃t,F.R=[t]:=by
    match F.R,Q with
    | [t],_=>exact⟨t,rfl⟩
   have W:=z5m F G I t (by rw[P];simp)
   have M:t.ns=F.N:=by
    have:=q8m F
    rw[P]at this;simpa using this
   have B:=k6g W (rest:=[59]::r.flatMap j3i) (by simp) (by simp) (by simp);rw[M]at B;rw[H,P];rcases C with⟨A,L,D⟩|⟨A,S,D⟩
   ·have U:stK x [t]++r.flatMap j3i=q9n::btL x.tx::[61]::(t.tk++[59]::r.flatMap j3i):=by simp[stK,A,hdK]
    have C:x=j2b (btL x.tx):=k0v A rfl D;rw[U];refine .letO L B ?_;rw[<-C];exact ih false (fun h=>by cases h)
   ·have U:stK x [t]++r.flatMap j3i=t.tk++[59]::r.flatMap j3i:=by simp[stK,A,hdK]
    have C:x=doT:=k0v A S D;obtain⟨w,z,Y,a⟩:=W.b;have E:=j4y a;rw[U];rw[Y,cons_append]at B⊢;refine .doO E.2.2.2.2 E.2.2.2.1 B ?_;rw[<-C];exact ih false (fun h=>by cases h)
theorem y0l:∀ws:List Wd,(∀w∈ws,w.length<=20)->(jb ws).length<=21*ws.length
 | [],_=>by simp[jb]
 | [w],h=>by
  have:=h w (by simp)
  simp[jb];omega
 | w::u::r,h=>by
  have h1:=h w (by simp);have h2:=y0l (u::r) fun x hx=>h x (by simp[hx])
  rw[jb,length_append];simp only[length_cons]at h2⊢;omega
theorem z4c{tx:ByteArray}(h:q2t tx=0):tx.size<=1300:=by
 by_cases A:btL tx=[]
 ·have:=q0c tx
  rw[A]at this;simp at this;omega
 ·obtain⟨D,B⟩:=k0a h;have C:q0d (btL tx)=q4x (btL tx):=by rw[q0d,if_neg A]
  rw[C]at D B;have E:=y0l _ fun w hw=>(B w hw).2.1
  rw[k2l]at E;rw[<-q0c];omega
theorem y0f{y:Td}{k:Fo}(B:(Fo.cons y k .nil).ok)(A:(Fo.cons y k .nil).exs)(hl:(Fo.cons y k .nil).N.length<=40):(q0k y k.R).tx.length<=640:=by
 have C:=j0p _ B A (q0k y k.R) (by simp[Fo.R])
 have D:(q0k y k.R).ns=(Fo.cons y k .nil).N:=by
  have:=q8m (Fo.cons y k .nil)
  simpa[Fo.R]using this
 rw[D]at C;omega
theorem j7h{F:Fo}(h:F.len=1):∃y k,F=.cons y k .nil:=by
 cases F with
 | nil=>cases h
 | cons y k n=>
  cases n with
  | nil=>exact⟨y,k,rfl⟩
  | cons _ _ _=>simp[Fo.len]at h
theorem j0e{ds:List Td}(h:q0b ds=0):(q2p ds).length<=2000:=by
 have B:=(q3k h).1;rcases q5y h with⟨x,rfl,A,_,G⟩|⟨x,F,rfl,C,D,I,J⟩
 ·have E:(Fo.nil).len=kdT x:=by unfold kdT;rw[A];rfl
  have K:q2p [x]=stX x []:=(z5r (x:=x) (F:=.nil) trivial E).1;have L:=z4c G;rw[K];unfold stX;rw[if_neg (by omega),if_neg (by omega)]
  split
  ·simp
  ·simp only[length_append,length_cons,length_nil,q0c];omega
 ·obtain⟨y,k,rfl⟩:=j7h I
  have E:(Fo.cons y k .nil).len=kdT x:=by
   rw[I];unfold kdT;rcases J with⟨A,_⟩|⟨A,_⟩<;>rw[A]<;>rfl
  have N:=y0f C D (by have:=B;simp only[length_cons]at this;omega);rw[(z5r C E).1];unfold stX;rcases J with⟨A,H,_⟩|⟨A,_,_⟩
  ·have M:=q3a H;rw[if_pos A];simp only[length_append,length_cons,length_nil,hdT,Fo.R];omega
  ·rw[if_neg (by omega),if_pos A];simp only[length_append,length_cons,length_nil,hdT,Fo.R];omega
theorem v1f:∀ps:List (List Td),(∀t∈ps,q0b t=0)->(q2w ps).length<=2001*ps.length
 | [],_=>by simp[q2w]
 | t::r,h=>by
  have h1:=j0e (h t (by simp));have h2:=v1f r fun x hx=>h x (by simp[hx])
  rw[z7r];simp only[length_append,length_cons,length_nil];omega
def y8y(s:ByteArray)(u:List Wd):Nat:=((z3j (btL s))[(q2o (btL s)).length-u.length]?).getD s.size
inductive z0i (s:ByteArray):List (List Td)->Int->Int->Prop where
 | lex (h:q8e (btL s)≠0):z0i s [] ((k1j (btL s):Nat):Int) (q8e (btL s))
 | bad {u} (h:q8e (btL s)=0) (hg:PG false [] (q2o (btL s)) (.bad u)):z0i s [] ((y8y s u:Nat):Int) 5
 | full {qs} (h:q8e (btL s)=0) (hg:PG false [] (q2o (btL s)) (.ok qs)) (hf:(q0z qs).2≠0):z0i s [] 0 (q0z qs).2
 | ok {qs} (h:q8e (btL s)=0) (hg:PG false [] (q2o (btL s)) (.ok qs)) (hf:(q0z qs).2=0):z0i s qs 0 0
theorem q4w{s:ByteArray}{p p':List (List Td)}{k k' f f':Int}(h:z0i s p k f)(h':z0i s p' k' f'):p=p'/\k=k'/\f=f':=by
 cases h with
 | lex h1=>cases h' with
  | lex _=>exact⟨rfl,rfl,rfl⟩
  | bad h2=>exact absurd h2 h1
  | full h2=>exact absurd h2 h1
  | ok h2=>exact absurd h2 h1
 | bad h1 hg=>cases h' with
  | lex h2=>exact absurd h1 h2
  | bad _ hg'=>cases q9q hg hg';exact⟨rfl,rfl,rfl⟩
  | full _ hg'=>cases q9q hg hg'
  | ok _ hg'=>cases q9q hg hg'
 | full h1 hg hf=>cases h' with
  | lex h2=>exact absurd h1 h2
  | bad _ hg'=>cases q9q hg hg'
  | full _ hg'=>cases q9q hg hg';exact⟨rfl,rfl,rfl⟩
  | ok _ hg' hf'=>cases q9q hg hg';exact absurd hf' hf
 | ok h1 hg hf=>cases h' with
  | lex h2=>exact absurd h1 h2
  | bad _ hg'=>cases q9q hg hg'
  | full _ hg' hf'=>cases q9q hg hg';exact absurd hf hf'
  | ok _ hg'=>cases q9q hg hg';exact⟨rfl,rfl,rfl⟩
theorem k0b:∀(ps:List (List Td))(prev:Int),okP prev ps->∀t∈ps,q0b t=0
 | t::r,prev,h,x,hx=>by
  rcases List.mem_cons.1 hx with rfl|hx
  ·exact h.1
  ·exact k0b r _ h.2.2 x hx
theorem g1s(l:List UInt8):btL (wbS l)=l:=rfl
end Go.Proofs.YtchdplceopegoaaGreatDoor
namespace Go.Proofs.YtchdplceopegoaaGreatDoor
def q3c(wd:Nat):Nat->List UInt8->Nat × Nat × Nat
 | c,[]=>(0,0,c)
 | c,b::s=>if b=10 then((q3c wd 0 s).1,(q3c wd 0 s).2.1+1,(q3c wd 0 s).2.2)else((if wd<=c then 1 else 0)+(q3c wd (c+1) s).1,(q3c wd (c+1) s).2.1,(q3c wd (c+1) s).2.2)
theorem z8x(wd:Nat):∀(c:Nat)(s t:List UInt8),q3c wd c (s++t)=((q3c wd c s).1+(q3c wd (q3c wd c s).2.2 t).1,(q3c wd c s).2.1+(q3c wd (q3c wd c s).2.2 t).2.1,(q3c wd (q3c wd c s).2.2 t).2.2)
 | c,[],t=>by simp[q3c]
 | c,b::s,t=>by
  simp only[cons_append,q3c]
  split
  ·rw[z8x wd 0 s t];simp only[Prod.mk.injEq,and_true,true_and];omega
  ·rw[z8x wd (c+1) s t];simp only[Prod.mk.injEq,and_true];omega
abbrev Crs:=(Nat × Nat) × List Int
def q2x(a b:Nat × Nat):Prop:=a.1<b.1\/(a.1=b.1/\a.2<b.2)
instance(a b:Nat × Nat):Decidable (q2x a b):=by unfold q2x;infer_instance
def k1k(a b:Crs):Crs:=if q2x b.1 a.1 then b else a
def q6m:Option Crs->Option Crs->Option Crs
 | none,y=>y
 | x,none=>x
 | some a,some b=>some (k1k a b)
theorem j2o(a b c:Crs):k1k (k1k a b) c=k1k a (k1k b c):=by
 by_cases A:q2x b.1 a.1<;>by_cases B:q2x c.1 b.1<;>by_cases C:q2x c.1 a.1
 all_goals first
  | (simp[k1k,A,B,C];done)
  | (exfalso;unfold q2x at A B C;omega)
theorem k7a(x y z:Option Crs):q6m (q6m x y) z=q6m x (q6m y z):=by
 cases x<;>cases y<;>cases z<;>simp[q6m,j2o]
def fm:List Crs->Option Crs
 | []=>none
 | a::l=>q6m (some a) (fm l)
theorem k8q:∀l m:List Crs,fm (l++m)=q6m (fm l) (fm m)
 | [],m=>by cases h:fm m<;>simp[fm,q6m,h]
 | a::l,m=>by rw[cons_append,fm,fm,k8q l m,k7a]
def q6e(o l:Nat)(u:List Int)(a:Crs):Crs:=((o+a.1.1,l+a.1.2),u++a.2)
theorem k2p(o l:Nat)(u:List Int)(a b:Crs):q2x (q6e o l u b).1 (q6e o l u a).1↔q2x b.1 a.1:=by
 unfold q2x q6e;dsimp only;omega
theorem v1b(o l:Nat)(u:List Int)(a b:Crs):k1k (q6e o l u a) (q6e o l u b)=q6e o l u (k1k a b):=by
 unfold k1k;by_cases h:q2x b.1 a.1
 ·rw[if_pos h,if_pos ((k2p o l u a b).2 h)]
 ·rw[if_neg h,if_neg fun k=>h ((k2p o l u a b).1 k)]
theorem z2k(o l:Nat)(u:List Int):∀az:List Crs,fm (az.map (q6e o l u))=(fm az).map (q6e o l u)
 | []=>rfl
 | a::az=>by
  rw[List.map_cons,fm,z2k o l u az,fm];cases fm az with
  | none=>rfl
  | some b=>simp[q6m,v1b]
theorem j7f:∀{l:List Crs},fm l=none->l=[]
 | [],_=>rfl
 | a::l,h=>by
  rw[fm]at h;cases hl:fm l<;>rw[hl]at h<;>simp[q6m]at h
theorem z9m:∀{l:List Crs}{a:Crs},fm l=some a->∃(p q:List Crs),l=p++a::q/\(∀b∈p,q2x a.1 b.1)/\∀b∈q,¬q2x b.1 a.1
 | b::l,a,h=>by
  rw[fm]at h;cases hl:fm l with
  | none=>
   rw[hl]at h;obtain rfl:=j7f hl;simp only[q6m,Option.some.injEq]at h;subst h;exact⟨[],[],rfl,by simp,by simp⟩
  | some c=>
   rw[hl]at h;obtain⟨p,q,rfl,h1,h2⟩:=z9m hl;simp only[q6m,Option.some.injEq,k1k]at h
   split at h
   ·rename_i hlt;subst h;refine⟨b::p,q,rfl,fun d hd=>?_,h2⟩;rcases List.mem_cons.1 hd with rfl|hd
    ·exact hlt
    ·exact h1 d hd
   ·rename_i hlt;subst h;refine⟨[],p++c::q,rfl,by simp,fun d hd=>?_⟩;rcases List.mem_append.1 hd with hd|hd
    ·have:=h1 d hd
     unfold q2x at *;omega
    ·rcases List.mem_cons.1 hd with rfl|hd
     ·exact hlt
     ·have:=h2 d hd
      unfold q2x at *;omega
def Tr.outs:Tr->Nat->List (List UInt8 × List Int)
 | .leaf x,deep=>[(if x.op=1 then x.tx.data.toList else if x.op=5 then []else 10::List.replicate deep 32,[])]
 | .one x a,deep=>if x.op=7 then a.outs (deep+x.n.toNat)else(match a.flat with|none=>[]|some s=>[(s,[0])])++(a.outs deep).map fun p=>(p.1,1::p.2)
 | .two x a b,deep=>if x.op=6 then(a.outs deep).flatMap fun p=>(b.outs deep).map fun q=>(p.1++q.1,p.2++q.2)else((a.outs deep).map fun p=>(p.1,0::p.2))++(b.outs deep).map fun p=>(p.1,1::p.2)
theorem q3s:∀(t:Tr)(deep:Nat),(t.outs deep).map (·.2)=t.ways
 | .leaf x,deep=>by simp[Tr.outs,Tr.ways]
 | .one x a,deep=>by
  simp only[Tr.outs,Tr.ways]
  split
  ·exact q3s a _
  ·rw[map_append,<-q3s a deep]
   congr 1
   ·cases h:a.flat<;>simp[Tr.isFlat,h]
   ·rw[map_map,map_map];rfl
 | .two x a b,deep=>by
  simp only[Tr.outs,Tr.ways]
  split
  ·rw[<-q3s a deep,<-q3s b deep,map_flatMap,flatMap_map]
   congr 1
   funext p
   rw[map_map,map_map];rfl
  ·rw[<-q3s a deep,<-q3s b deep,map_append,map_map,map_map,map_map,map_map];rfl
theorem q7d:∀(t:Tr)(deep:Nat)(p:List UInt8 × List Int),p∈t.outs deep->∀r,t.lay deep (p.2++r)=.ok (p.1,r)
 | .leaf x,deep,p,h,r=>by
  simp only[Tr.outs,List.mem_singleton]at h;subst h;simp only[Tr.lay,nil_append]
  split
  ·rfl
  ·split<;>rfl
 | .one x a,deep,p,h,r=>by
  simp only[Tr.outs]at h;simp only[Tr.lay]
  split at h
  ·rename_i h7;rw[if_pos h7];exact q7d a _ p h r
  ·rename_i h7;rw[if_neg h7];rcases List.mem_append.1 h with h|h
   ·cases hf:a.flat with
    | none=>rw[hf]at h;simp at h
    | some s=>
     rw[hf]at h;simp only[List.mem_singleton]at h;subst h;simp
   ·obtain⟨q,hq,rfl⟩:=List.mem_map.1 h;simp only[cons_append,if_pos];exact q7d a deep q hq r
 | .two x a b,deep,p,h,r=>by
  simp only[Tr.outs]at h;simp only[Tr.lay]
  split at h
  ·rename_i h6;rw[if_pos h6];obtain⟨u,hu,hp⟩:=List.mem_flatMap.1 h;obtain⟨v,hv,rfl⟩:=List.mem_map.1 hp;dsimp only;rw[append_assoc,q7d a deep u hu (v.2++r)];dsimp only;rw[q7d b deep v hv r]
  ·rename_i h6;rw[if_neg h6];rcases List.mem_append.1 h with h|h
   ·obtain⟨q,hq,rfl⟩:=List.mem_map.1 h;simp only[cons_append,if_pos];exact q7d a deep q hq r
   ·obtain⟨q,hq,rfl⟩:=List.mem_map.1 h;simp only[cons_append];rw[if_neg (by decide)];exact q7d b deep q hq r
def q5s:List (Nat × Tr)->List (List UInt8 × List Int)
 | []=>[([],[])]
 | (d,t)::ks=>(t.outs d).flatMap fun p=>(q5s ks).map fun q=>(p.1++q.1,p.2++q.2)
def q4o(wd c:Nat)(ks:List (Nat × Tr)):List Crs:=(q5s ks).map fun p=>(((q3c wd c p.1).1,(q3c wd c p.1).2.1),p.2)
def bst(wd c:Nat)(ks:List (Nat × Tr)):Option Crs:=fm (q4o wd c ks)
theorem y2s(wd c:Nat):bst wd c []=some ((0,0),[]):=by simp[bst,q4o,q5s,q3c,fm,q6m]
theorem z7f(wd c:Nat)(s:List UInt8)(u:List Int)(ks:List (Nat × Tr)):((q5s ks).map fun q=>(s++q.1,u++q.2)).map (fun p=>(((q3c wd c p.1).1,(q3c wd c p.1).2.1),p.2))=(q4o wd (q3c wd c s).2.2 ks).map (q6e (q3c wd c s).1 (q3c wd c s).2.1 u):=by
 unfold q4o;rw[map_map,map_map]
 congr 1
 funext q
 simp only[Function.comp,z8x,q6e]
theorem z8v(wd c d:Nat)(x:Nd)(ks:List (Nat × Tr))(s:List UInt8)(hs:s=if x.op=1 then x.tx.data.toList else if x.op=5 then []else 10::List.replicate d 32):
  bst wd c ((d,.leaf x)::ks)=(bst wd (q3c wd c s).2.2 ks).map (q6e (q3c wd c s).1 (q3c wd c s).2.1 []):=by
 unfold bst;rw[<-z2k,<-z7f,q4o,q5s,Tr.outs,<-hs];simp
theorem v4t(wd c d:Nat)(x:Nd)(a:Tr)(ks:List (Nat × Tr))(h:x.op=7):bst wd c ((d,.one x a)::ks)=bst wd c ((d+x.n.toNat,a)::ks):=by
 unfold bst q4o;rw[q5s,q5s,Tr.outs,if_pos h]
theorem z4z(wd c d:Nat)(k:Int)(a:Tr)(ks:List (Nat × Tr)):((((a.outs d).map fun p=>(p.1,k::p.2)).flatMap fun p=>(q5s ks).map fun q=>(p.1++q.1,p.2++q.2)).map (fun p=>(((q3c wd c p.1).1,(q3c wd c p.1).2.1),p.2)))=(q4o wd c ((d,a)::ks)).map (q6e 0 0 [k]):=by
 unfold q4o;rw[q5s,flatMap_map,map_map,map_flatMap,map_flatMap]
 congr 1
 funext p
 rw[map_map,map_map]
 congr 1
 funext q
 simp[Function.comp,q6e]
theorem k1u(wd c d:Nat)(x:Nd)(a:Tr)(ks:List (Nat × Tr))(h:x.op≠7):
  bst wd c ((d,.one x a)::ks)=q6m (match a.flat with|none=>none|some s=>(bst wd (q3c wd c s).2.2 ks).map (q6e (q3c wd c s).1 (q3c wd c s).2.1 [0])) ((bst wd c ((d,a)::ks)).map (q6e 0 0 [1])):=by
 unfold bst;rw[<-z2k,<-z4z];rw[q4o,q5s,Tr.outs,if_neg h,List.flatMap_append,map_append,k8q]
 congr 1
 cases A:a.flat with
 | none=>rfl
 | some s=>
  dsimp only;rw[<-z2k,<-z7f];simp
theorem v4s(wd c d:Nat)(x:Nd)(a b:Tr)(ks:List (Nat × Tr))(h:x.op=6):bst wd c ((d,.two x a b)::ks)=bst wd c ((d,a)::(d,b)::ks):=by
 unfold bst q4o;rw[q5s,q5s,q5s,Tr.outs,if_pos h,List.flatMap_assoc]
 congr 2
 congr 1
 funext p
 rw[flatMap_map,map_flatMap]
 congr 1
 funext q
 rw[map_map]
 congr 1
 funext z
 simp[Function.comp,append_assoc]
theorem j1g(wd c d:Nat)(x:Nd)(a b:Tr)(ks:List (Nat × Tr))(h:x.op≠6):
  bst wd c ((d,.two x a b)::ks)=q6m ((bst wd c ((d,a)::ks)).map (q6e 0 0 [0])) ((bst wd c ((d,b)::ks)).map (q6e 0 0 [1])):=by
 unfold bst;rw[<-z2k,<-z2k,<-z4z,<-z4z,q4o,q5s,Tr.outs,if_neg h,List.flatMap_append,map_append,k8q]
theorem y4y(t:Tr)(deep:Nat):t.outs deep≠[]:=fun h=>by
 have:=q3s t deep
 rw[h]at this;exact z6c t this.symm
theorem k9p:∀ks:List (Nat × Tr),q5s ks≠[]
 | []=>by simp[q5s]
 | (d,t)::ks=>by
  have h1:=y4y t d;have h2:=k9p ks;obtain⟨p,ps,e⟩:=List.exists_cons_of_ne_nil h1;rw[q5s,e];simp[h2]
theorem k7y(wd c:Nat)(ks:List (Nat × Tr)):∃a,bst wd c ks=some a:=by
 cases h:bst wd c ks with
 | some a=>exact⟨a,rfl⟩
 | none=>
  have:=j7f h
  unfold q4o at this;exact absurd (List.map_eq_nil_iff.1 this) (k9p ks)
def Tr.txt(t:Tr)(u:List Int):List UInt8:=match t.show u with| .ok s=>s| .error _=>[]
theorem v0v{t:Tr}{p:List UInt8 × List Int}(h:p∈t.outs 0):t.show p.2=.ok p.1:=by
 have B:p.2∈t.ways:=by rw[<-q3s t 0];exact List.mem_map.2 ⟨p,h,rfl⟩
 have A:=q7d t 0 p h [];rw[append_nil]at A;unfold Tr.show;rw[if_pos (k5f.2 (q8o t _ B)),A]
theorem v7k{t:Tr}{p:List UInt8 × List Int}(h:p∈t.outs 0):t.txt p.2=p.1:=by rw[Tr.txt,v0v h]
def Tr.cst(t:Tr)(wd:Nat)(u:List Int):Nat × Nat:=((q3c wd 0 (t.txt u)).1,(q3c wd 0 (t.txt u)).2.1)
theorem j1y(t:Tr)(wd:Nat):q4o wd 0 [(0,t)]=t.ways.map fun u=>(t.cst wd u,u):=by
 have A:q5s [(0,t)]=t.outs 0:=by simp[q5s]
 unfold q4o;rw[A,<-q3s t 0,map_map];refine List.map_congr_left fun p hp=>?_
 simp only[Function.comp,Tr.cst,v7k hp]
def Tr.best(t:Tr)(wd:Nat):Option Crs:=fm (t.ways.map fun u=>(t.cst wd u,u))
theorem z0m(t:Tr)(wd:Nat):t.best wd=bst wd 0 [(0,t)]:=by rw[Tr.best,<-j1y];rfl
theorem k1r(t:Tr)(wd:Nat):∃a,t.best wd=some a:=by rw[z0m];exact k7y wd 0 _
theorem y3p{f:List Int->Crs}{l:List (List Int)}{k:Nat}(hk:k<l.length):fm ((l.take (k+1)).map f)=q6m (fm ((l.take k).map f)) (some (f l[k])):=by
 rw[List.take_add_one,List.getElem?_eq_getElem hk,map_append,k8q];rfl
theorem z6p:∀u:List Int,¬q3d u u
 | []=>by simp[q3d]
 | a::u=>by simp only[q3d,if_pos];exact z6p u
theorem z4j:∀{u v:List Int},q3d u v->¬q3d v u
 | a::u,b::v,h=>by
  simp only[q3d]at h⊢;by_cases e:a=b
  ·subst e;rw[if_pos rfl]at h⊢;exact z4j h
  ·rw[if_neg e]at h;rw[if_neg fun k=>e k.symm];omega
theorem q6k{t:Tr}{wd:Nat}{a:Crs}(h:t.best wd=some a):a.2∈t.ways/\t.show a.2=.ok (t.txt a.2)/\a.1=t.cst wd a.2/\∀w∈t.ways,¬q2x (t.cst wd w) a.1/\(t.cst wd w=a.1->¬q3d w a.2):=by
 obtain⟨p,q,e,K,L⟩:=z9m h;obtain⟨N,r,C,E,G⟩:=List.map_eq_append_iff.1 e;obtain⟨x,O,H,I,J⟩:=List.map_eq_cons_iff.1 G;subst H E J I;have B:x∈t.ways:=by rw[C];simp
 have D:=z1w t;rw[C]at D;refine⟨B,?_,rfl,fun w A=>?_⟩
 ·obtain⟨s,M⟩:=(z5p t x).2 B;simp only[Tr.txt,M]
 ·rw[C]at A;dsimp only;rcases List.mem_append.1 A with A|A
  ·have:=K _ (List.mem_map.2 ⟨w,A,rfl⟩)
   dsimp only at this;refine⟨?_,fun k=>?_⟩
   ·unfold q2x at *;omega
   ·rw[k]at this;unfold q2x at this;omega
  ·rcases List.mem_cons.1 A with rfl|A
   ·refine⟨?_,fun _=>z6p _⟩;unfold q2x;omega
   ·refine⟨L _ (List.mem_map.2 ⟨w,A,rfl⟩),fun _=>z4j ?_⟩;exact(List.pairwise_cons.1 (List.pairwise_append.1 D).2.1).1 w A
theorem q8g:∀(t t':Tr)(r r':List Nd),t.Wf->t'.Wf->t.N++r=t'.N++r'->t=t'/\r=r'
 | .leaf x,t',r,r',h,h',e=>by
  cases t' with
  | leaf y=>simp only[Tr.N,cons_append,nil_append,List.cons.injEq]at e;exact⟨by rw[e.1],e.2⟩
  | one y a=>
   simp only[Tr.N,cons_append,nil_append,List.cons.injEq]at e;have h1:=h.2;have h2:=h'.2.1;rw[e.1,h2]at h1;cases h1
  | two y a b=>
   simp only[Tr.N,cons_append,nil_append,List.cons.injEq]at e;have h1:=h.2;have h2:=h'.2.1;rw[e.1,h2]at h1;cases h1
 | .one x a,t',r,r',h,h',e=>by
  cases t' with
  | leaf y=>
   simp only[Tr.N,cons_append,nil_append,List.cons.injEq]at e;have h1:=h.2.1;have h2:=h'.2;rw[e.1,h2]at h1;cases h1
  | one y a'=>
   simp only[Tr.N,cons_append,List.cons.injEq]at e;obtain⟨e1,e2⟩:=q8g a a' r r' h.2.2 h'.2.2 e.2;exact⟨by rw[e.1,e1],e2⟩
  | two y a' b=>
   simp only[Tr.N,cons_append,List.cons.injEq]at e;have h1:=h.2.1;have h2:=h'.2.1;rw[e.1,h2]at h1;cases h1
 | .two x a b,t',r,r',h,h',e=>by
  cases t' with
  | leaf y=>
   simp only[Tr.N,cons_append,nil_append,List.cons.injEq]at e;have h1:=h.2.1;have h2:=h'.2;rw[e.1,h2]at h1;cases h1
  | one y a'=>
   simp only[Tr.N,cons_append,List.cons.injEq]at e;have h1:=h.2.1;have h2:=h'.2.1;rw[e.1,h2]at h1;cases h1
  | two y a' b'=>
   simp only[Tr.N,cons_append,append_assoc,List.cons.injEq]at e;obtain⟨e1,e2⟩:=q8g a a' _ _ h.2.2.1 h'.2.2.1 e.2;obtain⟨e3,e4⟩:=q8g b b' r r' h.2.2.2 h'.2.2.2 e2;exact⟨by rw[e.1,e1,e3],e4⟩
theorem j9z{t t':Tr}(h:t.Wf)(h':t'.Wf)(e:t.N=t'.N):t=t':=(q8g t t' [] [] h h' (by rw[e])).1
noncomputable def y0c(ds:List Nd)(h:q3f ds=0):Tr:=Classical.choose (z9d h)
theorem q9u{ds:List Nd}(h:q3f ds=0):(y0c ds h).Wf:=(Classical.choose_spec (z9d h)).1
theorem q3w{ds:List Nd}(h:q3f ds=0):ds=(y0c ds h).N:=(Classical.choose_spec (z9d h)).2
theorem z9c{ds:List Nd}(h:q3f ds=0){t:Tr}(ht:t.Wf)(e:ds=t.N):y0c ds h=t:=j9z (q9u h) ht ((q3w h).symm.trans e)
open Classical in
noncomputable def flS(ds:List Nd):ByteArray:=if h:q3f ds=0 then(y0c ds h).line else⟨#[]⟩
open Classical in
noncomputable def flB(ds:List Nd):Bool:=if h:q3f ds=0 then(y0c ds h).isFlat else false
theorem j6z{ds:List Nd}{t:Tr}(ht:t.Wf)(e:ds=t.N)(hl:ds.length<=400):q3f ds=0/\flS ds=t.line/\flB ds=t.isFlat:=by
 have h:q3f ds=0:=by rw[e];exact z1t ht (by rw[<-e];exact hl)
 refine⟨h,?_,?_⟩
 ·rw[flS,dif_pos h,z9c h ht e]
 ·rw[flB,dif_pos h,z9c h ht e]
theorem y7v{ds:List Nd}(h:q3f ds≠0):flS ds=⟨#[]⟩/\flB ds=false:=⟨by rw[flS,dif_neg h],by rw[flB,dif_neg h]⟩
theorem j8n{x:Nd}{a c:Tr}(h:x.op=6):Tr.line (.two x a c)=(if(a.isFlat&&c.isFlat)=true then a.line++c.line else⟨#[]⟩)/\Tr.isFlat (.two x a c)=(a.isFlat&&c.isFlat):=by
 unfold Tr.line Tr.isFlat;simp only[Tr.flat,if_pos h];cases A:a.flat with
 | none=>simp
 | some s=>
  cases B:c.flat with
  | none=>simp
  | some t=>exact⟨q6l (by simp),by simp⟩
end Go.Proofs.YtchdplceopegoaaGreatDoor
