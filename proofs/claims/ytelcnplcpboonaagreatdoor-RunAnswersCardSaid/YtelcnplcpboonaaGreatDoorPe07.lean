import Derived.Test.YtelcnplcpboonaaGreatDoorPe01
import Derived.Lib.Bytealg
import Derived.Lib.IndexLaws
import Derived.Laws.AppendOwn
import Derived.OwnWalk
import Derived.RangeFuncNested
import Derived.RangeFuncBound
import Derived.RangeFuncCalls
import Derived.RangeFuncLeaves
open Go.Proofs.Tryz
open List renaming takeWhile_cons->À,length_cons->Ã,take_succ_cons->Å,getElem?_eq_some_iff->Ç,length_append->Ê,all_cons->Í
open Bool renaming false_eq_true->Á,false->Ì
open Go.Lib renaming indexByte->Â,indexByte_ge->È
open Option renaming some->Ä,none->Ë
open Go renaming World->Æ
open Option.some renaming inj->É,injEq->Î
namespace Go.Proofs.YtelcnplcpboonaaGreatDoor
open Go Go.RowKit
theorem CZ:∀(z r:List UInt8)(i:Nat),(∀x∈z,x=32)->lx (z++r) i=lx r (i+z.length)
 | [],r,i,_=>by simp
 | c::z,r,i,h=>by
  have A:=h c (by simp);subst A;rw[List.cons_append,ku _ _ (by decide),CZ z r (i+1) (λx B=>h x (by simp[B])),Ã]
  congr 1;omega
theorem yx{p:UInt8->Bool}:∀(l:List UInt8)x,x∈l.takeWhile p->p x=true
 | [],x,hx=>by cases hx
 | a::l,x,hx=>by
  rw[À]at hx;by_cases A:p a=true
  .rw[if_pos A]at hx;rcases List.mem_cons.1 hx with rfl|hx
   .exact A
   .exact yx l x hx
  .rw[if_neg A]at hx;cases hx
theorem BN(w):∃z,w=bU w++z/\∀x∈z,x=32:=by
 refine⟨(w.reverse.takeWhile (·==32)).reverse,?_,λx A=>?_⟩
 .rw[bU,<-List.reverse_append,List.takeWhile_append_dropWhile,List.reverse_reverse]
 .have:=yx _ _ (List.mem_reverse.1 A)
  exact beq_iff_eq.1 this
theorem oX(s):(aK s).length<=s.length:=by grind [tG,aV,aK]
theorem UR(s i):lx (s.drop (aK s).length) (i+(aK s).length)=lx (s.drop (aV s)) (i+aV s):=by
 obtain⟨z,D,B⟩:=BN (s.take (aV s));have C:=oN s;have A:=congrArg List.length D;rw[Ê,List.length_take,Nat.min_eq_left C]at A
 have e:s.drop (aK s).length=z++s.drop (aV s):=by
  have E:s=bU (s.take (aV s))++(z++s.drop (aV s)):=by
   rw[<-List.append_assoc,<-D,List.take_append_drop]
  have G:s.drop (aK s).length=(bU (s.take (aV s))++(z++s.drop (aV s))).drop (aK s).length:=congrArg (List.drop _) E;rw[G,aK,List.drop_left]
 rw[e,CZ z _ _ B]
 congr 1
 rw[aK];omega
theorem LQ{c r}(B:cZ c=Ì)(A:bX (c::r)=true):1<=(aK (c::r)).length:=G6 (yu B A)
theorem Qp{c r}(A:aI c=true):aK (c::r)=(c::r).takeWhile aI/\bX (c::r)=decide (((c::r).takeWhile aI).length<=8):=by grind [aK,aV,jK,À,oP,pK,bX,Ã,aI]
theorem Qo{c r}(B:aI c=Ì)(A:ay c=true):aK (c::r)=(c::r).takeWhile ay/\bX (c::r)=(decide (((c::r).takeWhile ay).length<=6)&&(c != 48||(c::r).takeWhile ay==[48])):=by grind [aK,aV,Á,jK,À,oP,pG,bX,Ã,ay,aI]
theorem Hm{p:UInt8->Bool}:∀l:List UInt8,(l.takeWhile p==l)=l.all p
 | []=>rfl
 | a::l=>by
  rw[À,Í];cases h:p a with
  | true=>
   rw[if_pos rfl,<-Hm l];simp
  | false=>simp
theorem Mj{c r}(I:aI c=Ì)(H:ay c=Ì)(J:c=35):aK (c::r)=bU ((c::r).takeWhile bO)/\bX (c::r)=((bU ((c::r).takeWhile bO)).takeWhile dW==bU ((c::r).takeWhile bO)):=by
 subst J;have B:(35::r:List UInt8).takeWhile bO=35::r.takeWhile bO:=by rw[À];rfl
 refine⟨?_,?_⟩
 .simp only[aK,aV,I,H,if_true,Á,if_false,Å,jK,beq_self_eq_true,B]
 .rw[Hm,B];simp only[bX,I,H,if_true,Á,if_false,beq_self_eq_true];obtain⟨z,G,A⟩:=BN (35::r.takeWhile bO)
  have C:(35::r.takeWhile bO).all dW=((bU (35::r.takeWhile bO)).all dW&&z.all dW):=by
   rw[<-List.all_append,<-G]
  have D:z.all dW=true:=by
   rw[List.all_eq_true];intro x E;rw[A x E];decide
  rw[D,Bool.and_true,Í]at C;rw[<-C];rfl
theorem Mi{c r}(D:cZ c=Ì)(B:aI c=Ì)(A:ay c=Ì)(C:(c==35)=Ì):aK (c::r)=[c]/\bX (c::r)=ml c:=by
 refine⟨?_,?_⟩
 .simp only[aK,aV,B,A,C,Á,if_false,Å,List.take_zero];exact jA [] (mn D)
 .simp only[bX,B,A,C,Á,if_false]
theorem Gl:∀l:List UInt8,Â l 10=-1->l.takeWhile bO=l
 | [],_=>rfl
 | b::l,h=>by
  unfold Â at h;have B:=È l 10
  split at h
  .cases h
  .rename_i hb;have A:bO b=true:=by simpa[bO]using hb
   split at h
   .rename_i h1;rw[À,if_pos A,Gl l (by simpa using h1)]
   .omega
theorem Il:∀(l:List UInt8)(i:Nat),Â l 10=i->l.takeWhile bO=l.take i/\i+1<=l.length
 | [],i,h=>by simp[Â]at h
 | b::l,i,h=>by
  unfold Â at h;have E:=È l 10
  split at h
  .rename_i hb
   have:i=0:=by omega
   subst this;have A:bO b=false:=by simpa[bO]using hb
   rw[À,if_neg (by simp[A])];simp
  .rename_i hb;have A:bO b=true:=by simpa[bO]using hb
   split at h
   .omega
   .rename_i h1;have C:Â l 10≠-1:=by simpa using h1
    obtain⟨j,rfl⟩:∃j,i=j+1:=⟨i-1,by omega⟩;obtain⟨B,D⟩:=Il l j (by omega);rw[À,if_pos A,B,Å];exact⟨rfl,by simp;omega⟩
theorem H9:∀(l:List UInt8)(c:UInt8),decide (0<=Â l c)=l.any (·==c)
 | [],c=>rfl
 | b::l,c=>by
  unfold Â;have B:=È l c;have ih:=H9 l c;rw[List.any_cons,<-ih];cases C:(b==c)with
  | true=>simp
  | false=>
   simp only[Á,if_false,Bool.false_or];by_cases h:Â l c=-1
   .simp[h]
   .have A:(Â l c==-1)=false:=by simpa using h
    rw[A];simp only[Á,if_false];rw[decide_eq_true (by omega),decide_eq_true (by omega)]
def eV(ds:List Nd):List Value:=ds.flatMap λx=>[.int .i64 x.op,.string x.tx,.int .i64 x.n]
theorem xq:∀A:List Nd,(eV A).length=A.length*3
 | []=>rfl
 | x::r=>by
  have:=xq r
  unfold eV at this⊢;rw[List.flatMap_cons,Ê,this,Ã];simp;omega
theorem PB(a b):eV (a++b)=eV a++eV b:=by simp[eV,List.flatMap_append]
theorem xF:∀(A:List Nd)(i:Nat)(h:i<A.length),(eV A)[i*3]?=Ä (A[i].op)/\(eV A)[i*3+1]?=Ä (.string A[i].tx)/\(eV A)[i*3+2]?=Ä (A[i].n)
 | x::r,0,_=>by simp[eV]
 | x::r,i+1,h=>by
  have B:=xF r i (by simpa using h);have e:eV (x::r)=↑x.op::.string x.tx::↑x.n::eV r:=by simp[eV]
  rw[e,show(i+1)*3=i*3+1+1+1 by omega];exact B
theorem PD(C):∀u∈eV C,u.oneCell'=true:=by
 intro u B;obtain⟨x,_,A⟩:=List.mem_flatMap.1 B;simp at A;rcases A with rfl|rfl|rfl<;>rfl
theorem PC(G j u)(h:(eV G)[j]?=Ä u):∃i,∃a:i<G.length,(j=i*3/\u=.int .i64 G[i].op)\/(j=i*3+1/\u=.string G[i].tx)\/(j=i*3+2/\u=.int .i64 G[i].n):=by
 have E:j<G.length*3:=by rw[<-xq];exact(Ç.1 h).1
 have hi:j / 3<G.length:=by omega
 obtain⟨A,B,C⟩:=xF G (j / 3) hi;refine⟨j / 3,hi,?_⟩;have D:j=j / 3*3\/j=j / 3*3+1\/j=j / 3*3+2:=by omega
 rcases D with e|e|e
 .rw[<-e,h]at A;exact .inl ⟨e,É A⟩
 .rw[<-e,h]at B;exact .inr (.inl ⟨e,É B⟩)
 .rw[<-e,h]at C;exact .inr (.inr ⟨e,É C⟩)
theorem Ij:(prog.info? 150).map (λi=>(i.zero,i.size,i.bytes))=Ä (Ä (.agg #[.int .i64 0,.string ⟨#[]⟩,.int .i64 0]),3,32):=by kernel_rfl
theorem AN{B w a n S R}(h:w.ownsRow B 150 3 (.slice a n S) R.length (eV R)):n=R.length/\R.length<=S/\aS w a R:=by
 rcases h.2 with⟨D,H⟩|⟨g,c,M,D,_,L,K,_,P,C⟩
 .simp only[Value.slice.injEq]at D;obtain⟨rfl,rfl,rfl⟩:=D;refine⟨H.symm,by omega,λi hi=>?_⟩;omega
 .simp only[Value.slice.injEq]at D;obtain⟨rfl,rfl,rfl⟩:=D;refine⟨rfl,K,λi hi=>?_⟩
  have J:g<w.heap.size:=by
   rcases Nat.lt_or_ge g w.heap.size with G|G
   .exact G
   .simp[Array.getElem?_eq_none G]at L
  have A:∀k u,(eV R)[k]?=Ä u->w.cell? ⟨g,k,Ë⟩=Ä u:=by
   intro k u E;rw[<-C]at E
   have I:k<R.length*3:=by
    have:=(Ç.1 E).1
    simp at this;omega
   rw[List.getElem?_take_of_lt I]at E;simp only[World.cell?,L];simpa using E
  obtain⟨H,N,O⟩:=xF R i hi;refine⟨g,0,rfl,J,?_,?_,?_⟩
  .rw[Nat.zero_add];exact A _ _ H
  .rw[Nat.zero_add];exact A _ _ N
  .rw[Nat.zero_add];exact A _ _ O
theorem Sh{w}{b o:Nat}{K}(h:aS w (Ä ↑(b,o)) K):∀j u,(eV K)[j]?=Ä u->w.cell? (((b,o):Addr).add j)=Ä u:=by
 intro j u H;obtain⟨i,G,E⟩:=PC K j u H;obtain⟨I,J,e,_,A,B,C⟩:=h i G;simp only[Î,Addr.mk.injEq,and_true]at e;obtain⟨rfl,rfl⟩:=e
 have D:∀k,((b,o):Addr).add k=(b,o+k):=by
  intro k;unfold Addr.add
  split
  .rename_i h;subst h;rfl
  .rfl
 rw[D];rcases E with⟨rfl,rfl⟩|⟨rfl,rfl⟩|⟨rfl,rfl⟩
 .exact A
 .rw[show o+(i*3+1)=o+i*3+1 by omega];exact B
 .rw[show o+(i*3+2)=o+i*3+2 by omega];exact C
set_option maxRecDepth 100000
theorem N9(op w):Cw 206 #[.int .i64 op] w (.int .i64 (dL op)):=by
 unfold Cw;by_cases A:op=6
 .subst A;go_in;go_wp2;go_ret;exact⟨rfl,rfl⟩
 by_cases D:op=9
 .subst D;go_in;go_wp2;go_ret;exact⟨rfl,rfl⟩
 by_cases B:op=7
 .subst B;go_in;go_wp2;go_ret;exact⟨rfl,rfl⟩
 by_cases C:op=8
 .subst C;go_in;go_wp2;go_ret;exact⟨rfl,rfl⟩
 have e:dL op=0:=by simp[dL,A,B,C,D]
 rw[e];have E:(op==6)=false:=by simp[A]
 have G:(op==7)=false:=by simp[B]
 have H:(op==8)=false:=by simp[C]
 have I:(op==9)=false:=by simp[D]
 clear e A B C D;go_in;go_wp2;go_ret;exact⟨rfl,rfl⟩
def kp(B:Nat)(w:Æ)(a:Option Addr)(ds:List Nd):Prop:=
 ∀i(h:i<ds.length),∃b o,a=Ä ⟨b,o,Ë⟩/\b<B/\w.cell? ⟨b,o+i*3,Ë⟩=Ä (.int .i64 ds[i].op)/\w.cell? ⟨b,o+i*3+1,Ë⟩=Ä (.string ds[i].tx)/\w.cell? ⟨b,o+i*3+2,Ë⟩=Ä (.int .i64 ds[i].n)
theorem kp.W{B w w' a I}(h:kp B w a I)(H:Below B w w'):kp B w' a I:=by
 intro i G;obtain⟨b,o,e,A,C,D,E⟩:=h i G;exact⟨b,o,e,A,(H.cell (p:=⟨b,_,Ë⟩) A).trans C,(H.cell (p:=⟨b,_,Ë⟩) A).trans D,(H.cell (p:=⟨b,_,Ë⟩) A).trans E⟩
theorem kp.nods{B w a A}(h:kp B w a A)(C:B<=w.heap.size):aS w a A:=by grind [kp,aS]
end Go.Proofs.YtelcnplcpboonaaGreatDoor
namespace Go.Proofs.YtelcnplcpboonaaGreatDoor
open Go Go.RowKit
structure Ex(S:Nat->Prop)(w w':Æ):Prop where
 os:w'.os=w.os
 tape:w'.tape=w.tape
 output:w'.output=w.output
 size:w.heap.size<=w'.heap.size
 block:∀k,k<w.heap.size->¬S k->w'.heap[k]?=w.heap[k]?
section
variable {S R:Nat→Prop} {a w w':Æ}
theorem Ex.refl(S:Nat->Prop)(w):Ex S w w:=⟨rfl,rfl,rfl,Nat.le_refl _,λ_ _ _=>rfl⟩
theorem Ex.trans(h:Ex S a w)(k:Ex S w w'):Ex S a w':=⟨k.os.trans h.os,k.tape.trans h.tape,k.output.trans h.output,Nat.le_trans h.size k.size,λi a A=>(k.block i (Nat.lt_of_lt_of_le a h.size) A).trans (h.block i a A)⟩
theorem Ex.mono(h:Ex S w w')(C:∀k,S k->R k):Ex R w w':=⟨h.os,h.tape,h.output,h.size,λk A B=>h.block k A λe=>B (C k e)⟩
theorem Ex.of(h:Below w w w'):Ex S w w':=⟨h.os,h.tape,h.output,h.size,λk A _=>h.block k A⟩
theorem Ex.at{p}(B:S p.block)(v):Ex S w (w.setCell p v):=⟨rfl,rfl,rfl,by simp[World.setCell],λk _ A=>Below.heap_setCell _ _ _ _ (by rintro rfl;exact A B)⟩
theorem Ex.W{B}(h:Ex S w w')(A:∀k,S k->B<=k)(C:B<=w.heap.size):Below B w w':=⟨h.os,h.tape,h.output,h.size,λk D=>h.block k (by omega) λe=>by have:=A k e;omega⟩
theorem Ex.cell(h:Ex S w w'){p v}(A:w.cell? p=Ä v)(B:¬S p.block):w'.cell? p=Ä v:=(World.cell?_of_block (w:=w) (h.block p.block (World.block_lt_of_cell? _ _ A) B)).trans A
theorem Ex.fresh(h:Ex S a w)(k:Ex R w w')(A:∀i,R i->a.heap.size<=i):Ex S a w':=⟨k.os.trans h.os,k.tape.trans h.tape,k.output.trans h.output,Nat.le_trans h.size k.size,λi a B=>(k.block i (Nat.lt_of_lt_of_le a h.size) λe=>by have:=A i e;omega).trans (h.block i a B)⟩
theorem Ex.put(l o)(B:S l):Ex S w (w.putObj l o):=⟨rfl,rfl,rfl,by simp,λk _ A=>World.putObj_heap_other (by rintro rfl;exact A B)⟩
end
def l6(B k:Nat):Prop:=k=B\/k=B+1
def jW(w:Æ)(k:Nat):Prop:=∀o,w.heap[k]?=Ä o->(∃x,o=.loop x)\/∃x,o=.deferred x
variable {F:Fence} {n:Nat} {P:Program}
theorem JP{α:Type}{g ps H M}{Q:Exit->Act->Æ->Prop}{a}{w:Æ}
  (Am:F.round=Ë) (h1:1<=n) {gf lb} (hg:a.eval g=.func (.func gf) #[] lb) (Ae:F.fn gf) (eg:∀a w,(callFunc gf a).run P w=.ok (.enter gf a) w)
  {enc:α->Array Value} {T:List α->Prop} {N:List α->α->Prop}
  (Ac:∀(l:Nat)(J:List α->Æ->Prop)(W:Æ),Below w w W->(∀s A k,J s A->J s (A.drewN k))->
   (∀a x A,J a A->N a x->YieldAt F (n-1-1) P l (enc x) A λe b=>e=.returned (.bool true)/\J (a++[x]) b)->J [] W->
   CallsIn F (n-1) P gf (#[.func (.yield l) #[] #[]]++lb) W λe a=>(∃v,e=.returned v)/\∃b,T b/\J b a)
  (Al:∀x,(enc x).size=ps.size) (I:List α->Æ->Prop) (h0:I [] w)
  (hI:∀s A a,I s A->Ex (l6 w.heap.size) A a->(∀k,l6 w.heap.size k->jW A k)->I s a) (a₁:α->Act)
  (V:∀(l:Nat)(x:α)(W:Æ)(K:Act->Æ->Prop),K (a₁ x) W->
   H.wpIn (F.inRound l) (n-1-1) P (Exit.then K (λ_ _ _=>False)) {tmps:=(ps.zip (enc x)).foldl (λt(p,v)=>t.setIfInBounds p v) a.tmps,defers:=[]} W)
  (X:∀(l:Nat)(pre:List α)(x:α)(W:Æ),I pre W->N pre x->w.heap.size+1<W.heap.size->(∀k,l6 w.heap.size k->jW W k)->
   M.wpIn (F.inRound l) (n-1-1) P (λe _ a=>e=.normal/\(∀k,l6 w.heap.size k->a.heap[k]?=W.heap[k]?)/\I (pre++[x]) a) (a₁ x) W)
  (Y:∀(D:Nat)(xs:List α)(W:Æ),w.heap.size<=D->T xs->I xs W->W.heap[D]?=Ä (.deferred (Ä []))->Q .normal {a with defers:={target:=.collected D,args:=#[]}::a.defers} W):
  (Code.rangeFunc g ps H M).wpIn F n P Q a w:=by
 obtain⟨B,hB⟩:∃B,B=w.heap.size:=⟨_,rfl⟩;rw[<-hB]at hI X Y;refine wpIn_rangeFunc λf0 hfn=>?_
 rw[Am];obtain⟨Z,E⟩:∃Z:LoopState->Obj,Z=λG=>.loop {state:=G,pending:=Ë,fn:=f0,tmps:=a.tmps,params:=ps,assign:=H,body:=M,defers:=B}:=⟨_,rfl⟩
 obtain⟨r,m⟩:∃r:Obj,r=.deferred (Ä []):=⟨_,rfl⟩;obtain⟨c,C⟩:∃c:LoopState->Æ->Prop,c=λG A=>A.heap[B]?=Ä r/\A.heap[B+1]?=Ä (Z G):=⟨_,rfl⟩
 have L:∀G A,c G A->∀k,l6 B k->jW A k:=by
  intro G A h k hk o u;rw[C]at h;rcases hk with rfl|rfl
  .rw[h.1,m]at u;cases u;exact .inr ⟨_,rfl⟩
  .rw[h.2,E]at u;cases u;exact .inl ⟨_,rfl⟩
 have size:∀G A,c G A->B+1<A.heap.size:=by
  intro G A h;rw[C]at h;exact(Array.getElem?_eq_some_iff.1 h.2).1
 have b:∀G f A s,c G A->I s A->c f (A.putObj (B+1) (Z f))/\I s (A.putObj (B+1) (Z f)):=by
  intro G f A s h hs;refine⟨?_,hI s _ _ hs (.put _ _ (.inr rfl)) (L G A h)⟩;have hz:=size G A h;rw[C]at h⊢;exact⟨(World.putObj_heap_other (by omega)).trans h.1,World.putObj_heap_same hz⟩
 have hw:(w.alloc r).heap.size=B+1:=by rw[World.size_alloc,hB]
 obtain⟨d,j⟩:∃d,d=(w.alloc r).alloc (Z .ready):=⟨_,rfl⟩
 have Ah:c .ready d:=by
  rw[C,j];refine⟨?_,?_⟩
  .exact(Below.heap_alloc _ _ _ (by rw[hw];omega)).trans (by rw[hB];exact World.alloc_heap_new w _)
  .have:=World.alloc_heap_new (w.alloc r) (Z .ready)
   rwa[hw]at this
 have z:Below w w d:=by
  rw[j];exact((Below.refl _ w).alloc Zl _).alloc (by rw[hw];omega) _
 have Af:I [] d:=hI _ _ _ h0 (.of z) (by
  intro k hk o u
  have:=(Array.getElem?_eq_some_iff.1 u).1
  rcases hk with rfl|rfl<;>omega)
 refine⟨B+1,[{target:=.collected B,args:=#[]}],d,{target:=.fn (.func gf) lb,args:=#[.func (.yield (B+1)) #[] #[]]},d,gf,#[.func (.yield (B+1)) #[] #[]]++lb,d,?_,?_,?_,?_,λ_=>h1,?_⟩
 .rw[j,m,E,hB];exact run_enterLoop_outer _ _ _ _ _
 .simp only[resolve,hg];simp[go_sem]
 .intro f' Aa;simp[Target.leads]at Aa;subst Aa;exact Ae
 .simp[invoke,go_sem,eg]
 refine(Ac (B+1) (λs A=>I s A/\c .ready A) d z ?_ ?_ ⟨Af,Ah⟩).mono ?_
 .rintro s A k⟨y,O⟩;refine⟨hI s _ _ y ⟨rfl,rfl,rfl,Nat.le_refl _,λ_ _ _=>rfl⟩ (L _ _ O),?_⟩;rw[C]at O⊢;exact O
 .rintro pre x A⟨y,O⟩Ak;have hA:A.heap[B+1]?=Ä (Z .ready):=by rw[C]at O;exact O.2
  have hy:=run_yield (P:=P) (args:=enc x) (by rw[hA,E]) (Al x);refine⟨f0,_,H,M,hy,roundIn_of_wpIn hfn (V _ x A _ ?_)⟩;have Ai:=run_beginRound (P:=P) (w:=A) (by rw[hA,E]) rfl;obtain⟨S,Ag⟩:=b .ready .busy A pre O y;refine⟨_,Ai,?_⟩;rw[show(Obj.loop {state:=.busy,pending:=Ë,fn:=f0,tmps:=a.tmps,params:=ps,assign:=H,body:=M,defers:=B})=Z .busy by rw[E]];refine wpIn_mono (X _ pre x _ Ag Ak (size _ _ S) (L _ _ S)) ?_;rintro e a3 W3⟨rfl,Ab,Aj⟩
  have i:c .busy W3:=by
   rw[C]at S⊢;exact⟨(Ab _ (.inl rfl)).trans S.1,(Ab _ (.inr rfl)).trans S.2⟩
  have Ad:W3.heap[B+1]?=Ä (Z .busy):=by rw[C]at i;exact i.2
  have q:=run_endRound (P:=P) (w:=W3) Ë (by rw[Ad,E]);obtain⟨U,R⟩:=b .busy .ready W3 _ i Aj;refine⟨_,_,q,rfl,?_⟩;rw[E]at U R;exact⟨R,U⟩
 .rintro e W2⟨⟨v,rfl⟩,xs,hT,y,O⟩;have hA:W2.heap[B+1]?=Ä (Z .ready):=by rw[C]at O;exact O.2
  have q:=run_endLoop (P:=P) (w:=W2) (by rw[hA,E]) (by simp);obtain⟨U,R⟩:=b .ready .exhausted W2 _ O y;refine⟨Ë,_,q,Y B xs _ (by omega) hT (by rw[E]at R;exact R) ?_⟩;rw[E,C,m]at U;exact U.1
end Go.Proofs.YtelcnplcpboonaaGreatDoor
namespace Go.Proofs.YtelcnplcpboonaaGreatDoor
open Go Go.RowKit
set_option maxRecDepth 100000
set_option maxHeartbeats 1000000
def mt(a b:Int × Int):Bool:=if a.1 != b.1 then decide (a.1<b.1)else decide (a.2<b.2)
theorem N4(a b)(w:Æ):
  Cb 102 #[.agg #[a.1,a.2],.agg #[b.1,b.2]] w (.bool (mt a b)):=by
 unfold Cb;by_cases h:a.1=b.1
 .have A:mt a b=decide (a.2<b.2):=by simp[mt,h]
  rw[A];have B:(a.1 != b.1)=false:=by simp[h]
  go_in;go_wp2;go_ret;exact⟨rfl,(Zb.alloc Zl _).alloc (by simp) _⟩
 .have A:mt a b=decide (a.1<b.1):=by simp[mt,h]
  rw[A];have B:(a.1 != b.1)=true:=by simp[h]
  go_in;go_wp2;go_ret;exact⟨rfl,(Zb.alloc Zl _).alloc (by simp) _⟩
theorem KM(a b):mt ((a.1:Int),(a.2:Int)) ((b.1:Int),(b.2:Int))=decide (dG a b):=by grind [mt,dG]
theorem SJ(a b)(w:Æ):
  Cb 102 #[.agg #[(a.1:Int),(a.2:Int)],.agg #[(b.1:Int),(b.2:Int)]] w (.bool (decide (dG a b))):=by
 unfold Cb;have:=N4 ((a.1:Int),(a.2:Int)) ((b.1:Int),(b.2:Int)) w
 rw[KM]at this;exact this
