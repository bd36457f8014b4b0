import Derived.Test.YtelcnplcpboonaaGreatDoorPe06
import Derived.Lib.Fields
import Derived.Test.YtelcnplcpboonaaGreatDoorRows
import Derived.Deep.Slices
import Derived.Carry
import Derived.RowKit
import Derived.SizedLaws
open Go.Proofs.Tryz
open List renaming length->ſ
open List renaming length_cons->À,length_nil->Á,length_append->Â,mem_append->Ã,concat_eq_append->Å,cons_append->È,all_eq_true->Ê,mem_cons->Ë,flatMap_cons->Í,length->Ï,length_drop->Ð,take_append_drop->Ò,length_pos_iff->Ó,take_length->Ö,map_cons->Ù,sum_cons->Ú
open Bool renaming false_eq_true->Ä,true->Ç,and_eq_true->É,false->Û
open Go.Lib renaming isSp->Æ,fieldsGo->Î,fields->Ñ,fieldsGo_more->Ô,fieldsGo_end->Õ,fieldsGo_sp->Ø
open List.cons renaming injEq->Ì
namespace Go.Proofs.YtelcnplcpboonaaGreatDoor
open Go Go.RowKit
def jO:Int->List (List Td)->Prop
 | _,[]=>True
 | prev,t::r=>ag t=0/\¬(aR t=9/\prev=9)/\jO (aR t) r
theorem MG:∀(ps:List (List Td))(prev:Int)(k:Nat),(fB prev k ps).2=0->jO prev ps:=by intro ps;induction ps<;>grind [fB,jO]
theorem r9{ps}(h:(aW ps).2=0):ſ ps<=20/\jO 0 ps:=by grind [aW,MG,jO]
theorem La{t}(h:ag t=0)(rest i):(bZ (aT t++10::rest) i).map (·.2)=iA t++(bZ rest (i+(aT t).length+1)).map (·.2)/\cM (aT t++10::rest) i=cM rest (i+(aT t).length+1):=by
 have P:∀{s:List UInt8}{ws:List Wd},Lx s ws->(bZ (s++10::rest) i).map (·.2)=ws++(bZ rest (i+ſ s+1)).map (·.2)/\cM (s++10::rest) i=cM rest (i+ſ s+1):=λ{s ws}I=>by
  obtain⟨Y,Z⟩:=I (10::rest) i (lD rfl rest);have e:lx (10::rest) (i+ſ s)=lx rest (i+ſ s+1):=ku _ _ rfl;rw[Y,Z,bZ,cM,e];exact⟨rfl,rfl⟩
 rcases kL h with⟨x,rfl,A,_,O⟩|⟨x,F,rfl,E,K,I,X⟩
 .have H:aT [x]=i8 x.tx/\iA [x]=[i8 x.tx]:=by
   have g:(Fo.nil).len=aE x:=by unfold aE;rw[A];rfl
   have:=jJ (x:=x) (F:=.nil) trivial g
   rw[show([x]:List Td)=x::Fo.nil.N from rfl,this.1,this.2];simp[fT,jl,A,i8]
  have J:=MA (UY O) rest i;rw[H.1,H.2,bZ,cM,J];exact⟨rfl,rfl⟩
 .have L:F.len=aE x:=by
   rw[I];unfold aE;rcases X with⟨h,_⟩|⟨h,_⟩<;>rw[h]<;>rfl
  obtain⟨H,J⟩:=jJ E L;have S:ſ F.R=1:=by rw[oY];exact I
  obtain⟨t,W⟩:∃t,F.R=[t]:=by
   match F.R,S with
   | [t],_=>exact⟨t,rfl⟩
  have M:=wU F E K t (by rw[W];simp);rw[H,J,W];refine P ?_;have G:=Lx.post M (c:=59) rfl (Lx.mark (c:=59) rfl);rcases X with⟨A,Q,_⟩|⟨A,_,_⟩
  .obtain⟨c,z,e,_,_,f,C⟩:=sC (w:=ae x.tx) Q;have B:=Lx.name C (by rw[e];simp) f;have D:Lx dH [dH]:=Lx.name (by decide) (by decide) (by decide);have a:=Lx.pre (Lx.blank (c:=32) rfl) rfl (Lx.pre (Lx.mark (c:=61) rfl) rfl (Lx.pre (Lx.blank (c:=32) rfl) rfl G));have b:=Lx.app B a (lD rfl _);have d:=Lx.app D (Lx.pre (Lx.blank (c:=32) rfl) rfl b) (lD rfl _);have U:fT x [t]=dH++32::(ae x.tx++32::61::32::(t.tx++[59])):=by simp[fT,A,iM]
   have V:jl x [t]=[dH]++([]++([ae x.tx]++([]++([[61]]++([]++(t.tk++[[59]])))))):=by simp[jl,A,nN]
   rw[U,V];exact d
  .have U:fT x [t]=t.tx++[59]:=by simp[fT,A,iM]
   have V:jl x [t]=t.tk++[[59]]:=by simp[jl,A,nN]
   rw[U,V];exact G
theorem vT:∀(ps:List (List Td))(prev:Int)(i:Nat),jO prev ps->(bZ (dh ps) i).map (·.2)=ps.flatMap iA/\cM (dh ps) i=none
 | [],_,i,_=>by
  rw[show dh []=[]from rfl,bZ,cM,j5];exact⟨rfl,rfl⟩
 | t::r,prev,i,h=>by
  have e:dh (t::r)=aT t++10::dh r:=by rw[JJ];simp
  obtain⟨A,B⟩:=La h.1 (dh r) i;obtain⟨C,D⟩:=vT r _ (i+(aT t).length+1) h.2.2;rw[e,A,B,C,D];exact⟨by simp,rfl⟩
theorem vk:∀(ps:List (List Td))(prev:Int)(pv:Bool)(acc:List (List Td)),jO prev ps->(pv=Ç->prev=9)->PG pv acc (ps.flatMap iA) (.ok (acc++ps))
 | [],_,_,acc,_,_=>by simpa using PG.done
 | t::r,prev,pv,acc,h,hpv=>by
  have ih:∀c,(c=Ç->aR t=9)->PG c (acc++[t]) (r.flatMap iA) (.ok (acc++[t]++r)):=λc e=>vk r (aR t) c (acc++[t]) h.2.2 e
  have d:acc++t::r=acc++[t]++r:=by simp
  rw[d,Í];rcases kL h.1 with⟨x,rfl,A,D,K⟩|⟨x,F,rfl,G,I,V,C⟩
  .have X:iA [x]=[i8 x.tx]:=by
    have Z:(Fo.nil).len=aE x:=by unfold aE;rw[A];rfl
    have:=jJ (x:=x) (F:=.nil) trivial Z
    rw[show([x]:List Td)=x::Fo.nil.N from rfl,this.2];simp[jl,A,i8]
   rw[X]
   have O:pv=false:=by
    cases pv with
    | false=>rfl
    | true=>exact absurd ⟨A,hpv rfl⟩ h.2.1
   have C:x=gL (ae x.tx):=kw A rfl D;refine .note (by unfold i8;split<;>rfl) ?_;rw[NM K,O]
   have H:gg Û acc (ae x.tx)=acc++[[x]]:=by
    rw[gg];simp only[Ä,if_false];rw[<-C]
   rw[H];exact ih Ç (λ_=>A)
  .have J:F.len=aE x:=by
    rw[V];unfold aE;rcases C with⟨h,_⟩|⟨h,_⟩<;>rw[h]<;>rfl
   obtain⟨_,H⟩:=jJ G J;have Q:ſ F.R=1:=by rw[oY];exact V
   obtain⟨t,P⟩:∃t,F.R=[t]:=by
    match F.R,Q with
    | [t],_=>exact⟨t,rfl⟩
   have W:=xZ F G I t (by rw[P];simp)
   have M:t.ns=F.N:=by
    have:=p8 F
    rw[P]at this;simpa using this
   have B:=vS W (rest:=[59]::r.flatMap iA) (by simp) (by simp) (by simp);rw[M]at B;rw[H,P];rcases C with⟨A,L,D⟩|⟨A,S,D⟩
   .have U:jl x [t]++r.flatMap iA=dH::ae x.tx::[61]::(t.tk++[59]::r.flatMap iA):=by simp[jl,A,nN]
    have C:x=iT (ae x.tx):=kw A rfl D;rw[U];refine .letO L B ?_;rw[<-C];exact ih Û (λh=>by cases h)
   .have U:jl x [t]++r.flatMap iA=t.tk++[59]::r.flatMap iA:=by simp[jl,A,nN]
    have C:x=du:=kw A S D;obtain⟨w,z,Y,a⟩:=W.b;have E:=EX a;rw[U];rw[Y,È]at B⊢;refine .doO E.2.2.2.2 E.2.2.2.1 B ?_;rw[<-C];exact ih Û (λh=>by cases h)
theorem Ia:∀a:List Wd,(∀w∈a,ſ w<=20)->(jb a).length<=21*ſ a
 | [],_=>by simp[jb]
 | [w],h=>by
  have:=h w (by simp)
  simp[jb];omega
 | w::u::r,h=>by
  have C:=h w (by simp);have A:=Ia (u::r) λx B=>h x (by simp[B])
  rw[jb,Â];simp only[À]at A⊢;omega
theorem tQ{tx}(h:cX tx=0):tx.size<=1300:=by
 by_cases A:ae tx=[]
 .have:=aw tx
  rw[A]at this;simp at this;omega
 .obtain⟨D,B⟩:=qQ h;have C:ar (ae tx)=bV (ae tx):=by rw[ar,if_neg A]
  rw[C]at D B;have E:=Ia _ λw G=>(B w G).2.1
  rw[pI]at E;rw[<-aw];omega
theorem Hy{y k}(B:(Fo.cons y k .nil).ok)(A:(Fo.cons y k .nil).exs)(E:(Fo.cons y k .nil).N.length<=40):(ao y k.R).tx.length<=640:=by
 have C:=rK _ B A (ao y k.R) (by simp[Fo.R])
 have D:(ao y k.R).ns=(Fo.cons y k .nil).N:=by
  have:=p8 (Fo.cons y k .nil)
  simpa[Fo.R]using this
 rw[D]at C;omega
theorem wN{F:Fo}(h:F.len=1):∃y k,F=.cons y k .nil:=by
 cases F with
 | nil=>cases h
 | cons y k n=>
  cases n with
  | nil=>exact⟨y,k,rfl⟩
  | cons _ _ _=>simp[Fo.len]at h
theorem rD{O}(h:ag O=0):(aT O).length<=2000:=by
 have B:=(lF h).1;rcases kL h with⟨x,rfl,A,_,G⟩|⟨x,F,rfl,C,D,I,J⟩
 .have E:(Fo.nil).len=aE x:=by unfold aE;rw[A];rfl
  have K:aT [x]=fT x []:=(jJ (x:=x) (F:=.nil) trivial E).1;have L:=tQ G;rw[K];unfold fT;rw[if_neg (by omega),if_neg (by omega)]
  split
  .simp
  .simp only[Â,À,Á,aw];omega
 .obtain⟨y,k,rfl⟩:=wN I
  have E:(Fo.cons y k .nil).len=aE x:=by
   rw[I];unfold aE;rcases J with⟨A,_⟩|⟨A,_⟩<;>rw[A]<;>rfl
  have N:=Hy C D (by have:=B;simp only[À]at this;omega);rw[(jJ C E).1];unfold fT;rcases J with⟨A,H,_⟩|⟨A,_,_⟩
  .have M:=jd H;rw[if_pos A];simp only[Â,À,Á,iM,Fo.R];omega
  .rw[if_neg (by omega),if_pos A];simp only[Â,À,Á,iM,Fo.R];omega
theorem GT:∀a:List (List Td),(∀t∈a,ag t=0)->(dh a).length<=2001*ſ a
 | [],_=>by simp[dh]
 | t::r,h=>by
  have B:=rD (h t (by simp));have C:=GT r λx A=>h x (by simp[A])
  rw[JJ];simp only[Â,À,Á];omega
def s9(s:ByteArray)(u:List Wd):Nat:=((ec (ae s))[(aQ (ae s)).length-ſ u]?).getD s.size
inductive cJ (s:ByteArray):List (List Td)->Int->Int->Prop where
 | lex (h:dc (ae s)≠0):cJ s [] ((fX (ae s):Nat):Int) (dc (ae s))
 | bad {u} (h:dc (ae s)=0) (hg:PG Û [] (aQ (ae s)) (.bad u)):cJ s [] ((s9 s u:Nat):Int) 5
 | full {qs} (h:dc (ae s)=0) (hg:PG Û [] (aQ (ae s)) (.ok qs)) (hf:(aW qs).2≠0):cJ s [] 0 (aW qs).2
 | ok {qs} (h:dc (ae s)=0) (hg:PG Û [] (aQ (ae s)) (.ok qs)) (hf:(aW qs).2=0):cJ s qs 0 0
theorem eP{s p D k C f B}(h:cJ s p k f)(A:cJ s D C B):p=D/\k=C/\f=B:=by
 cases h with
 | lex h1=>cases A with
  | lex _=>exact⟨rfl,rfl,rfl⟩
  | bad h2=>exact absurd h2 h1
  | full h2=>exact absurd h2 h1
  | ok h2=>exact absurd h2 h1
 | bad h1 hg=>cases A with
  | lex h2=>exact absurd h1 h2
  | bad _ hg'=>cases j6 hg hg';exact⟨rfl,rfl,rfl⟩
  | full _ hg'=>cases j6 hg hg'
  | ok _ hg'=>cases j6 hg hg'
 | full h1 hg hf=>cases A with
  | lex h2=>exact absurd h1 h2
  | bad _ hg'=>cases j6 hg hg'
  | full _ hg'=>cases j6 hg hg';exact⟨rfl,rfl,rfl⟩
  | ok _ hg' hf'=>cases j6 hg hg';exact absurd hf' hf
 | ok h1 hg hf=>cases A with
  | lex h2=>exact absurd h1 h2
  | bad _ hg'=>cases j6 hg hg'
  | full _ hg' hf'=>cases j6 hg hg';exact absurd hf hf'
  | ok _ hg'=>cases j6 hg hg';exact⟨rfl,rfl,rfl⟩
theorem ut:∀(ps:List (List Td))(prev:Int),jO prev ps->∀t∈ps,ag t=0:=by intro ps;induction ps<;>grind [jO,ag]
theorem Qm(l):ae (ab l)=l:=rfl
def nJ(ps:List (List Td)):ByteArray:=if(aW ps).2=0 then ab (dh ps)else⟨#[]⟩
theorem GU{ps}(h:(aW ps).2=0):nJ ps=ab (dh ps):=by rw[nJ,if_pos h]
theorem Lt{ps}(h:(aW ps).2≠0):nJ ps=⟨#[]⟩:=by rw[nJ,if_neg h]
def nh(s:ByteArray)(W:World)(e:Ending)(w':World):Prop:=∃a k f A c,e=.returned (.tuple #[.slice A (ſ a) c,.int .i64 k,aF f])/\cJ s a k f/\bP w' A a/\(ſ a)<=c/\Below W W w'
abbrev sm(w:Wd):Bool:=!w.isEmpty
theorem vJ:∀(ws:List Wd)(t:Wd),ws.foldl cK t=(ws.filter sm).foldl cK t
 | [],_=>rfl
 | w::r,t=>by
  cases w with
  | nil=>
   have e:cK t []=t:=by simp[cK]
   rw[List.foldl_cons,e,vJ r t];rfl
  | cons c z=>exact vJ r _
theorem xR:∀(l B h:Wd)(tl:List Wd),(∀b∈l,Æ b=Ç->b=32)->bV l=h::tl->Î B l=((B++h)::tl).filter sm
 | [],B,h,tl,_,e=>by
  have G:[[]]=h::tl:=e;simp only[Ì]at G;obtain⟨rfl,rfl⟩:=G;cases B<;>simp[Î]
 | b::l,B,h,tl,hb,e=>by
  have H:∀x∈l,Æ x=Ç->x=32:=λx I=>hb x (by simp[I])
  cases E:bV l with
  | nil=>exact absurd E (kN l)
  | cons h2 tl2=>
   by_cases D:b=32
   .subst D;rw[ou,E]at e;simp only[Ì]at e;obtain⟨rfl,rfl⟩:=e;have ih:=xR l [] h2 tl2 H E;have C:Æ 32=true:=by decide
    cases B with
    | nil=>rw[Ø _ _ C,ih];simp
    | cons a z=>rw[Õ _ _ _ C (by simp),ih];simp
   .have C:Æ b=false:=by
     cases A:Æ b with
     | false=>rfl
     | true=>exact absurd (hb b (by simp) A) D
    rw[ow D E]at e;simp only[Ì]at e;obtain⟨rfl,rfl⟩:=e;rw[Ô _ _ _ C,xR l (B++[b]) h2 tl2 H E];simp
theorem xy{l}(h:∀b∈l,Æ b=Ç->b=32):Ñ l=(bV l).filter sm:=by
 cases A:bV l with
 | nil=>exact absurd A (kN l)
 | cons a tl=>exact xR l [] a tl h A
theorem CF{l}(h:∀b∈l,Æ b=Ç->b=32):∀w∈Ñ l,w≠[]:=by
 intro w A;rw[xy h]at A
 have:=(List.mem_filter.1 A).2
 rintro rfl;simp at this
theorem NN{l}(h:∀b∈l,Æ b=Ç->b=32):gk (ar l)=jb (Ñ l):=by
 have e:(ar l).filter sm=Ñ l:=by
  rw[xy h];unfold ar
  split
  .rename_i h0;subst h0;rfl
  .rfl
 rw[<-Iy (CF h),<-e,gk,gk,vJ]
theorem FZ:∀(a b:List Wd),a≠[]->b≠[]->jb (a++b)=jb a++32::jb b
 | [w],b,_,hb=>by
  cases b with
  | nil=>exact absurd rfl hb
  | cons x y=>simp[jb]
 | w::u::r,b,_,hb=>by
  have ih:=FZ (u::r) b (by simp) hb;rw[È]at ih;simp only[È,jb]at ih⊢;rw[ih];simp
theorem Ib{a}(h:∀w∈a,w≠[]):jb a=[]↔a=[]:=by
 cases a with
 | nil=>simp[jb]
 | cons w r=>
  have:=h w (by simp)
  constructor
  .intro e;have A:=e;exact absurd (List.append_eq_nil_iff.1 A).1 this
  .intro e;cases e
theorem JS{a b}(E:∀w∈a,w≠[])(G:∀w∈b,w≠[]):cK (jb a) (jb b)=jb (a++b):=by
 by_cases A:a=[]
 .subst A
  have:jb ([]:List Wd)=[]:=rfl
  rw[this,cK,if_neg (by simp)];rfl
 .by_cases B:b=[]
  .subst B
   have:jb ([]:List Wd)=[]:=rfl
   rw[this,cK,if_neg (by simp)];simp
  .have C:jb a≠[]:=λe=>A ((Ib E).1 e)
   have D:jb b≠[]:=λe=>B ((Ib G).1 e)
   rw[cK,if_pos ⟨D,C⟩,FZ a b A B];simp
theorem F2:∀a:List Wd,Lib.join a [32]=jb a
 | []=>rfl
 | [w]=>by rw[Lib.join_one];simp[jb]
 | w::u::r=>by
  have ih:=F2 (u::r);rw[Lib.join_cons]at ih⊢;rw[jb,<-ih];simp[Lib.joinTail]
def dT(w:Wd):List Wd:=Ñ (w.drop 1)
def lV(w:Wd):Prop:=w.headD 0=35/\∀b∈w,dW b=Ç
theorem yX{b}(h:dW b=Ç)(B:Æ b=Ç):b=32:=by
 simp only[dW,É,decide_eq_true_eq]at h;simp only[Æ,Bool.or_eq_true,beq_iff_eq]at B;have A:=h.1;rcases B with(((((e|e)|e)|e)|e)|e)<;>subst e<;>first|rfl|(exfalso;revert A;decide)
theorem yS{w}(h:lV w):∀b∈w.drop 1,Æ b=Ç->b=32:=λb A B=>yX (h.2 b (List.mem_of_mem_drop A)) B
theorem yT{w}(h:lV w):cI w=jb (dT w):=NN (yS h)
theorem wL{w}(h:lV w):∀x∈dT w,x≠[]:=CF (yS h)
theorem OK(A X t):gg Ç (A++[[gL X]]) t=A++[[gL (cK X t)]]:=by
 have e:iF (A++[[gL X]])=X:=by
  simp only[iF,List.getLast?_append,List.getLast?_singleton];rfl
 rw[gg,if_pos rfl,e,List.dropLast_concat]
theorem GR:∀(A:List Wd)(acc:List (List Td))(W:List Wd)(ts:List Wd)(r:Rp),(∀w∈A,lV w)->(∀x∈W,x≠[])->PG Ç (acc++[[gL (jb (W++A.flatMap dT))]]) ts r->PG Ç (acc++[[gL (jb W)]]) (A++ts) r
 | [],acc,W,ts,r,_,_,h=>by simpa using h
 | w::z,acc,W,ts,r,hn,hW,h=>by
  have B:=hn w (by simp);refine .note B.1 ?_;rw[OK,yT B,JS hW (wL B)];refine GR z acc (W++dT w) ts r (λx a=>hn x (by simp[a])) ?_ ?_
  .intro x hx;rcases Ã.1 hx with hx|hx
   .exact hW x hx
   .exact wL B x hx
  .rw[Í,<-List.append_assoc]at h;exact h
theorem U9{A B D r}(G:A≠[])(E:∀w∈A,lV w)(h:PG Ç (B++[[gL (jb (A.flatMap dT))]]) D r):PG Û B (A++D) r:=by
 cases A with
 | nil=>exact absurd rfl G
 | cons w z=>
  have C:=E w (by simp);refine .note C.1 ?_;rw[gg,if_neg (by simp),yT C];refine GR z B (dT w) D r (λx H=>E x (by simp[H])) (wL C) ?_;rw[Í]at h;exact h
theorem G5{p:UInt8->Bool}{c r}(H:p c=Ç)(I:(r.takeWhile p).length+1=(c::r).length):∀b∈c::r,p b=true:=by
 have B:r.takeWhile p=r:=by
  have G:=jK (p:=p) r;rw[show(r.takeWhile p).length=ſ r by simp only[À]at I;omega,Ö]at G;exact G.symm
 have E:∀(l:List UInt8)x,x∈l.takeWhile p->p x=true:=by
  intro l
  induction l with
  | nil=>intro x A;cases A
  | cons a l ih=>
   intro x A;rw[List.takeWhile_cons]at A;by_cases D:p a=Ç
   .rw[if_pos D]at A;rcases Ë.1 A with rfl|A
    .exact D
    .exact ih x A
   .rw[if_neg D]at A;cases A
 intro b C;rcases Ë.1 C with rfl|C
 .exact H
 .rw[<-B]at C;exact E r b C
theorem yv{w}(h:dR w):w≠[]:=by
 obtain⟨c,r,rfl,_⟩:=h;simp
theorem VK{w}(h:dR w):bb w=(decide (w≠dH)&&aI (w.headD 0)):=by
 obtain⟨c,r,rfl,_,I,D,_⟩:=h;have C:ae (ab (c::r))=c::r:=rfl;have B:(ab (c::r)).size=(c::r).length:=by rw[<-aw,C]
 unfold bb aL;rw[C,B];show _=(decide ((c::r)≠dH)&&aI c);cases A:aI c with
 | false=>simp[A]
 | true=>
  simp only[bX,A,if_true,decide_eq_true_eq]at I;simp only[aV,A,if_true]at D;have E:=G5 A D;have G:=Ê.2 E;rw[G];have H:(c::r).length<=8:=by omega
  simp only[À]at H⊢;simp;omega
theorem LS{w}(h:dR w)(E:dN w=Ç):(∀b∈w,ay b=Ç)/\(ſ w)<=6:=by
 obtain⟨c,r,rfl,_,D,C,_⟩:=h;have B:ay c=true:=E;have A:=rS B;simp only[bX,A,B,if_true,Ä,if_false,É,decide_eq_true_eq]at D;simp only[aV,A,B,if_true,Ä,if_false]at C;exact⟨G5 B C,by omega⟩
theorem PU{w}(h:dR w)(K:w.headD 0=35):lV w:=by
 obtain⟨c,r,rfl,_,C,I,_⟩:=h;have J:=K;subst J;have D:aI 35=false:=by decide
 have E:ay 35=false:=by decide
 have G:((35:UInt8)==35)=true:=by decide
 simp only[bX,D,E,G,if_true,Ä,if_false]at C;simp only[aV,D,E,G,if_true,Ä,if_false]at I
 have A:r.takeWhile bO=r:=by
  have H:=jK (p:=bO) r;rw[show(r.takeWhile bO).length=ſ r by simp only[À]at I;omega,Ö]at H;exact H.symm
 rw[A,Ê]at C;refine⟨rfl,λb B=>?_⟩;rcases Ë.1 B with rfl|B
 .decide
 .exact C b B
abbrev bD(s:List UInt8):Tr:=.leaf ⟨1,ab s,0⟩
abbrev fq:Tr:=.leaf ⟨2,⟨#[]⟩,0⟩
abbrev qb:Tr:=.leaf ⟨3,⟨#[]⟩,0⟩
abbrev aZ(a b:Tr):Tr:=.two ⟨6,⟨#[]⟩,0⟩ a b
abbrev fs(a:Tr):Tr:=.one ⟨7,⟨#[]⟩,2⟩ a
abbrev fc(a:Tr):Tr:=.one ⟨8,⟨#[]⟩,0⟩ a
def bm(l:Nat)(x:Td)(d:Tr):Tr:=if da x<l then aZ (bD [40]) (aZ d (bD [41]))else d
def df:List (Td × Tr)->Tr
 | []=>bD []
 | p::r=>match r with
  | []=>p.2
  | _::_=>aZ (aZ p.2 (bD [44])) (aZ fq (df r))
def iH(f:Td->Tr->Td->Tr->Tr):List (Td × Tr)->Tr
 | [a,b]=>f a.1 a.2 b.1 b.2
 | _=>bD []
def dm(op cl:List UInt8)(ks:List (Td × Tr)):Tr:=if (ſ ks)=0 then bD (op++cl)else fc (aZ (bD op) (aZ (fs (aZ qb (df ks))) (aZ qb (bD cl))))
def ap(x:Td)(ks:List (Td × Tr)):Tr:=
 if x.op=1 then bD (aA x.n.toNat)
 else if x.op=2 then bD (ae x.tx)
 else if x.op=3 then dm (ae x.tx++[40]) [41] ks
 else if x.op=4 then dm [91] [93] ks
 else if x.op=5 then iH (λx a y b=>fc (aZ (bm 0 x a) (fs (aZ fq (aZ (bD [43,32]) (bm 1 y b)))))) ks
 else iH (λx a y b=>fc (aZ (bm 1 x a) (fs (aZ fq (aZ (bD [42,32]) (bm 2 y b)))))) ks
def Fo.D:Fo->List (Td × Tr)
 | .nil=>[]
 | .cons x k n=>(x,ap x k.D)::n.D
theorem jU:∀F:Fo,ſ F.D=F.len
 | .nil=>rfl
 | .cons _ _ n=>by simp[Fo.D,Fo.len,jU n]
def gp(x:Td)(d:Tr):Tr:=
 if x.op=7 then fc (aZ (bD ([108,101,116,32]++ae x.tx++[32,61])) (fs (aZ fq (aZ d (bD [59])))))else aZ d (bD [59])
theorem jI(s):(bD s).flat=some s:=rfl
theorem gm{a b s t}(A:a.flat=some s)(B:b.flat=some t):(aZ a b).flat=some (s++t):=by
 simp only[Tr.flat,if_true,A,B]
theorem sZ(a):(fs a).flat=a.flat:=rfl
theorem s5(a):(fc a).flat=a.flat:=rfl
theorem sY:fq.flat=some [32]:=rfl
theorem yF:qb.flat=some []:=rfl
def Mt(p:Td × Tr)(t:Tn):Prop:=p.1=t.x/\p.2.flat=some t.tx
theorem s6{p t}(h:Mt p t)(l):(bm l p.1 p.2).flat=some (br l t):=by
 unfold bm br;rw[h.1]
 split
 .rw[gm (jI _) (gm h.2 (jI _))];rfl
 .exact h.2
inductive kY:List (Td × Tr)->List Tn->Prop where
 | nil:kY [] []
 | cons {p t ps ts}:Mt p t->kY ps ts->kY (p::ps) (t::ts)
theorem yE:∀{ps:List (Td × Tr)}{ts:List Tn},kY ps ts->ps≠[]->(df ps).flat=some (cm ts)
 | _,_,.cons h .nil,_=>by simp only[df,cm,List.append_nil];exact h.2
 | _,_,.cons (ps:=p::ps) (ts:=t::ts) h (.cons h2 h3),_=>by
  have ih:=yE (kY.cons h2 h3) (by simp)
  show(aZ (aZ _ (bD [44])) (aZ fq (df (p::ps)))).flat=_
  rw[gm (gm h.2 (jI _)) (gm sY ih)];simp[cm]
theorem FP{ps B}(h:kY ps B)(op cl):(dm op cl ps).flat=some (op++cm B++cl):=by
 unfold dm
 split
 .rename_i h0;cases h with
  | nil=>rw[jI];simp[cm]
  | cons=>simp at h0
 .rename_i h0;have A:ps≠[]:=λe=>h0 (by rw[e];rfl)
  rw[s5,gm (jI _) (gm (by rw[sZ];exact gm yF (yE h A)) (gm yF (jI _)))];simp
theorem Qq{x ps G}(h:kY ps G)(I:ma x)(H:ſ ps=aE x):(ap x ps).flat=some (bh x G):=by
 have E:aE x=2->∃a b c d,ps=[a,b]/\G=[c,d]/\Mt a c/\Mt b d:=λe=>by
  rw[e]at H;cases h with
  | nil=>simp at H
  | cons h1 B=>cases B with
   | nil=>simp at H
   | cons C D=>cases D with
    | nil=>exact⟨_,_,_,_,rfl,rfl,h1,C⟩
    | cons=>simp at H
 rcases iE I with⟨A,_⟩|⟨A,_⟩|⟨A,_⟩|⟨A,_⟩|⟨A,_,_,B⟩|⟨A,_,_,B⟩
 .rw[show ap x ps=bD (aA x.n.toNat) by simp[ap,A],show bh x G=aA x.n.toNat by simp[bh,A]];rfl
 .rw[show ap x ps=bD (ae x.tx) by simp[ap,A],show bh x G=ae x.tx by simp[bh,A]];rfl
 .rw[show ap x ps=dm (ae x.tx++[40]) [41] ps by simp[ap,A],show bh x G=ae x.tx++40::(cm G++[41]) by simp[bh,A],FP h];simp
 .rw[show ap x ps=dm [91] [93] ps by simp[ap,A],show bh x G=91::(cm G++[93]) by simp[bh,A],FP h];simp
 .obtain⟨a,b,c,d,rfl,rfl,C,D⟩:=E B;rw[show ap x [a,b]=fc (aZ (bm 0 a.1 a.2) (fs (aZ fq (aZ (bD [43,32]) (bm 1 b.1 b.2))))) by simp[ap,iH,A],show bh x [c,d]=br 0 c++32::43::32::br 1 d by simp[bh,two2,A]];rw[s5,gm (s6 C 0) (by rw[sZ];exact gm sY (gm (jI _) (s6 D 1)))];rfl
 .obtain⟨a,b,c,d,rfl,rfl,C,D⟩:=E B;rw[show ap x [a,b]=fc (aZ (bm 1 a.1 a.2) (fs (aZ fq (aZ (bD [42,32]) (bm 2 b.1 b.2))))) by simp[ap,iH,A],show bh x [c,d]=br 1 c++32::42::32::br 2 d by simp[bh,two2,A]];rw[s5,gm (s6 C 1) (by rw[sZ];exact gm sY (gm (jI _) (s6 D 2)))];rfl
theorem uN:∀F:Fo,F.ok->F.exs->kY F.D F.R
 | .nil,_,_=>.nil
 | .cons x k n,hok,hex=>by
  have B:=uN k hok.2.1 λy A=>hex y (by simp[Fo.N,A])
  have C:=uN n hok.2.2 λy A=>hex y (by simp[Fo.N,A])
  exact .cons ⟨rfl,Qq B (hex x (by simp[Fo.N])) (by rw[jU];exact hok.1)⟩ C
def Tr.noE:Tr->Prop
 | .leaf x=>x.op≠4
 | .one _ a=>a.noE
 | .two x a b=>x.op=6/\a.noE/\b.noE
theorem UO{c}(h:aI c=Ç):fS c=true:=by grind [aI,fS]
theorem Ue{c}(h:ay c=Ç):fS c=true:=by grind [ay,fS]
theorem kg{s}(C:1<=ſ s)(D:ſ s<=20)(B:∀c∈s,fS c=Ç):(bD s).Wf:=by
 have e:(ab s).size=ſ s:=by rw[<-aw];rfl
 have A:fH (ab s)=true:=by
  simp only[fH,É,decide_eq_true_eq,Ê];exact⟨⟨by omega,by omega⟩,B⟩
 refine⟨?_,rfl⟩;simp only[bz,A];rfl
theorem tc:fq.Wf:=⟨rfl,rfl⟩
theorem QV:qb.Wf:=⟨rfl,rfl⟩
theorem hY{a b}(A:a.Wf)(B:b.Wf):(aZ a b).Wf:=⟨rfl,rfl,A,B⟩
theorem te{a}(A:a.Wf):(fs a).Wf:=⟨rfl,rfl,A⟩
theorem tf{a}(A:a.Wf):(fc a).Wf:=⟨rfl,rfl,A⟩
theorem tg{l x d}(h:d.Wf):(bm l x d).Wf:=by
 unfold bm
 split
 .exact hY (kg (by decide) (by decide) (by decide)) (hY h (kg (by decide) (by decide) (by decide)))
 .exact h
theorem EI:∀a:List (Td × Tr),(∀p∈a,p.2.Wf)->a≠[]->(df a).Wf
 | [p],h,_=>h p (by simp)
 | p::q::r,h,_=>hY (hY (h p (by simp)) (kg (by decide) (by decide) (by decide))) (hY tc (EI (q::r) (λz A=>h z (by simp at A⊢;right;exact A)) (by simp)))
theorem Hh{op cl ps}(h:∀p∈ps,p.2.Wf)(A:1<=ſ op)(B:ſ op+ſ cl<=20)(C:∀c∈op,fS c=Ç)(D:1<=ſ cl)(E:∀c∈cl,fS c=Ç):(dm op cl ps).Wf:=by grind [dm,kg,tf,hY,te,QV,EI,fS]
theorem tu{s}(h:aL s=Ç):1<=(ae s).length/\(ae s).length<=8/\∀c∈ae s,fS c=true:=by
 have A:=jd h;simp only[aL,É,decide_eq_true_eq,Ê]at h;exact⟨by rw[aw];exact h.1.1.1,A,λc B=>UO (h.2 c B)⟩
theorem QU{x ps}(h:∀p∈ps,p.2.Wf)(P:ma x)(O:ſ ps=aE x):(ap x ps).Wf:=by
 have C:aE x=2->∃a b,ps=[a,b]/\a.2.Wf/\b.2.Wf:=λe=>by
  rw[e]at O
  match ps,O with
  | [a,b],_=>exact⟨a,b,rfl,h a (by simp),h b (by simp)⟩
 rcases iE P with⟨A,_,L,N,_⟩|⟨A,H,_⟩|⟨A,H,_⟩|⟨A,_⟩|⟨A,_,_,D⟩|⟨A,_,_,D⟩
 .rw[show ap x ps=bD (aA x.n.toNat) by simp[ap,A]];have M:=gX 5 x.n.toNat (by omega);have D:=Ó.2 (qL x.n.toNat);exact kg (by omega) (by omega) λc B=>Ue (qq _ c B)
 .obtain⟨J,K,I⟩:=tu H;rw[show ap x ps=bD (ae x.tx) by simp[ap,A]];exact kg J (by omega) I
 .obtain⟨J,K,I⟩:=tu H;rw[show ap x ps=dm (ae x.tx++[40]) [41] ps by simp[ap,A]];refine Hh h (by simp) (by rw[Â];simp only[À,Á];omega) (λc B=>?_) (by decide) (by decide);rcases Ã.1 B with B|B
  .exact I c B
  .simp at B;subst B;decide
 .rw[show ap x ps=dm [91] [93] ps by simp[ap,A]];exact Hh h (by decide) (by decide) (by decide) (by decide) (by decide)
 .obtain⟨a,b,rfl,E,G⟩:=C D;rw[show ap x [a,b]=fc (aZ (bm 0 a.1 a.2) (fs (aZ fq (aZ (bD [43,32]) (bm 1 b.1 b.2))))) by simp[ap,iH,A]];exact tf (hY (tg E) (te (hY tc (hY (kg (by decide) (by decide) (by decide)) (tg G)))))
 .obtain⟨a,b,rfl,E,G⟩:=C D;rw[show ap x [a,b]=fc (aZ (bm 1 a.1 a.2) (fs (aZ fq (aZ (bD [42,32]) (bm 2 b.1 b.2))))) by simp[ap,iH,A]];exact tf (hY (tg E) (te (hY tc (hY (kg (by decide) (by decide) (by decide)) (tg G)))))
theorem wG:∀F:Fo,F.ok->F.exs->∀p∈F.D,p.2.Wf
 | .nil,_,_,p,hp=>by cases hp
 | .cons x k n,hok,hex,p,hp=>by
  have B:=wG k hok.2.1 λy A=>hex y (by simp[Fo.N,A])
  have C:=wG n hok.2.2 λy A=>hex y (by simp[Fo.N,A])
  rcases Ë.1 hp with rfl|hp
  .exact QU B (hex x (by simp[Fo.N])) (by rw[jU];exact hok.1)
  .exact C p hp
theorem s7{l x d}(h:d.noE):(bm l x d).noE:=by
 unfold bm
 split
 .exact⟨rfl,by show(1:Int)≠4;decide,rfl,h,by show(1:Int)≠4;decide⟩
 .exact h
theorem yR:∀a:List (Td × Tr),(∀p∈a,p.2.noE)->(df a).noE
 | [],_=>by show(1:Int)≠4;decide
 | [p],h=>h p (by simp)
 | p::q::r,h=>⟨rfl,⟨rfl,h p (by simp),by show(1:Int)≠4;decide⟩,rfl,by show(2:Int)≠4;decide,yR (q::r) (λz A=>h z (by simp at A⊢;right;exact A))⟩
theorem Gk{op cl ps}(h:∀p∈ps,p.2.noE):(dm op cl ps).noE:=by
 unfold dm
 split
 .show(1:Int)≠4;decide
 .exact⟨rfl,by show(1:Int)≠4;decide,rfl,⟨rfl,by show(3:Int)≠4;decide,yR ps h⟩,rfl,by show(3:Int)≠4;decide,by show(1:Int)≠4;decide⟩
theorem Ik{f:Td->Tr->Td->Tr->Tr}{ps}(h:∀p∈ps,p.2.noE)(A:∀x a y b,a.noE->b.noE->(f x a y b).noE):(iH f ps).noE:=by
 unfold iH
 split
 .exact A _ _ _ _ (h _ (by simp)) (h _ (by simp))
 .show(1:Int)≠4;decide
theorem QD{x ps}(h:∀p∈ps,p.2.noE):(ap x ps).noE:=by
 have A:(1:Int)≠4:=by decide
 have B:(2:Int)≠4:=by decide
 unfold ap
 split
 .exact A
 .split
  .exact A
  .split
   .exact Gk h
   .split
    .exact Gk h
    .split
     .exact Ik h λx a y b C D=>⟨rfl,s7 C,rfl,B,rfl,A,s7 D⟩
     .exact Ik h λx a y b C D=>⟨rfl,s7 C,rfl,B,rfl,A,s7 D⟩
theorem vD:∀F:Fo,∀p∈F.D,p.2.noE
 | .nil,p,hp=>by cases hp
 | .cons x k n,p,hp=>by
  rcases Ë.1 hp with rfl|hp
  .exact QD (vD k)
  .exact vD n p hp
def eR(ps:List (Td × Tr)):Nat:=(ps.map λp=>p.2.N.length+5).sum
theorem jc(p r):eR (p::r)=p.2.N.length+5+eR r:=by simp[eR]
theorem nS(l x d):(bm l x d).N.length<=ſ d.N+4:=by grind [bm,Tr.N]
theorem nT:∀a:List (Td × Tr),(df a).N.length<=eR a+1
 | []=>by simp[df,eR,Tr.N]
 | [p]=>by simp only[df,jc];omega
 | p::q::r=>by
  have ih:=nT (q::r)
  show(aZ (aZ p.2 (bD [44])) (aZ fq (df (q::r)))).N.length<=_
  rw[jc];simp only[Tr.N,À,Â,Á];omega
theorem QE{x ps}:(ap x ps).N.length<=15+eR ps:=by
 have A:∀a b:List UInt8,(dm a b ps).N.length<=15+eR ps:=λop cl=>by
  have G:=nT ps;unfold dm
  split
  .simp only[Tr.N,À,Á];omega
  .simp only[Tr.N,À,Â,Á];omega
 have C:∀f:Td->Tr->Td->Tr->Tr,(∀x a y b,(f x a y b).N.length<=15+ſ a.N+ſ b.N)->(iH f ps).N.length<=15+eR ps:=λf I=>by
  unfold iH
  split
  .rename_i a b
   have:=I a.1 a.2 b.1 b.2
   rw[jc,jc];omega
  .simp only[Tr.N,À,Á];omega
 have B:∀(l m:Nat)(H:List UInt8)(x:Td)(a:Tr)(y:Td)(b:Tr),(fc (aZ (bm l x a) (fs (aZ fq (aZ (bD H) (bm m y b)))))).N.length<=15+ſ a.N+ſ b.N:=λl m H x a y b=>by
  have D:=nS l x a;have E:=nS m y b;simp only[Tr.N,À,Â,Á];omega
 unfold ap
 split
 .simp only[Tr.N,À,Á];omega
 .split
  .simp only[Tr.N,À,Á];omega
  .split
   .exact A _ _
   .split
    .exact A _ _
    .split
     .exact C _ (B 0 1 [43,32])
     .exact C _ (B 1 2 [42,32])
theorem o3:∀F:Fo,eR F.D<=20*ſ F.N
 | .nil=>by simp[Fo.D,eR]
 | .cons x k n=>by
  have A:=o3 k;have B:=o3 n;have C:=QE (x:=x) (ps:=k.D);rw[Fo.D,jc,Fo.N];simp only[À,Â];omega
def yZ(ps:List (Td × Tr)):Tr:=match ps with
 | p::_=>p.2
 | []=>bD []
def aN(t:List Td):Tr:=match jE t with
 | .nil=>bD []
 | .cons x k _=>gp x (yZ k.D)
theorem tR{x}{F:Fo}(h:F.ok)(A:F.len=aE x):aN (x::F.N)=gp x (yZ F.D):=by
 rw[aN,yr h A]
structure Qf(t:List Td):Prop where
 f:(aN t).flat=some (aT t)
 w:(aN t).Wf
 e:(aN t).noE
 n:(aN t).N.length<=900
theorem Lm{F:Fo}(A:F.len=1):∃y k,F=.cons y k .nil:=by
 cases F with
 | nil=>cases A
 | cons y k n=>cases n with
  | nil=>exact⟨y,k,rfl⟩
  | cons _ _ _=>simp[Fo.len]at A
theorem tS{t}(h:ag t=0)(A:aR t≠9):∃(x y:Td)(k:Fo),t=x::(Fo.cons y k .nil).N/\(Fo.cons y k .nil).ok/\(Fo.cons y k .nil).exs/\(Fo.cons y k .nil).len=aE x/\((x.op=7/\aL x.tx=Ç/\x.n=0)\/(x.op=8/\x.tx=⟨#[]⟩/\x.n=0)):=by grind [kL,Lm,aE,ag,aR,aL]
theorem o4{t}(h:ag t=0)(f:aR t≠9):Qf t:=by
 have J:=(lF h).1;obtain⟨x,y,k,rfl,E,I,U,Z⟩:=tS h f;have X:=uN _ E I;have Y:=wG _ E I;have W:=vD (.cons y k .nil);have V:=o3 (.cons y k .nil);have B:aN (x::(Fo.cons y k .nil).N)=gp x (ap y k.D):=tR E U;have S:aT (x::(Fo.cons y k .nil).N)=fT x (Fo.cons y k .nil).R:=(jJ E U).1
 have M:(ap y k.D).flat=some (ao y k.R).tx:=by
  cases X with
  | cons h1 _=>exact h1.2
 have H:(ap y k.D).Wf:=Y (y,ap y k.D) (by simp[Fo.D]);have G:(ap y k.D).noE:=W (y,ap y k.D) (by simp[Fo.D])
 have O:(ap y k.D).N.length+5<=20*(Fo.cons y k .nil).N.length:=by
  rw[Fo.D,jc]at V
  have:eR Fo.nil.D=0:=rfl
  exact Nat.le_trans (Nat.le_add_right _ _) V
 simp only[À]at J;generalize ap y k.D=D at B M H G O;have K:(bD [59]).Wf:=kg (by decide) (by decide) (by decide);have Q:(1:Int)≠4:=by decide
 have b:(2:Int)≠4:=by decide
 rcases Z with⟨L,P,_⟩|⟨L,_,_⟩
 .obtain⟨d,e,a⟩:=tu P;have C:gp x D=fc (aZ (bD ([108,101,116,32]++ae x.tx++[32,61])) (fs (aZ fq (aZ D (bD [59]))))):=by rw[gp,if_pos L]
  refine⟨?_,?_,?_,?_⟩
  .rw[B,S,C,s5,gm (jI _) (by rw[sZ];exact gm sY (gm M (jI _)))];simp[fT,L,iM,Fo.R]
  .rw[B,C];refine tf (hY (kg (by simp) (by simp only[Â,À,Á];omega) λc A=>?_) (te (hY tc (hY H K))));rcases Ã.1 A with A|A
   .rcases Ã.1 A with A|A
    .simp at A;rcases A with rfl|rfl|rfl|rfl<;>decide
    .exact a c A
   .simp at A;rcases A with rfl|rfl<;>decide
  .rw[B,C];exact⟨rfl,Q,rfl,b,rfl,G,Q⟩
  .rw[B,C];simp only[Tr.N,À,Â,Á];omega
 .have C:gp x D=aZ D (bD [59]):=by rw[gp,if_neg (by omega)]
  refine⟨?_,?_,?_,?_⟩
  .rw[B,S,C,gm M (jI _)];simp[fT,L,iM,Fo.R]
  .rw[B,C];exact hY H K
  .rw[B,C];exact⟨rfl,G,Q⟩
  .rw[B,C];simp only[Tr.N,À,Â,Á];omega
def i5(D:Tr)(r:List UInt8):Prop:=D.flat=some r\/∃deep cs cs',D.lay deep cs=.ok (r,cs')
theorem xd{s r}(h:i5 (bD s) r):r=s:=by
 rcases h with h|⟨A,C,B,h⟩
 .cases h;rfl
 .cases h;rfl
theorem xc{a b r}(h:i5 (aZ a b) r):∃M c,i5 a M/\i5 b c/\r=M++c:=by
 rcases h with h|⟨A,H,I,h⟩
 .simp only[Tr.flat,if_true]at h;cases B:a.flat with
  | none=>rw[B]at h;cases h
  | some s=>
   cases C:b.flat with
   | none=>rw[B,C]at h;cases h
   | some t=>
    rw[B,C]at h;cases h;exact⟨s,t,.inl B,.inl C,rfl⟩
 .simp only[Tr.lay,if_true]at h;cases D:a.lay A H with
  | error e=>rw[D]at h;cases h
  | ok p=>
   obtain⟨J,G⟩:=p;rw[D]at h;simp only at h;cases E:b.lay A G with
   | error e=>rw[E]at h;cases h
   | ok p2=>
    obtain⟨K,L⟩:=p2;rw[E]at h;cases h;exact⟨J,K,.inr ⟨_,_,_,D⟩,.inr ⟨_,_,_,E⟩,rfl⟩
theorem yy{a r}(h:i5 (fs a) r):i5 a r:=by
 rcases h with h|⟨B,C,A,h⟩
 .exact .inl h
 .exact .inr ⟨_,C,A,h⟩
theorem xb{a r}(h:i5 (fc a) r):i5 a r:=by
 rcases h with h|⟨C,B,D,h⟩
 .exact .inl h
 .simp only[Tr.lay]at h;rw[if_neg (by decide)]at h;cases B with
  | nil=>cases h
  | cons c B=>
   simp only at h
   split at h
   .exact .inr ⟨_,_,_,h⟩
   .cases A:a.flat with
    | none=>rw[A]at h;cases h
    | some s=>rw[A]at h;cases h;exact .inl A
def yi(g:List Wd):Prop:=g≠[]/\(ſ g)<=60/\∀w∈g,w≠[]/\(ſ w)<=20/\∀b∈w,gE b=Ç
theorem LY{b}(h:gE b=Ç):b≠32:=λe=>by subst e;revert h;decide
abbrev jy(g:List Wd):Wd:=[35,32]++jb g
inductive o7 (t:List Td):List UInt8->List Wd->Prop where
 | doc {r cs cs'}:aR t≠9->(aN t).lay 0 cs=.ok (r,cs')->o7 t (r++[10]) (iA t)
 | empty {x}:t=[x]->x.op=9->ae x.tx=[]->o7 t [35,10] [[35]]
 | note {x gs}:t=[x]->x.op=9->gs≠[]->(∀g∈gs,yi g)->gs.flatten=ar (ae x.tx)->ae x.tx≠[]->o7 t (gs.flatMap λg=>jy g++[10]) (gs.map jy)
def Gd(r:List UInt8):Prop:=∀p q,r≠p++32::10::q
theorem pH{a b}(D:Gd a)(C:Gd b)(h:¬(a.getLast?=some 32/\b.head?=some 10)):Gd (a++b):=by
 intro p q e;rcases List.append_eq_append_iff.1 e with⟨c,B,A⟩|⟨c,B,A⟩
 .exact C c q A
 .cases c with
  | nil=>exact C [] q (by simpa using A.symm)
  | cons x c=>
   rw[È,Ì]at A;obtain⟨rfl,A⟩:=A;cases c with
   | nil=>
    refine h ⟨by rw[B];simp,?_⟩
    have:b=10::q:=by simpa using A.symm
    rw[this];rfl
   | cons y c=>
    rw[È,Ì]at A;obtain⟨rfl,_⟩:=A;exact D p c B
theorem rU{r}(h:∀c∈r,c≠32):Gd r:=λp q e=>h 32 (by rw[e];simp) rfl
theorem qP{r}(h:∀c∈r,c≠10):Gd r:=λp q e=>h 10 (by rw[e];simp) rfl
def iq(D:Tr):Prop:=∀r,i5 D r->Gd r
def kk(D:Tr):Prop:=∀r,i5 D r->∃a b,r=a::b/\a≠32/\a≠10
def jL(D:Tr):Prop:=∀r,i5 D r->∃a b,r=b++[a]/\a≠32/\a≠10
theorem im{a b}(H:iq a)(I:iq b)(h:jL a\/kk b):iq (aZ a b):=λr J=>by
 obtain⟨G,rb,D,E,rfl⟩:=xc J;refine pH (H G D) (I rb E) λ⟨B,C⟩=>?_
 rcases h with h|h
 .obtain⟨x,K,rfl,A,_⟩:=h G D;simp at B;exact A B
 .obtain⟨x,K,rfl,_,A⟩:=h rb E;simp at C;exact A C
theorem t8{s}(h:∀c∈s,c≠10):iq (bD s):=λr A=>by rw[xd A];exact qP h
theorem FX{D op}(E:D=.leaf ⟨op,⟨#[]⟩,0⟩)(A:op=2\/op=3):iq D:=λr H=>by
 subst E;rcases H with h|⟨B,I,C,h⟩
 .rcases A with rfl|rfl
  .cases h;exact qP (by simp)
  .cases h;exact qP (by simp)
 .have e:r=[10]++List.replicate B 32:=by
   rcases A with rfl|rfl<;>(cases h;rfl)
  rw[e];exact pH (rU (by simp)) (qP λc G=>by rw[List.eq_of_mem_replicate G];decide) λh=>by simp at h
theorem t5:iq fq:=FX rfl (.inl rfl)
theorem yH:iq qb:=FX rfl (.inr rfl)
theorem t6{a}(h:iq a):iq (fs a):=λ_ A=>h _ (yy A)
theorem t7{a}(h:iq a):iq (fc a):=λ_ A=>h _ (xb A)
theorem t9{a}(h:kk a):kk (fc a):=λ_ A=>h _ (xb A)
theorem ue{a}(h:jL a):jL (fs a):=λ_ A=>h _ (yy A)
theorem uf{a}(h:jL a):jL (fc a):=λ_ A=>h _ (xb A)
theorem lq{a b}(h:kk a):kk (aZ a b):=λr B=>by
 obtain⟨E,rb,A,G,rfl⟩:=xc B;obtain⟨x,D,rfl,C⟩:=h E A;exact⟨x,D++rb,rfl,C⟩
theorem io{a b}(h:jL b):jL (aZ a b):=λr B=>by
 obtain⟨E,rb,G,A,rfl⟩:=xc B;obtain⟨x,D,rfl,C⟩:=h rb A;exact⟨x,E++D,by simp,C⟩
theorem ua{c s}(h:c≠32/\c≠10):kk (bD (c::s)):=λ_ A=>⟨c,s,xd A,h⟩
theorem yM{c s}(h:c≠32/\c≠10):jL (bD (s++[c])):=λ_ A=>⟨c,s,xd A,h⟩
structure Nb(D:Tr):Prop where
 h:kk D
 l:jL D
 g:iq D
theorem kv{s}(A:s≠[])(h:∀c∈s,c≠32/\c≠10):Nb (bD s):=by
 obtain⟨c,r,rfl⟩:=List.exists_cons_of_ne_nil A;refine⟨ua (h c (by simp)),?_,t8 λx B=>(h x B).2⟩;have e:=(List.dropLast_concat_getLast A).symm;rw[e];exact yM (h _ (List.getLast_mem A))
theorem yP{l x d}(h:Nb d):Nb (bm l x d):=by
 unfold bm
 split
 .have A:Nb (bD [40]):=kv (by simp) (by decide);have B:Nb (bD [41]):=kv (by simp) (by decide);exact⟨lq A.h,io (io B.l),im A.g (im h.g B.g (.inl h.l)) (.inl A.l)⟩
 .exact h
theorem yQ:∀a:List (Td × Tr),(∀p∈a,Nb p.2)->a≠[]->Nb (df a)
 | [p],h,_=>h p (by simp)
 | p::q::r,h,_=>by
  have A:=h p (by simp);have ih:=yQ (q::r) (λz C=>h z (by simp at C⊢;right;exact C)) (by simp);have B:Nb (bD [44]):=kv (by simp) (by decide);exact⟨lq (lq A.h),io (io ih.l),im (im A.g B.g (.inl A.l)) (im t5 ih.g (.inr ih.h)) (.inl (io B.l))⟩
theorem Gj{op o cl ps}(h:∀p∈ps,Nb p.2)(H:∀c∈op++[o],c≠32/\c≠10)(G:cl≠32/\cl≠10):Nb (dm (op++[o]) [cl] ps):=by
 have B:Nb (bD (op++[o])):=kv (by simp) H;have C:Nb (bD [cl]):=kv (by simp) (λc E=>by simp at E;subst E;exact G);unfold dm
 split
 .refine kv (by simp) λc E=>?_
  rcases Ã.1 E with A|A
  .exact H c A
  .simp at A;subst A;exact G
 .rename_i h0;have D:=yQ ps h λe=>h0 (by rw[e];rfl)
  exact⟨t9 (lq B.h),uf (io (io (io C.l))),t7 (im B.g (im (t6 (im yH D.g (.inr D.h))) (im yH C.g (.inr C.h)) (.inl (ue (io D.l)))) (.inl B.l))⟩
theorem My{c}(h:aI c=Ç):c≠32/\c≠10:=⟨λe=>by subst e;revert h;decide,λe=>by subst e;revert h;decide⟩
theorem Mk{c}(h:ay c=Ç):c≠32/\c≠10:=⟨λe=>by subst e;revert h;decide,λe=>by subst e;revert h;decide⟩
theorem rY{s}(h:aL s=Ç):ae s≠[]/\∀c∈ae s,c≠32/\c≠10:=by
 have A:=tu h;simp only[aL,É,decide_eq_true_eq,Ê]at h;exact⟨λe=>by rw[e]at A;simp at A,λc B=>My (h.2 c B)⟩
theorem QC{x ps}(h:∀p∈ps,Nb p.2)(O:ma x)(K:ſ ps=aE x):Nb (ap x ps):=by
 have H:aE x=2->∃a b,ps=[a,b]/\Nb a.2/\Nb b.2:=λe=>by
  rw[e]at K
  match ps,K with
  | [a,b],_=>exact⟨a,b,rfl,h a (by simp),h b (by simp)⟩
 have G:∀(l m:Nat)(c:UInt8)(a b:Td × Tr),c≠32/\c≠10->Nb a.2->Nb b.2->Nb (fc (aZ (bm l a.1 a.2) (fs (aZ fq (aZ (bD [c,32]) (bm m b.1 b.2)))))):=λl m c a b A M N=>by
  have J:=yP (l:=l) (x:=a.1) M;have C:=yP (l:=m) (x:=b.1) N;have D:kk (bD [c,32]):=ua A
  have E:iq (bD [c,32]):=t8 λz L=>by
   simp at L;rcases L with rfl|rfl
   .exact A.2
   .decide
  exact⟨t9 (lq J.h),uf (io (ue (io (io C.l)))),t7 (im J.g (t6 (im t5 (im E C.g (.inr C.h)) (.inr (lq D)))) (.inl J.l))⟩
 rcases iE O with⟨B,_⟩|⟨B,I,_⟩|⟨B,I,_⟩|⟨B,_⟩|⟨B,_,_,C⟩|⟨B,_,_,C⟩
 .rw[show ap x ps=bD (aA x.n.toNat) by simp[ap,B]];exact kv (qL _) λc A=>Mk (qq _ c A)
 .rw[show ap x ps=bD (ae x.tx) by simp[ap,B]];exact kv (rY I).1 (rY I).2
 .rw[show ap x ps=dm (ae x.tx++[40]) [41] ps by simp[ap,B]];refine Gj h (λc A=>?_) (by decide);rcases Ã.1 A with A|A
  .exact(rY I).2 c A
  .simp at A;subst A;decide
 .rw[show ap x ps=dm ([]++[91]) [93] ps by simp[ap,B]];exact Gj h (by decide) (by decide)
 .obtain⟨a,b,rfl,D,E⟩:=H C;rw[show ap x [a,b]=fc (aZ (bm 0 a.1 a.2) (fs (aZ fq (aZ (bD [43,32]) (bm 1 b.1 b.2))))) by simp[ap,iH,B]];exact G 0 1 43 a b (by decide) D E
 .obtain⟨a,b,rfl,D,E⟩:=H C;rw[show ap x [a,b]=fc (aZ (bm 1 a.1 a.2) (fs (aZ fq (aZ (bD [42,32]) (bm 2 b.1 b.2))))) by simp[ap,iH,B]];exact G 1 2 42 a b (by decide) D E
theorem wF:∀F:Fo,F.ok->F.exs->∀p∈F.D,Nb p.2
 | .nil,_,_,p,hp=>by cases hp
 | .cons x k n,hok,hex,p,hp=>by
  have B:=wF k hok.2.1 λy A=>hex y (by simp[Fo.N,A])
  have C:=wF n hok.2.2 λy A=>hex y (by simp[Fo.N,A])
  rcases Ë.1 hp with rfl|hp
  .exact QC B (hex x (by simp[Fo.N])) (by rw[jU];exact hok.1)
  .exact C p hp
theorem Mf{t}(h:ag t=0)(R:aR t≠9):Nb (aN t):=by
 obtain⟨x,y,k,rfl,E,H,P,Q⟩:=tS h R;have C:=wF _ E H (y,ap y k.D) (by simp[Fo.D]);have K:aN (x::(Fo.cons y k .nil).N)=gp x (ap y k.D):=tR E P;have B:Nb (bD [59]):=kv (by simp) (by decide);rw[K];simp only at C;generalize ap y k.D=D at C;have G:Nb (aZ D (bD [59])):=⟨lq C.h,io B.l,im C.g B.g (.inl C.l)⟩;rcases Q with⟨J,I,_⟩|⟨J,_,_⟩
 .rw[gp,if_pos J];have L:kk (bD ([108,101,116,32]++ae x.tx++[32,61])):=ua (c:=108) (by decide)
  have M:jL (bD ([108,101,116,32]++ae x.tx++[32,61])):=by
   have e:[108,101,116,32]++ae x.tx++[32,61]=([108,101,116,32]++ae x.tx++[32])++[61]:=by simp
   rw[e];exact yM (by decide)
  have O:iq (bD ([108,101,116,32]++ae x.tx++[32,61])):=t8 λc A=>by
   rcases Ã.1 A with A|A
   .rcases Ã.1 A with A|A
    .simp at A;rcases A with rfl|rfl|rfl|rfl<;>decide
    .exact((rY I).2 c A).2
   .simp at A;rcases A with rfl|rfl<;>decide
  exact⟨t9 (lq L),uf (io (ue (io G.l))),t7 (im O (t6 (im t5 G.g (.inr G.h))) (.inl M))⟩
 .rw[gp,if_neg (by omega)];exact G
theorem tw(v d):aY (v++[d])=aY v*10+(d.toNat-48):=by
 simp[aY,List.foldl_append]
theorem FO{d}(h:ay d=Ç):48<=d.toNat/\d.toNat<=57:=by grind [ay]
theorem zv{d}(h:ay d=Ç):UInt8.ofNat (48+(d.toNat-48))=d:=by
 have A:=FO h;apply UInt8.toNat_inj.1;rw[UInt8.toNat_ofNat'];omega
theorem Kk:∀(n:Nat)(w:Wd),ſ w=n->(∀b∈w,ay b=Ç)->w≠[]->(w.headD 0≠48\/ſ w=1)->aA (aY w)=w:=by
  intro n
  induction n using Nat.strongRecOn with
  | ind n ihn=>
  intro w N I H A;rcases List.eq_nil_or_concat w with e|⟨v,d,e⟩
  .exact absurd e H
  .have E:ay d=true:=I d (by rw[e];simp);have M:=FO E;by_cases B:v=[]
   .subst B;rw[e];have J:aY ([]++[d])=d.toNat-48:=by rw[tw];simp[aY]
    rw[Å,J,aA,dif_pos (by omega),zv E];rfl
   .have K:=Ó.2 B;have L:ſ w=ſ v+1:=by rw[e,Å];simp
    have G:v.headD 0≠48:=by
     rcases A with A|A
     .rw[e,Å]at A;cases v with
      | nil=>exact absurd rfl B
      | cons a r=>exact A
     .omega
    have C:=ihn (ſ v) (by omega) v rfl (λb R=>I b (by rw[e];simp[R])) B (.inl G)
    have O:aY v≠0:=λP=>by
     rw[P]at C;have D:aA 0=[48]:=by rw[aA,dif_pos (by omega)];rfl
     rw[D]at C;rw[<-C]at G;exact G rfl
    rw[e,Å,tw,aA,dif_neg (by omega)];rw[show(aY v*10+(d.toNat-48)) / 10=aY v by omega,show(aY v*10+(d.toNat-48)) % 10=d.toNat-48 by omega,C,zv E]
theorem PP(s):(aK s).length<=aV s:=by grind [aK,tG,aV]
theorem uY:∀(n:Nat)(s:List UInt8)(i:Nat),ſ s<=n->((bZ s i).map λx=>x.2.length).sum<=ſ s
 | 0,s,i,h=>by
  have:s=[]:=List.eq_nil_of_length_eq_zero (by omega)
  subst this;rw[bZ,j5];simp
 | n+1,s,i,h=>by
  cases s with
  | nil=>rw[bZ,j5];simp
  | cons c r=>
   cases A:cZ c with
   | true=>
    have ih:=uY n r (i+1) (by simp at h;omega);rw[bZ,ku r i A];rw[bZ]at ih;simp only[À];omega
   | false=>
    cases B:bX (c::r)with
    | false=>rw[bZ,pL i A B];simp
    | true=>
     have D:=lJ c r;have C:=oN (c::r);have ih:=uY n ((c::r).drop (aV (c::r))) (i+aV (c::r)) (by simp only[Ð];omega);have E:=PP (c::r);rw[Ð]at ih;rw[bZ,nk i A B];simp only[Ù,Ú];omega
theorem Tg(s):((aQ s).map Ï).sum<=ſ s:=by
 have h:=uY (ſ s) s 0 Zl;rw[aQ,List.map_map];exact h
def eC(W:List Wd):Nat:=(W.map λx=>ſ x+1).sum
theorem uA(a b):eC (a++b)=eC a+eC b:=by simp[eC]
theorem ik(x b):eC (x::b)=ſ x+1+eC b:=by simp[eC]
theorem si:∀W:List Wd,ſ W<=eC W
 | []=>Nat.zero_le _
 | x::r=>by have:=si r;rw[ik,À];omega
theorem uc:∀W:List Wd,(jb W).length<=eC W
 | []=>Nat.zero_le _
 | x::r=>by
  have:=uc r
  rw[ik];cases r with
  | nil=>simp[jb];omega
  | cons y r=>
   have e:jb (x::y::r)=x++32::jb (y::r):=by simp[jb]
   rw[e,Â,À];omega
theorem xS:∀(l A:Wd),eC (Î A l)<=2*(ſ A+ſ l)
 | [],A=>by
  cases A with
  | nil=>simp[Î,eC]
  | cons a z=>simp[Î,eC];omega
 | c::l,A=>by
  cases B:Æ c with
  | true=>
   have ih:=xS l [];cases A with
   | nil=>
    rw[Ø _ _ B];simp only[Á,À]at ih⊢;omega
   | cons a z=>
    rw[Õ _ _ _ B (by simp),ik];simp only[Á,À]at ih⊢;omega
  | false=>
   have ih:=xS l (A++[c]);rw[Ô _ _ _ B];simp only[Â,À,Á]at ih⊢;omega
theorem Mn(w):eC (dT w)<=2*ſ w:=by
 have:=xS (w.drop 1) []
 rw[Ð]at this;simp only[Á]at this;show eC (Î [] (w.drop 1))<=_;omega
theorem FT:∀A:List Wd,eC (A.flatMap dT)<=2*(A.map Ï).sum
 | []=>Nat.zero_le _
 | x::r=>by
  have B:=FT r;have C:=Mn x;rw[Í,uA,Ù,Ú];omega
theorem VA(ws:List Wd)(p k):(((ws.drop p).take k).map Ï).sum<=(ws.map Ï).sum:=by
 have e:ws=ws.take p++((ws.drop p).take k++(ws.drop p).drop k):=by rw[Ò,Ò]
 have h:=congrArg (λl=>(l.map Ï).sum) e;simp only[List.map_append,List.sum_append]at h;omega
theorem VQ{x}(h:aq x=0):x.tx.size<=1300:=by grind [aq,tQ,dA,aL,jd,aw]
theorem SA{ps}(h:(aW ps).2=0):∀t∈ps,∀x∈t,x.tx.size<=1300:=by
 intro t B x C;have A:=ut ps 0 (r9 h).2 t B;exact VQ ((lF A).2.1 x C)
