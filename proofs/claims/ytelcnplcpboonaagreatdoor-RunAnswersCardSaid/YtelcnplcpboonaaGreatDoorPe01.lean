import Derived.Test.YtelcnplcpboonaaGreatDoorPe00
import Derived.Lib.Join
import Derived.Lib.IndexBytes
import Derived.Lib.Split
open Go.Proofs.Tryz
open List renaming length->ſ
open List renaming length_cons->À,takeWhile_cons->Á,eq_nil_of_length_eq_zero->Â,take_succ_cons->Ä,drop_eq_getElem_cons->Æ,cons_append->Ç,length_drop->È,take_succ_eq_append_getElem->É,getElem_of_mem->Ê,all_eq_true->Î,map_cons->Ð,drop_eq_nil_of_le->Ñ,getElem_mem->Ò,not_mem_nil->Õ,eq_nil_or_concat->Ú,concat_eq_append->Û,getElem?_of_mem->Ý,drop_succ_cons->Þ,length_pos_iff->ß,mem_cons->à,mem_singleton->á,append_assoc->â,length_nil->ä,length_map->å,foldl_cons->ç,take_left->è,drop_drop->ê,drop_zero->ë,foldl_nil->ì,map_nil->ï
open Go.Lib renaming indexByte->Ã,size_eq->Ü,lens->é
open Bool renaming false_eq_true->Å,false->Ì,true->Ï,and_eq_true->ã,true_and->î
open Option renaming map_eq_some_iff->Ë,bind_some->Ö,map_some->æ,some->í
open UInt8 renaming ofNat->Í
open List.Pairwise renaming nil->Ó
open ByteArray renaming ext->Ô
open List.cons renaming injEq->Ø
open Nat renaming strongRecOn->Ù,le_refl->ð
namespace Go.Proofs.YtelcnplcpboonaaGreatDoor
open Go
def cZ(c:UInt8):Bool:=c==32||c==10
def aI(c:UInt8):Bool:=decide (97<=c.toNat)&&decide (c.toNat<=122)
def ay(c:UInt8):Bool:=decide (48<=c.toNat)&&decide (c.toNat<=57)
def bO(c:UInt8):Bool:=c != 10
def dW(c:UInt8):Bool:=decide (32<=c.toNat)&&decide (c.toNat<=126)
def mw:List UInt8:=[40,41,91,93,44,43,42,61,59]
def ml(c:UInt8):Bool:=mw.any (·==c)
def aV:List UInt8->Nat
 | []=>0
 | c::r=>if aI c then(r.takeWhile aI).length+1 else if ay c then(r.takeWhile ay).length+1 else if c==35 then(r.takeWhile bO).length+1 else 1
def bX:List UInt8->Bool
 | []=>Ì
 | c::r=>if aI c then decide ((r.takeWhile aI).length+1<=8)else if ay c then decide ((r.takeWhile ay).length+1<=6)&&(c != 48||(r.takeWhile ay).length==0)else if c==35 then(r.takeWhile bO).all dW else ml c
def bU(w:List UInt8):List UInt8:=(w.reverse.dropWhile (·==32)).reverse
theorem xv(w):bU (w++[32])=bU w:=by simp[bU]
theorem jA(w){c}(h:c≠32):bU (w++[c])=w++[c]:=by simp[bU,h]
theorem S9:bU []=[]:=rfl
theorem yd(w):∃z,w=bU w++z:=by
 refine⟨(w.reverse.takeWhile (·==32)).reverse,?_⟩;rw[bU,<-List.reverse_append,List.takeWhile_append_dropWhile,List.reverse_reverse]
theorem tG(w):(bU w).length<=ſ w:=by
 obtain⟨z,A⟩:=yd w
 have:=congrArg List.length A
 rw[List.length_append]at this;omega
theorem BO(w):w.take (bU w).length=bU w:=by
 obtain⟨z,B⟩:=yd w;have A:w.take (bU w).length=(bU w++z).take (bU w).length:=congrArg (List.take _) B;rw[A,è]
theorem Jd:∀(n:Nat)(w:List UInt8),ſ w<=n->bU (bU w)=bU w
 | n,w,h=>by
  rcases Ú w with rfl|⟨v,c,rfl⟩
  .rfl
  .rw[Û]at h⊢;by_cases A:c=32
   .subst A;rw[xv]
    match n,h with
    | 0,h=>simp at h
    | n+1,h=>exact Jd n v (by simp at h;omega)
   .rw[jA v A,jA v A]
theorem OB(w):bU (bU w)=bU w:=Jd _ w Zl
theorem xK{c}(h:c≠32)(r):∃z,bU (c::r)=c::z:=by
 obtain⟨z,E⟩:=yd (c::r);cases D:bU (c::r)with
 | nil=>
  exfalso
  have G:∀(l:List UInt8),l.dropWhile (·==32)=[]->∀x∈l,x=32:=by
   intro l
   induction l with
   | nil=>intro _ x B;cases B
   | cons a l ih=>
    intro A x B;rw[List.dropWhile_cons]at A;by_cases C:(a==32)=Ï
    .rw[if_pos C]at A;rcases à.1 B with rfl|B
     .exact beq_iff_eq.1 C
     .exact ih A x B
    .rw[if_neg C]at A;cases A
  rw[bU,List.reverse_eq_nil_iff]at D;exact h (G _ D c (by simp))
 | cons a b=>
  rw[D,Ç,Ø]at E;exact⟨b,by rw[E.1]⟩
def aK(s:List UInt8):List UInt8:=bU (s.take (aV s))
theorem lJ(c r):1<=aV (c::r):=by grind [aV]
theorem rJ{α:Type}(p:α->Bool)(l:List α):(l.takeWhile p).length<=ſ l:=by
 induction l with
 | nil=>simp
 | cons a l ih=>
  rw[Á]
  split
  .simp;omega
  .simp
theorem oN(s):aV s<=ſ s:=by
 cases s with
 | nil=>simp[aV]
 | cons c r=>
  have A:=rJ aI r;have B:=rJ ay r;have C:=rJ bO r;simp only[aV,À]
  split
  .omega
  .split
   .omega
   .split<;>omega
def lx(s:List UInt8)(i:Nat):List (Nat × List UInt8) × Option Nat:=
 match s with
 | []=>([],none)
 | c::r=>
  if cZ c then lx r (i+1)
  else if bX (c::r)then((i,aK (c::r))::(lx ((c::r).drop (aV (c::r))) (i+aV (c::r))).1,(lx ((c::r).drop (aV (c::r))) (i+aV (c::r))).2)
  else([],í i)
termination_by (ſ s)
decreasing_by
 all_goals first
  | (have:=lJ c r;simp only[È,À];omega)
  | (simp only[À];omega)
def bZ(s:List UInt8)(i:Nat):List (Nat × List UInt8):=(lx s i).1
def cM(s:List UInt8)(i:Nat):Option Nat:=(lx s i).2
theorem j5(i):lx [] i=([],none):=by rw[lx]
theorem ku{c}(r i)(h:cZ c=Ï):lx (c::r) i=lx r (i+1):=by rw[lx,if_pos h]
theorem nk{c r}(i)(h:cZ c=Ì)(A:bX (c::r)=Ï):
  lx (c::r) i=((i,aK (c::r))::bZ ((c::r).drop (aV (c::r))) (i+aV (c::r)),cM ((c::r).drop (aV (c::r))) (i+aV (c::r))):=by
 rw[lx,if_neg (by simp[h]),if_pos A];rfl
theorem pL{c r}(i)(h:cZ c=Ì)(A:bX (c::r)=Ì):lx (c::r) i=([],í i):=by
 rw[lx,if_neg (by simp[h]),if_neg (by simp[A])]
theorem G9{p:UInt8->Bool}{x:UInt8}(h:p x=Ì)(t:List UInt8):∀r:List UInt8,(r++x::t).takeWhile p=r.takeWhile p
 | []=>by rw[List.nil_append,Á,if_neg (by simp[h])];rfl
 | a::r=>by
  rw[Ç,Á,Á,G9 h t r]
theorem PQ(c r t):aV (c::r++10::t)=aV (c::r)/\bX (c::r++10::t)=bX (c::r):=by grind [G9,aI,ay,bO,aV,bX]
def dR(w:List UInt8):Prop:=∃c r,w=c::r/\cZ c=Ì/\bX (c::r)=Ï/\aV (c::r)=(c::r).length/\bU (c::r)=c::r
theorem qW{p:UInt8->Bool}:∀(r:List UInt8)(k:Nat),k<=(r.takeWhile p).length->(r.take k).takeWhile p=r.take k
 | _,0,_=>by simp
 | [],k+1,h=>by simp at h
 | a::r,k+1,h=>by
  rw[Á]at h;by_cases A:p a=Ï
  .rw[if_pos A]at h;rw[Ä,Á,if_pos A,qW r k (by simp at h;omega)]
  .rw[if_neg A]at h;simp at h
theorem jK{p:UInt8->Bool}(r:List UInt8):r.take (r.takeWhile p).length=r.takeWhile p:=by
 have:=qW (p:=p) r (r.takeWhile p).length Zl
 induction r with
 | nil=>rfl
 | cons a r ih=>
  rw[Á]
  split
  .rw[À,Ä,ih (qW r _ Zl)]
  .rfl
theorem TH{p:UInt8->Bool}{l:List UInt8}(h:l.all p=Ï)(k):(l.take k).all p=true:=by grind
theorem QQ{p:UInt8->Bool}{l:List UInt8}(h:∀x,p x=Ï->x≠32):bU (l.takeWhile p)=l.takeWhile p:=by
 rcases Ú (l.takeWhile p)with e|⟨v,c,e⟩
 .rw[e];rfl
 .rw[e,Û];refine jA v (h c ?_);have D:c∈l.takeWhile p:=by rw[e];simp
  have B:∀(l:List UInt8)x,x∈l.takeWhile p->p x=true:=by
   intro l
   induction l with
   | nil=>intro x A;cases A
   | cons a l ih=>
    intro x A;rw[Á]at A;by_cases C:p a=Ï
    .rw[if_pos C]at A;rcases à.1 A with rfl|A
     .exact C
     .exact ih x A
    .rw[if_neg C]at A;cases A
  exact B l c D
def gE(b:UInt8):Bool:=decide (33<=b.toNat)&&decide (b.toNat<=126)
def dY(x:ByteArray):Bool:=decide (1<=x.size)&&decide (x.size<=20)&&x.data.toList.all gE
def dF(ws:List ByteArray):Int:=if 60<ſ ws then 3 else if ws.all dY then 0 else 5
def gD(ws:List ByteArray)(wd:Int):Int:=if dF ws≠0 then dF ws else if wd<1\/100<wd then 1 else 0
theorem Jg{ws}(h:dF ws=0):ſ ws<=60/\∀x∈ws,dY x=true:=by grind [dF,dY]
theorem U3{x}(h:dY x=Ï):1<=x.size/\x.size<=20:=by grind [dY]
def dC(ws:List ByteArray):Prop:=ſ ws<=60/\∀x∈ws,x.size<=20
theorem Hz{ws}(h:dF ws=0):dC ws:=by grind [Jg,U3,dF,dC]
theorem dC.take{ws}(h:dC ws)(k):dC (ws.take k):=by grind [dC]
theorem dC.drop{ws}(h:dC ws)(k):dC (ws.drop k):=by grind [dC]
theorem Nu{ws A}(h:gD ws A=0):dF ws=0/\∃n:Nat,A=n/\1<=n/\n<=100:=by
 unfold gD at h
 split at h
 .rename_i h1;exact absurd h h1
 .rename_i h1
  split at h
  .cases h
  .refine⟨by omega,A.toNat,by omega,by omega,by omega⟩
def tot:List ByteArray->Nat
 | []=>0
 | x::r=>x.size+tot r
theorem LU(a b):tot (a++b)=tot a+tot b:=by induction a<;>grind [tot]
theorem VO{ws:List ByteArray}{i}(h:i<ſ ws):tot (ws.take (i+1))=tot (ws.take i)+ws[i].size:=by
 rw[É h,LU];simp[tot]
theorem PV{ws}(h:∀x∈ws,x.size<=20):tot ws<=20*ſ ws:=by induction ws<;>grind [tot]
theorem dC.tot{ws}(h:dC ws):tot ws<=1200:=by
 have:=PV h.2
 have:=h.1
 omega
def ln(ws:List ByteArray):Nat:=tot ws+(ſ ws-1)
theorem dC.ln{ws}(h:dC ws):ln ws<=1260:=by
 have:=h.tot
 have:=h.1
 simp only[Go.Proofs.YtelcnplcpboonaaGreatDoor.ln];omega
def jx(ws:List ByteArray):List UInt8:=Lib.join (ws.map (·.data.toList)) [32]
def dw(ws:List ByteArray):ByteArray:=⟨(jx ws).toArray⟩
theorem UH(ws):é (ws.map (·.data.toList))=tot ws:=by
 induction ws with
 | nil=>rfl
 | cons x r ih=>
  have e:é ((x::r).map (·.data.toList))=ſ x.data.toList+é (r.map (·.data.toList)):=by simp[é]
  rw[e,ih,tot,Ü]
theorem F4(ws):(jx ws).length=ln ws:=by
 cases ws with
 | nil=>rfl
 | cons x r=>
  have h:=Lib.join_length x.data.toList (r.map (·.data.toList)) [32];have A:=UH (x::r);simp only[Ð]at A;simp only[jx,Ð,h,A,ln,À,ä,å];omega
theorem tL(ws):(dw ws).size=ln ws:=by
 rw[<-F4];simp[dw,ByteArray.size]
theorem KG:dw []=⟨#[]⟩:=rfl
theorem Ho(a b:List UInt8):(⟨a.toArray⟩:ByteArray)++⟨b.toArray⟩=⟨(a++b).toArray⟩:=by
 apply Ô;simp
theorem JV(x):(⟨x.data.toList.toArray⟩:ByteArray)=x:=by cases x;simp
theorem RT{ws:List ByteArray}(h:0<ſ ws):dw (ws.take 1)=ws[0]:=by
 cases ws with
 | nil=>simp at h
 | cons x r=>simp[dw,jx,Lib.join_one]
theorem UA(x r y):jx (x::r++[y])=jx (x::r)++[32]++y.data.toList:=by
 simp only[jx,Ð,Ç,List.map_append,ï,Lib.join_cons,Lib.joinTail,List.flatten_append,List.flatten_cons,List.flatten_nil,List.append_nil,â]
theorem UB{ws:List ByteArray}{i}(B:0<i)(h:i<ſ ws):dw (ws.take (i+1))=dw (ws.take i)++⟨#[32]⟩++ws[i]:=by
 rw[É h];cases ws with
 | nil=>simp at h
 | cons x r=>
  obtain⟨j,rfl⟩:∃j,i=j+1:=⟨i-1,by omega⟩;simp only[Ä];have e:=UA x (r.take j) ((x::r)[j+1]'h);simp only[dw,e];have A:(⟨#[32]⟩:ByteArray)=⟨([32]:List UInt8).toArray⟩:=rfl;rw[A]
  conv=>rhs;rw[<-JV ((x::r)[j+1]'h)]
  rw[Ho,Ho]
def bd(n wd:Nat)(last:Bool):Nat:=if wd<n then 1000*(n-wd)else if last then 0 else(wd-n)*(wd-n)
theorem yC{n A last}(B:n<=1260)(C:A<=100):bd n A last<=1300000:=by
 unfold bd
 split
 .omega
 .split
  .omega
  .have:(A-n)*(A-n)<=100*100:=Nat.mul_le_mul (by omega) (by omega)
   omega
def dI(g:Nat->Nat):Nat->Nat
 | 0=>0
 | n+1=>if n=0\/g (n+1)<=dI g n then g (n+1)else dI g n
def i6(g:Nat->Nat):Nat->Nat
 | 0=>0
 | n+1=>if n=0\/g (n+1)<=dI g n then n+1 else i6 g n
theorem JG{g h:Nat->Nat}:∀n,(∀k,1<=k->k<=n->g k=h k)->dI g n=dI h n
 | 0,_=>rfl
 | n+1,e=>by
  have ih:=JG n λk A B=>e k A (by omega)
  simp only[dI,ih,e (n+1) (by omega) Zl]
theorem vU(g:Nat->Nat):∀n k,1<=k->k<=n->dI g n<=g k
 | 0,k,h1,h2=>by omega
 | n+1,k,h1,h2=>by
  simp only[dI]
  split
  .rename_i h;by_cases A:k=n+1
   .subst A;exact ð _
   .have:=vU g n k h1 (by omega)
    rcases h with h|h<;>omega
  .rename_i h;by_cases A:k=n+1
   .subst A;omega
   .exact vU g n k h1 (by omega)
theorem zc(g:Nat->Nat):∀n,1<=n->1<=i6 g n/\i6 g n<=n
 | 0,h=>by omega
 | n+1,h=>by
  simp only[i6]
  split
  .omega
  .rename_i h1
   have:=zc g n (by omega)
   omega
theorem BI(g:Nat->Nat):∀n,1<=n->g (i6 g n)=dI g n
 | 0,h=>by omega
 | n+1,h=>by
  simp only[i6,dI]
  split
  .rfl
  .rename_i h1;exact BI g n (by omega)
theorem BU(g:Nat->Nat):∀n k,i6 g n<k->k<=n->1<=k->g k≠dI g n
 | 0,k,h1,h2,h3=>by omega
 | n+1,k,h1,h2,h3=>by
  simp only[i6]at h1;simp only[dI]
  split at h1
  .omega
  .rename_i h;rw[if_neg h];by_cases A:k=n+1
   .subst A;omega
   .exact BU g n k h1 (by omega) h3
theorem Gh(g:Nat->Nat)(n):dI g (n+1)=if n=0\/g (n+1)<dI g n then g (n+1)else dI g n:=by grind [dI]
def nQ(wd:Nat):List ByteArray->List Nat
 | []=>[0]
 | x::r=>dI (λk=>bd (ln ((x::r).take k)) wd (k==ſ r+1)+(nQ wd r).getD (k-1) 0) (ſ r+1)::nQ wd r
def best(wd:Nat)(ws:List ByteArray):Nat:=(nQ wd ws).getD 0 0
theorem uG(A):best A []=0:=rfl
theorem Jn(A:Nat):∀(ws:List ByteArray)(j:Nat),j<=ſ ws->(nQ A ws).getD j 0=best A (ws.drop j)
 | _,0,_=>by simp[best]
 | [],j+1,h=>by simp at h
 | x::r,j+1,h=>by
  have:=Jn A r j (by simp at h;omega)
  simpa[nQ]using this
def dK(wd:Nat)(ws:List ByteArray)(k:Nat):Nat:=bd (ln (ws.take k)) wd (k==ſ ws)+best wd (ws.drop k)
theorem qJ(A){ws}(h:ws≠[]):best A ws=dI (dK A ws) (ſ ws):=by
 cases ws with
 | nil=>exact absurd rfl h
 | cons x r=>
  simp only[best,nQ,List.getD_cons_zero,À];refine JG _ λk B C=>?_
  obtain⟨j,rfl⟩:∃j,k=j+1:=⟨k-1,by omega⟩;simp only[dK,À,Þ,Nat.add_sub_cancel];rw[Jn A r j (by omega)]
theorem FA{B:Nat}(D:B<=100):∀(n:Nat)(ws:List ByteArray),ſ ws<=n->dC ws->best B ws<=1300000
 | 0,ws,h,_=>by
  have:ws=[]:=Â (by omega)
  subst this;simp[uG]
 | n+1,ws,h,hf=>by
  by_cases A:ws=[]
  .subst A;simp[uG]
  .have C:=ß.2 A;rw[qJ B A];refine Nat.le_trans (vU _ _ (ſ ws) C Zl) ?_;simp only[dK,List.drop_length,uG]
   have:=yC (last:=(ſ ws==ſ ws)) (hf.take (ſ ws)).ln D
   omega
theorem wI{E}(D:E<=100){ws}(C:dC ws)(k):dK E ws k<=2600000:=by
 have A:=FA D _ (ws.drop k) Zl (C.drop k);have B:=yC (last:=(k==ſ ws)) (C.take k).ln D;simp only[dK];omega
def eT(wd:Nat)(ws:List ByteArray):Nat:=i6 (dK wd ws) (ſ ws)
theorem mW(A){ws}(h:ws≠[]):1<=eT A ws/\eT A ws<=ſ ws:=zc _ _ (ß.2 h)
def eF(wd:Nat)(ws:List ByteArray):List Nat:=
 if _h:ws=[]then []else eT wd ws::eF wd (ws.drop (eT wd ws))
termination_by (ſ ws)
decreasing_by
 have:=mW wd _h
 simp only[È];omega
theorem oG(A):eF A []=[]:=by rw[eF];simp
theorem pW(A){ws}(h:ws≠[]):eF A ws=eT A ws::eF A (ws.drop (eT A ws)):=by
 rw[eF,dif_neg h]
def mu:List ByteArray->List Nat->List ByteArray
 | _,[]=>[]
 | ws,k::ks=>dw (ws.take k)::mu (ws.drop k) ks
theorem pK{x}(h:aI x=Ï):x≠32:=by
 rintro rfl;revert h;decide
theorem pG{x}(h:ay x=Ï):x≠32:=by
 rintro rfl;revert h;decide
theorem rS{x}(h:ay x=Ï):aI x=false:=by grind [ay,aI]
theorem oP{p:UInt8->Bool}(h:∀x,p x=Ï->x≠32)(c)(A:p c=Ï)(r:List UInt8):bU (c::r.takeWhile p)=c::r.takeWhile p:=by
 have:=QQ (p:=p) (l:=c::r) h
 rw[Á,if_pos A]at this;exact this
theorem qm(p:UInt8->Bool)(r:List UInt8):(r.takeWhile p).takeWhile p=r.takeWhile p:=by grind [qW,jK]
theorem mn{c}(h:cZ c=Ì):c≠32:=by
 rintro rfl;revert h;decide
theorem yu{c r}(J:cZ c=Ì)(I:bX (c::r)=Ï):dR (aK (c::r)):=by
 cases A:aI c with
 | true=>
  have e:aK (c::r)=c::r.takeWhile aI:=by
   simp only[aK,aV,A,if_true,Ä,jK];exact oP (λ_=>pK) c A r
  refine⟨c,r.takeWhile aI,e,J,?_,?_,oP (λ_=>pK) c A r⟩
  .simp only[bX,A,if_true,qm]at I⊢;exact I
  .simp only[aV,A,if_true,qm,À]
 | false=>
  cases B:ay c with
  | true=>
   have e:aK (c::r)=c::r.takeWhile ay:=by
    simp only[aK,aV,A,B,if_true,Å,if_false,Ä,jK];exact oP (λ_=>pG) c B r
   refine⟨c,r.takeWhile ay,e,J,?_,?_,oP (λ_=>pG) c B r⟩
   .simp only[bX,A,B,if_true,Å,if_false,qm]at I⊢;exact I
   .simp only[aV,A,B,if_true,Å,if_false,qm,À]
  | false=>
   cases C:(c==35)with
   | true=>
    have e:aK (c::r)=bU (c::r.takeWhile bO):=by
     simp only[aK,aV,A,B,C,if_true,Å,if_false,Ä,jK]
    obtain⟨z,H⟩:=xK (mn J) (r.takeWhile bO)
    have E:z=(r.takeWhile bO).take (ſ z):=by
     have:=BO (c::r.takeWhile bO)
     rw[H,À,Ä,Ø]at this;exact this.2.symm
    have D:ſ z<=(r.takeWhile bO).length:=by
     have:=tG (c::r.takeWhile bO)
     rw[H,À,À]at this;omega
    have G:z.takeWhile bO=z:=by
     have:=qW (p:=bO) (r.takeWhile bO) (ſ z) (by rw[qm];exact D)
     rw[<-E]at this;exact this
    refine⟨c,z,by rw[e,H],J,?_,?_,by rw[<-H];exact OB _⟩
    .simp only[bX,A,B,C,if_true,Å,if_false,G]at I⊢;rw[E];exact TH I _
    .simp only[aV,A,B,C,if_true,Å,if_false,G,À]
   | false=>
    have e:aK (c::r)=[c]:=by
     simp only[aK,aV,A,B,C,Å,if_false,Ä,List.take_zero];exact jA [] (mn J)
    refine⟨c,[],e,J,?_,?_,jA [] (mn J)⟩
    .simp only[bX,A,B,C,Å,if_false]at I⊢;exact I
    .simp only[aV,A,B,C,Å,if_false,À,ä]
theorem G6{w}(h:dR w):1<=ſ w:=by
 obtain⟨c,r,rfl,_⟩:=h;simp
theorem MA{w}(h:dR w)(t i):lx (w++10::t) i=((i,w)::bZ t (i+ſ w+1),cM t (i+ſ w+1)):=by
 obtain⟨c,r,rfl,I,H,B,J⟩:=h;obtain⟨A,D⟩:=PQ c r t;rw[Ç]at A D;have C:bX (c::(r++10::t))=true:=by rw[D];exact H
 have E:(c::(r++10::t)).drop (aV (c::(r++10::t)))=10::t:=by
  rw[A,B,<-Ç,List.drop_left]
 have G:aK (c::(r++10::t))=c::r:=by
  rw[aK,A,B,<-Ç,è,J]
 rw[Ç,nk i I C,E,G,A,B,bZ,cM,ku t _ rfl];rfl
def spc:List (List UInt8)->List UInt8
 | []=>[]
 | w::r=>w++10::spc r
def oC(s:List UInt8)(i:Nat)(x:Nat × List UInt8):Prop:=i<=x.1/\x.1+x.2.length<=i+ſ s/\(s.drop (x.1-i)).take x.2.length=x.2/\dR x.2
theorem oC.later{s i k x}(h:oC (s.drop k) (i+k) x)(A:k<=ſ s):oC s i x:=by grind [È,ê,oC]
theorem ug:∀(n:Nat)(s:List UInt8)(i:Nat),ſ s<=n->(∀x∈bZ s i,oC s i x)/\(bZ s i).Pairwise (λa b=>a.1+a.2.length<=b.1)
 | 0,s,i,h=>by
  have:s=[]:=Â (by omega)
  subst this;rw[bZ,j5];exact⟨λx a=>absurd a Õ,Ó⟩
 | n+1,s,i,h=>by
  cases s with
  | nil=>
   rw[bZ,j5];exact⟨λx a=>absurd a Õ,Ó⟩
  | cons c r=>
   cases C:cZ c with
   | true=>
    obtain⟨B,D⟩:=ug n r (i+1) (by simp at h;omega);rw[bZ,ku r i C];exact⟨λx a=>oC.later (s:=c::r) (k:=1) (B x a) (by simp),D⟩
   | false=>
    cases G:bX (c::r)with
    | false=>
     rw[bZ,pL i C G];exact⟨λx a=>absurd a Õ,Ó⟩
    | true=>
     have I:=lJ c r;have E:=oN (c::r)
     have H:(aK (c::r)).length<=aV (c::r):=by
      have:=tG ((c::r).take (aV (c::r)))
      rw[List.length_take]at this;rw[aK];omega
     obtain⟨B,D⟩:=ug n ((c::r).drop (aV (c::r))) (i+aV (c::r)) (by simp only[È,À]at h⊢;omega);rw[bZ,nk i C G];refine⟨λx hx=>?_,List.pairwise_cons.2 ⟨λx hx=>?_,D⟩⟩
     .rcases à.1 hx with rfl|hx
      .refine⟨ð _,by simp only;omega,?_,yu C G⟩;simp only[Nat.sub_self,ë];have A:=BO ((c::r).take (aV (c::r)));rw[List.take_take,Nat.min_eq_left (by rw[aK]at H;exact H)]at A;exact A
      .exact(B x hx).later E
     .have:=(B x hx).1
      simp only;omega
def aQ(s:List UInt8):List (List UInt8):=(bZ s 0).map (·.2)
def ec(s:List UInt8):List Nat:=(bZ s 0).map (·.1)
theorem kX(s):(aQ s).length=(ec s).length:=by simp[aQ,ec]
theorem uo(s j)(h:j<(aQ s).length)(K:j<(ec s).length):
  (ec s)[j]+(aQ s)[j].length<=ſ s/\(s.drop (ec s)[j]).take (aQ s)[j].length=(aQ s)[j]/\dR (aQ s)[j]/\∀k(J:k<(aQ s).length)(H:k<(ec s).length),k<j->(ec s)[k]+(aQ s)[k].length<=(ec s)[j]:=by
 obtain⟨B,C⟩:=ug (ſ s) s 0 Zl;have A:j<(bZ s 0).length:=by simpa[aQ]using h
 obtain⟨_,G,D,E⟩:=B (bZ s 0)[j] (Ò A);simp only[aQ,ec,List.getElem_map]at *;refine⟨by omega,by simpa using D,E,λk J H I=>?_⟩;exact List.pairwise_iff_getElem.1 C k j (by simpa using H) A I
theorem L1(s):∀w∈aQ s,dR w:=by
 intro w B;obtain⟨j,A,rfl⟩:=Ê B;exact(uo s j A (by rw[<-kX];exact A)).2.2.1
theorem uX:∀(n:Nat)(s:List UInt8)(i:Nat),ſ s<=n->(bZ s i).length<=ſ s
 | 0,s,i,h=>by
  have:s=[]:=Â (by omega)
  subst this;rw[bZ,j5];simp
 | n+1,s,i,h=>by
  cases s with
  | nil=>rw[bZ,j5];simp
  | cons c r=>
   cases B:cZ c with
   | true=>
    have:=uX n r (i+1) (by simp at h;omega)
    rw[bZ,ku r i B];simp only[À];rw[bZ]at this;omega
   | false=>
    cases C:bX (c::r)with
    | false=>rw[bZ,pL i B C];simp
    | true=>
     have D:=lJ c r;have A:=oN (c::r)
     have:=uX n ((c::r).drop (aV (c::r))) (i+aV (c::r)) (by simp only[È,À]at h⊢;omega)
     rw[bZ,nk i B C];simp only[À,È]at this A⊢;omega
theorem Tf(s):(aQ s).length<=ſ s:=by
 have:=uX (ſ s) s 0 Zl
 simpa[aQ]using this
def EN(w:List UInt8):Bool:=w.headD 0 != 35
def many(ws:List (List UInt8)):Nat:=(ws.filter EN).length
theorem zX(a b):many (a++b)=many a+many b:=by simp[many]
def dc(s:List UInt8):Int:=if 60000<ſ s then 3 else if(cM s 0).isSome then 5 else if 300<many (aQ s)then 3 else 0
def fX(s:List UInt8):Nat:=if dc s=5 then(cM s 0).getD 0 else 0
theorem tr{s}(h:dc s=0):ſ s<=60000/\cM s 0=none/\many (aQ s)<=300:=by
 unfold dc at h
 split at h
 .cases h
 .split at h
  .cases h
  .split at h
   .cases h
   .rename_i h1 h2 h3;exact⟨by omega,by simpa using h2,by omega⟩
abbrev ae(s:ByteArray):List UInt8:=s.data.toList
theorem aw(s):(ae s).length=s.size:=(Ü s).symm
theorem fv{s k}(h:k<s.size):(ae s).drop k=s[k]::(ae s).drop (k+1):=by
 have A:k<(ae s).length:=by rw[aw];exact h
 rw[Æ A];rfl
def ci(p:UInt8->Bool)(s:ByteArray)(k:Nat):Nat:=(((ae s).drop k).takeWhile p).length
theorem sk{p:UInt8->Bool}{s k}(h:k<s.size)(A:p s[k]=Ï):ci p s k=ci p s (k+1)+1:=by
 rw[ci,fv h,Á,if_pos A];rfl
theorem rH{p:UInt8->Bool}{s k}(h:k<s.size)(A:p s[k]=Ì):ci p s k=0:=by grind [ci,fv,Á]
theorem sj{p:UInt8->Bool}{s k}(h:¬k<s.size):ci p s k=0:=by
 rw[ci,Ñ (by rw[aw];omega)];rfl
def i9(s:ByteArray)(k:Nat):Bool:=(((ae s).drop k).takeWhile bO).all dW
theorem Ls{s k}(h:k<s.size)(A:bO s[k]=Ï):i9 s k=(dW s[k]&&i9 s (k+1)):=by
 rw[i9,fv h,Á,if_pos A,List.all_cons];rfl
theorem MM{s k}(h:k<s.size)(A:bO s[k]=Ì):i9 s k=true:=by grind [i9,fv,Á,bO]
theorem Lr{s k}(h:¬k<s.size):i9 s k=true:=by
 rw[i9,Ñ (by rw[aw];omega)];rfl
def eG(s:ByteArray)(i:Nat):Nat:=aV ((ae s).drop i)
def dS(s:ByteArray)(i:Nat):Bool:=bX ((ae s).drop i)
theorem QL{s i}(h:i<s.size)(A:aI s[i]=Ï):eG s i=ci aI s (i+1)+1/\dS s i=decide (ci aI s (i+1)+1<=8):=by grind [eG,dS,fv,aV,bX,aI,ci]
theorem QK{s i}(h:i<s.size)(A:aI s[i]=Ì)(B:ay s[i]=Ï):eG s i=ci ay s (i+1)+1/\dS s i=(decide (ci ay s (i+1)+1<=6)&&(s[i] != 48||ci ay s (i+1)==0)):=by grind [eG,dS,fv,aV,bX,aI,ay,ci]
theorem PO{s i}(h:i<s.size)(A:aI s[i]=Ì)(B:ay s[i]=Ì)(C:(s[i]==35)=Ï):eG s i=ci bO s (i+1)+1/\dS s i=i9 s (i+1):=by grind [eG,dS,fv,aV,bX,aI,ay,ci,bO,i9]
theorem PN{s i}(h:i<s.size)(A:aI s[i]=Ì)(B:ay s[i]=Ì)(C:(s[i]==35)=Ì):eG s i=1/\dS s i=ml s[i]:=by grind [eG,dS,fv,aV,bX,aI,ay,ml]
theorem EP{s i}(h:i<s.size):1<=eG s i/\i+eG s i<=s.size:=by
 have A:=oN ((ae s).drop i);rw[È,aw]at A;rw[eG];refine⟨?_,by omega⟩;rw[fv h];exact lJ _ _
theorem fC(c)(n:Nat)(A:n<256):((c.toNat:Int)==(n:Int))=(c==Í n):=by
 by_cases h:c=Í n
 .subst h;rw[beq_iff_eq.2 (show((Í n).toNat:Int)=(n:Int) by simp[Nat.mod_eq_of_lt A])];simp
 .rw[beq_false_of_ne h,beq_false_of_ne];intro e;apply h
  have:c.toNat=n:=by omega
  rw[<-this];simp
def ab(w:List UInt8):ByteArray:=⟨w.toArray⟩
theorem m8(s i e):s.extract i e=ab (((ae s).drop i).take (e-i)):=by
 apply Ô;rw[ByteArray.data_extract];apply Array.ext';simp only[ab,Array.toList_extract,List.extract]
structure Td where
 op:Int
 tx:ByteArray
 n:Int
def aE(x:Td):Nat:=if x.op=3\/x.op=4 then x.n.toNat else if x.op=5\/x.op=6 then 2 else if x.op=7\/x.op=8 then 1 else 0
def fW:List Td->Nat->Option Nat
 | _,0=>í 0
 | [],_+1=>none
 | x::r,m+1=>(fW r (aE x+m)).map (· + 1)
theorem pV(A):fW A 0=í 0:=by cases A<;>rfl
theorem oE(m):fW [] (m+1)=none:=rfl
theorem mC(x r m):fW (x::r) (m+1)=(fW r (aE x+m)).map (· + 1):=rfl
theorem vB:∀(ds:List Td)(m k:Nat),fW ds m=í k->m<=k/\k<=ſ ds
 | ds,0,k,h=>by rw[pV]at h;cases h;simp
 | [],m+1,k,h=>by rw[oE]at h;cases h
 | x::r,m+1,k,h=>by
  rw[mC,Ë]at h;obtain⟨j,A,rfl⟩:=h
  have:=vB r _ j A
  simp;omega
theorem uK:∀(ds:List Td)(a b:Nat),fW ds (a+b)=(fW ds a).bind λk=>(fW (ds.drop k) b).map (k+·)
 | ds,0,b=>by
  rw[pV];simp
 | [],a+1,b=>by rw[show a+1+b=(a+b)+1 by omega,oE,oE];rfl
 | x::r,a+1,b=>by
  rw[show a+1+b=(a+b)+1 by omega,mC,mC,show aE x+(a+b)=(aE x+a)+b by omega,uK r _ b];cases fW r (aE x+a)with
  | none=>rfl
  | some k=>
   simp only[Ö,æ,Þ];cases fW (r.drop k) b with
   | none=>rfl
   | some j=>simp;omega
def bJ(ds:List Td)(i m:Nat):Option Nat:=(fW (ds.drop i) m).map (i+·)
theorem CE(A i):bJ A i 0=í i:=by simp[bJ,pV]
theorem oH(A i m)(h:ſ A<=i):bJ A i (m+1)=none:=by
 rw[bJ,Ñ h,oE];rfl
theorem xQ(A i m)(h:i<ſ A):bJ A i (m+1)=bJ A (i+1) (aE A[i]+m):=by
 rw[bJ,Æ h,mC,bJ];cases fW (A.drop (i+1)) (aE A[i]+m)with
 | none=>rfl
 | some k=>simp;omega
theorem Uc(A i a b):bJ A i (a+b)=(bJ A i a).bind λj=>bJ A j b:=by
 rw[bJ,uK,bJ];cases fW (A.drop i) a with
 | none=>rfl
 | some k=>
  simp only[Ö,æ,bJ,ê];cases fW (A.drop (i+k)) b with
  | none=>rfl
  | some j=>simp;omega
theorem Ks{C i m j}(h:bJ C i m=í j):i+m<=j/\(m=0\/j<=ſ C):=by
 rw[bJ,Ë]at h;obtain⟨k,A,rfl⟩:=h;have B:=vB _ _ _ A;rw[È]at B;omega
def aL(s:ByteArray):Bool:=decide (1<=s.size)&&decide (s.size<=8)&&decide (ae s≠[108,101,116])&&(ae s).all aI
def bV:List UInt8->List (List UInt8)
 | []=>[[]]
 | c::r=>if c=32 then []::bV r else match bV r with
  | []=>[[c]]
  | w::ws=>(c::w)::ws
theorem kN(s):bV s≠[]:=by
 cases s with
 | nil=>simp[bV]
 | cons c r=>
  simp only[bV]
  split
  .simp
  .split<;>simp
theorem ou(r):bV (32::r)=[]::bV r:=by simp[bV]
theorem ow{c}(h:c≠32){r w ws}(A:bV r=w::ws):bV (c::r)=(c::w)::ws:=by
 simp only[bV,if_neg h,A]
theorem AX(u r)(h:∀b∈u,b≠32):bV (u++32::r)=u::bV r:=by induction u<;>grind [ou,ow,bV]
theorem AY(u)(h:∀b∈u,b≠32):bV u=[u]:=by induction u<;>grind [ow,bV]
def ar(s:List UInt8):List (List UInt8):=if s=[]then []else bV s
def cX(s:ByteArray):Int:=dF ((ar (ae s)).map ab)
def dA(op:Int):Bool:=decide (op=2)||decide (op=3)||decide (op=7)||decide (op=9)
def aq(x:Td):Int:=
 if x.op<1\/9<x.op then 1
 else if(x.op=1/\(x.n<0\/999999<x.n))\/((x.op=3\/x.op=4)/\(x.n<0\/6<x.n))then 1
 else if(x.op≠1/\x.op≠3/\x.op≠4/\x.n≠0)\/(dA x.op=Ì/\0<x.tx.size)then 2
 else if x.op=9 then cX x.tx
 else if dA x.op=Ï/\aL x.tx=Ì then 5 else 0
def iQ:List Td->Int
 | []=>0
 | x::r=>if aq x=0 then iQ r else aq x
theorem Uv:∀(A:List Td),(∀x∈A,aq x=0)->iQ A=0:=by intro A;induction A<;>grind [iQ,aq]
theorem RO:∀(A:List Td),iQ A=0->∀x∈A,aq x=0:=by intro A;induction A<;>grind [iQ,aq]
theorem FW:∀(A:List Td)(k:Nat)(h:k<ſ A),(∀x∈A.take k,aq x=0)->aq A[k]≠0->iQ A=aq A[k]
 | x::r,0,_,_,h=>by
  have B:aq x≠0:=h;rw[iQ,if_neg B];rfl
 | x::r,k+1,hk,ha,h=>by
  rw[iQ,if_pos (ha x (by simp)),FW r k (by simpa using hk) (λy C=>ha y (by simp[C])) h];rfl
def gK(ds:List Td):Bool:=match ds with
 | []=>Ï
 | x::r=>decide (7<=x.op)&&r.all λy=>decide (y.op<7)
def ag(ds:List Td):Int:=
 if 40<ſ ds then 3 else if iQ ds≠0 then iQ ds else if bJ ds 0 1=í (ſ ds)/\gK ds=Ï then 0 else 2
theorem lF{A}(h:ag A=0):ſ A<=40/\(∀x∈A,aq x=0)/\bJ A 0 1=í (ſ A)/\gK A=true:=by grind [ag,RO,aq,bJ,gK]
theorem Ic{x}(h:aq x=0):aE x<=6:=by grind [aq,aE]
theorem Ma{s:ByteArray}{k}(h:k<s.size):s[k]∈s.data.toList:=by
 have A:k<ſ s.data.toList:=by rw[<-Ü];exact h
 exact Ò A
theorem AF{s}(C:1<=s.size)(D:s.size<=20)(h:∀k(h:k<s.size),gE s[k]=Ï):dY s=true:=by
 simp only[dY,C,D,decide_true,î,Î];intro b A;obtain⟨i,B,rfl⟩:=Ê A;exact h i (by rw[Ü];exact B)
theorem GN{s k}(h:k<s.size)(A:gE s[k]=Ì):dY s=false:=by grind [dY,Ma,gE]
theorem Jf{b}(h:gE b=Ì):(b.toNat:Int)<33\/(¬(b.toNat:Int)<33/\126<(b.toNat:Int)):=by
 simp[gE]at h;omega
theorem BP{b}(h:gE b=Ï):¬(b.toNat:Int)<33/\¬126<(b.toNat:Int):=by
 simp[gE]at h;omega
theorem sw{ws}(h:60<ſ ws):dF ws=3:=by rw[dF,if_pos h]
theorem BR{ws k}(B:ſ ws<=60)(A:k<ſ ws)(h:dY ws[k]=Ì):dF ws=5:=by grind [dF,dY]
theorem BQ{ws}(A:ſ ws<=60)(h:∀j(h:j<ſ ws),dY ws[j]=Ï):dF ws=0:=by grind [dF,Î,Ê,dY]
theorem wR{s}:ae s=[108,101,116]↔s=⟨#[108,101,116]⟩:=by
 constructor
 .intro h;apply Ô;apply Array.ext';exact h
 .intro h;rw[h]
theorem DE{s}(D:1<=s.size)(E:s.size<=8)(G:¬s=⟨#[108,101,116]⟩)(h:∀k(h:k<s.size),aI s[k]=Ï):aL s=true:=by
 have A:ae s≠[108,101,116]:=λe=>G (wR.1 e)
 simp only[aL,D,E,A,decide_true,î,Î,ne_eq,not_false_eq_true];intro b B;obtain⟨i,C,rfl⟩:=Ê B;exact h i (by rw[<-aw];exact C)
theorem DF{s k}(h:k<s.size)(B:aI s[k]=Ì):aL s=false:=by
 cases e:aL s with
 | false=>rfl
 | true=>
  simp only[aL,ã,Î]at e;have A:k<(ae s).length:=by rw[aw];exact h
  have:=e.2 s[k] (Ò A)
  rw[B]at this;cases this
theorem I9{s}(h:s.size<1):aL s=false:=by grind [aL]
theorem JH{s}(h:8<s.size):aL s=false:=by grind [aL]
theorem kW(s):ab (ae s)=s:=by
 obtain⟨d⟩:=s;simp[ab,ae]
theorem Rz{l}(h:Ã l 32=-1):∀b∈l,b≠32:=by
 intro b A e;subst e;obtain⟨k,B⟩:=Ý A;exact Lib.indexByte_none h k B
theorem zs{l}{i:Nat}(h:Ã l 32=i):i<ſ l/\l=l.take i++32::l.drop (i+1)/\∀b∈l.take i,b≠32:=by
 obtain⟨C,D⟩:=Lib.indexByte_some h;obtain⟨B,E⟩:=List.getElem?_eq_some_iff.1 C;refine⟨B,?_,?_⟩
 .have:=(List.take_append_drop i l).symm
  rw[Æ B,E]at this;exact this
 .intro b G e;subst e;obtain⟨k,A⟩:=Ý G;rw[List.getElem?_take]at A
  split at A
  .rename_i hki;exact D k hki A
  .cases A
def cE:Nat->ByteArray->List ByteArray
 | 0,s=>[s]
 | k+1,s=>if Ã s.data.toList 32=-1 then [s]else s.extract 0 (Ã s.data.toList 32).toNat::cE k (s.extract ((Ã s.data.toList 32).toNat+1) s.size)
theorem vn(s):cE 0 s=[s]:=rfl
theorem qE(k){s}(h:Ã s.data.toList 32=-1):cE k s=[s]:=by
 cases k with
 | zero=>rfl
 | succ k=>rw[cE,if_pos h]
theorem qV(k){s}{i:Nat}(h:Ã s.data.toList 32=i):cE (k+1) s=s.extract 0 i::cE k (s.extract (i+1) s.size):=by
 rw[cE,if_neg (by omega),h];rfl
theorem Ql(s i):ae (s.extract 0 i)=(ae s).take i:=by
 rw[m8,ë,Nat.sub_zero];rfl
theorem J9(s i):ae (s.extract i s.size)=(ae s).drop i:=Lib.extract_to_end s i
theorem p7(s:ByteArray):Ã s.data.toList 32=-1\/∃i:Nat,Ã s.data.toList 32=i/\i<s.size:=by
 have A:=Lib.indexByte_ge s.data.toList 32;by_cases h:Ã s.data.toList 32=-1
 .exact .inl h
 .refine .inr ⟨(Ã s.data.toList 32).toNat,by omega,?_⟩
  have:=(zs (l:=ae s) (i:=(Ã s.data.toList 32).toNat) (by show Ã s.data.toList 32=_;omega)).1
  rw[aw]at this;exact this
theorem vp{s}{i:Nat}(h:Ã s.data.toList 32=i):bV (ae s)=ae (s.extract 0 i)::bV (ae (s.extract (i+1) s.size)):=by
 obtain⟨_,A,B⟩:=zs (l:=ae s) h;rw[Ql,J9]
 conv=>lhs;rw[A]
 rw[AX _ _ B]
theorem uz{s}(h:Ã s.data.toList 32=-1):bV (ae s)=[ae s]:=AY _ (Rz (l:=ae s) h)
theorem Vv{s:ByteArray}{i}(h:i<s.size):(s.extract (i+1) s.size).size=s.size-(i+1):=by
 rw[ByteArray.size_extract];omega
theorem GY:∀(k:Nat)(s:ByteArray),s.size<=k->(cE k s).map ae=bV (ae s)
 | 0,s,h=>by
  have e:ae s=[]:=Â (by rw[aw];omega);rw[vn,Ð,ï,e];rfl
 | k+1,s,h=>by
  rcases p7 s with A|⟨i,A,B⟩
  .rw[qE _ A,uz A];rfl
  .rw[qV k A,vp A,Ð,GY k _ (by rw[Vv B];omega)]
theorem GZ:∀(k:Nat)(s:ByteArray),(cE k s).length<=k->(cE k s).map ae=bV (ae s)
 | 0,s,h=>by rw[vn]at h;simp at h
 | k+1,s,h=>by
  rcases p7 s with A|⟨i,A,B⟩
  .rw[qE _ A,uz A];rfl
  .rw[qV k A]at h⊢;rw[À]at h;rw[vp A,Ð,GZ k _ (by omega)]
theorem ym:∀(k:Nat)(s:ByteArray),(cE k s).length<=(bV (ae s)).length
 | 0,s=>by
  rw[vn]
  have:=kN (ae s)
  cases h:bV (ae s)with
  | nil=>exact absurd h this
  | cons a b=>simp
 | k+1,s=>by
  rcases p7 s with A|⟨i,A,B⟩
  .rw[qE _ A,uz A];simp
  .rw[qV k A,vp A,À,À]
   have:=ym k (s.extract (i+1) s.size)
   omega
theorem ET{l:List ByteArray}{m}(h:l.map ae=m):l=m.map ab:=by
 subst h;rw[List.map_map]
 have:(ab∘ae)=id:=by funext s;exact kW s
 rw[this,List.map_id]
theorem SX(s k)(D:k=min 60 s.size):dF (cE k s)=dF ((bV (ae s)).map ab):=by
 by_cases h:s.size<=60
 .rw[ET (GY k s (by omega))]
 .have A:k=60:=by omega
  subst A;by_cases B:(cE 60 s).length<=60
  .rw[ET (GZ 60 s B)]
  .have C:=ym 60 s;rw[sw (by omega),sw (by rw[å];omega)]
theorem UX{s}(h:0<s.size)(k)(A:k=min 60 s.size):dF (cE k s)=cX s:=by grind [SX,cX,ar,aw,dF,cE]
theorem Sl{s}(h:s.size=0):cX s=0:=by
 have e:=Â (by rw[aw];exact h);rw[cX,ar,if_pos e];rfl
theorem Im{op tx n}(_h0:op<1):aq ⟨op,tx,n⟩=1:=by grind [aq]
theorem Io{op tx n}(_h0:¬op<1)(_h1:9<op):aq ⟨op,tx,n⟩=1:=by grind [aq]
theorem Ip{tx n}(_h0:n<0):aq ⟨1,tx,n⟩=1:=by grind [dA,aq]
theorem Iq{tx n}(_h0:¬n<0)(_h1:999999<n):aq ⟨1,tx,n⟩=1:=by grind [dA,aq]
theorem Ir{tx n}(_h0:¬n<0)(_h1:¬999999<n)(_h2:0<(tx.size:Int)):aq ⟨1,tx,n⟩=2:=by grind [dA,aq]
theorem Is{tx n}(_h0:¬n<0)(_h1:¬999999<n)(_h2:¬0<(tx.size:Int)):aq ⟨1,tx,n⟩=0:=by grind [dA,aq]
theorem It{tx n}(_h0:¬n=0):aq ⟨2,tx,n⟩=2:=by grind [dA,aq]
theorem Iu{tx n}(_h0:n=0)(_h1:aL tx=Ï):aq ⟨2,tx,n⟩=0:=by grind [dA,aq,aL]
theorem Iw{tx n}(_h0:n=0)(_h1:aL tx=Ì):aq ⟨2,tx,n⟩=5:=by grind [dA,aq,aL]
theorem Ix{tx n}(_h0:n<0):aq ⟨3,tx,n⟩=1:=by grind [dA,aq]
theorem Gm{tx n}(_h0:¬n<0)(_h1:6<n):aq ⟨3,tx,n⟩=1:=by grind [dA,aq]
theorem Gn{tx n}(_h0:¬n<0)(_h1:¬6<n)(_h2:aL tx=Ï):aq ⟨3,tx,n⟩=0:=by grind [dA,aq,aL]
theorem Gp{tx n}(_h0:¬n<0)(_h1:¬6<n)(_h2:aL tx=Ì):aq ⟨3,tx,n⟩=5:=by grind [dA,aq,aL]
theorem Gq{tx n}(_h0:n<0):aq ⟨4,tx,n⟩=1:=by grind [dA,aq]
theorem Gr{tx n}(_h0:¬n<0)(_h1:6<n):aq ⟨4,tx,n⟩=1:=by grind [dA,aq]
theorem Gs{tx n}(_h0:¬n<0)(_h1:¬6<n)(_h2:0<(tx.size:Int)):aq ⟨4,tx,n⟩=2:=by grind [dA,aq]
theorem Gt{tx n}(_h0:¬n<0)(_h1:¬6<n)(_h2:¬0<(tx.size:Int)):aq ⟨4,tx,n⟩=0:=by grind [dA,aq]
theorem Gu{tx n}(_h0:¬n=0):aq ⟨5,tx,n⟩=2:=by grind [dA,aq]
theorem Gv{tx n}(_h0:n=0)(_h1:0<(tx.size:Int)):aq ⟨5,tx,n⟩=2:=by grind [dA,aq]
theorem Gw{tx n}(_h0:n=0)(_h1:¬0<(tx.size:Int)):aq ⟨5,tx,n⟩=0:=by grind [dA,aq]
theorem Gx{tx n}(_h0:¬n=0):aq ⟨6,tx,n⟩=2:=by grind [dA,aq]
theorem Gy{tx n}(_h0:n=0)(_h1:0<(tx.size:Int)):aq ⟨6,tx,n⟩=2:=by grind [dA,aq]
theorem Gz{tx n}(_h0:n=0)(_h1:¬0<(tx.size:Int)):aq ⟨6,tx,n⟩=0:=by grind [dA,aq]
theorem GA{tx n}(_h0:¬n=0):aq ⟨7,tx,n⟩=2:=by grind [dA,aq]
theorem GB{tx n}(_h0:n=0)(_h1:aL tx=Ï):aq ⟨7,tx,n⟩=0:=by grind [dA,aq,aL]
theorem GC{tx n}(_h0:n=0)(_h1:aL tx=Ì):aq ⟨7,tx,n⟩=5:=by grind [dA,aq,aL]
theorem GD{tx n}(_h0:¬n=0):aq ⟨8,tx,n⟩=2:=by grind [dA,aq]
theorem GE{tx n}(_h0:n=0)(_h1:0<(tx.size:Int)):aq ⟨8,tx,n⟩=2:=by grind [dA,aq]
theorem GF{tx n}(_h0:n=0)(_h1:¬0<(tx.size:Int)):aq ⟨8,tx,n⟩=0:=by grind [dA,aq]
theorem GG{tx n}(_h0:¬n=0):aq ⟨9,tx,n⟩=2:=by grind [dA,aq]
theorem GH{tx n}(_h0:n=0)(_h1:cX tx=0):aq ⟨9,tx,n⟩=0:=by grind [dA,aq,cX]
theorem GI{tx n}(_h0:n=0)(_h1:¬cX tx=0):aq ⟨9,tx,n⟩=cX tx:=by grind [dA,aq,cX]
theorem BL{A}(h:40<ſ A):ag A=3:=by rw[ag,if_pos h]
theorem BM{A k}(D:ſ A<=40)(C:k<ſ A)(B:∀x∈A.take k,aq x=0)(h:aq A[k]≠0):ag A=aq A[k]:=by grind [FW,ag,aq]
theorem tF{A}(C:ſ A<=40)(B:∀x∈A,aq x=0):ag A=if bJ A 0 1=í (ſ A)/\gK A=Ï then 0 else 2:=by grind [ag,Uv,aq,bJ,gK]
theorem BK{A:List Td}{k}(h:k<ſ A)(C:∀x∈A.take k,aq x=0)(B:aq A[k]=0):∀x∈A.take (k+1),aq x=0:=by grind [É,aq]
theorem BB{E}:gK E=Ï↔∀k(h:k<ſ E),decide (7<=E[k].op)=decide (k=0):=by
 cases E with
 | nil=>simp[gK]
 | cons x r=>
  simp only[gK,ã,decide_eq_true_eq,Î];constructor
  .rintro⟨C,D⟩k A;cases k with
   | zero=>simpa using C
   | succ k=>
    have:=D (r[k]'(by simpa using A)) (Ò _)
    simp only[List.getElem_cons_succ,Nat.add_eq_zero_iff,Nat.one_ne_zero,and_false,decide_false,decide_eq_false_iff_not];omega
  .intro h;have B:=h 0 (by simp);simp only[List.getElem_cons_zero,decide_true,decide_eq_true_eq]at B;refine⟨B,λy G=>?_⟩;obtain⟨k,A,rfl⟩:=Ê G
   have:=h (k+1) (by simpa using A)
   simp at this;omega
inductive Fo where
 | nil:Fo
 | cons (x:Td) (k n:Fo):Fo
def Fo.len:Fo->Nat
 | .nil=>0
 | .cons _ _ n=>n.len+1
def Fo.N:Fo->List Td
 | .nil=>[]
 | .cons x k n=>x::(k.N++n.N)
def Fo.ok:Fo->Prop
 | .nil=>True
 | .cons x k n=>k.len=aE x/\k.ok/\n.ok
def Fo.app:Fo->Fo->Fo
 | .nil,g=>g
 | .cons x k n,g=>.cons x k (n.app g)
theorem tZ:∀(l:Nat)(A:List Td)(m k:Nat),ſ A<=l->fW A m=í k->∃F:Fo,F.ok/\F.len=m/\F.N=A.take k
 | l,A,0,k,_,h=>by
  rw[pV]at h;cases h;exact⟨.nil,trivial,rfl,by simp[Fo.N]⟩
 | 0,A,m+1,k,hl,h=>by
  have:A=[]:=Â (by omega)
  subst this;rw[oE]at h;cases h
 | l+1,[],m+1,k,hl,h=>by rw[oE]at h;cases h
 | l+1,x::r,m+1,k,hl,h=>by
  rw[mC,Ë]at h;obtain⟨j,B,rfl⟩:=h;rw[uK]at B;cases C:fW r (aE x)with
  | none=>rw[C]at B;cases B
  | some a=>
   rw[C,Ö,Ë]at B;obtain⟨b,D,rfl⟩:=B;obtain⟨K,E,G,k3⟩:=tZ l r (aE x) a (by simp at hl;omega) C;obtain⟨N,n1,n2,n3⟩:=tZ l (r.drop a) m b (by simp at hl⊢;omega) D;refine⟨.cons x K N,⟨G,E,n1⟩,by simp[Fo.len,n2],?_⟩;have H:=(vB _ _ _ C).2;rw[Fo.N,k3,n3,Ä,Ø];refine⟨rfl,?_⟩;rw[List.take_add]
theorem wM:∀(F:Fo),F.ok->∀(r:List Td)(m:Nat),fW (F.N++r) (F.len+m)=(fW r m).map (ſ F.N+·)
 | .nil,_,r,m=>by simp[Fo.N,Fo.len]
 | .cons x k n,h,r,m=>by
  have B:=wM n h.2.2 r m;have A:=wM k h.2.1 (n.N++r) (n.len+m);rw[B,h.1]at A;have C:(Fo.cons x k n).len+m=(n.len+m)+1:=by simp only[Fo.len];omega
  rw[C,Fo.N,Ç,mC,â,A];cases fW r m with
  | none=>rfl
  | some j=>simp;omega
abbrev Wd:=List UInt8
def aA(n:Nat):Wd:=if h:n<=9 then [Í (48+n)]else aA (n / 10)++[Í (48+n % 10)]
termination_by n
decreasing_by omega
def aY(w:Wd):Nat:=w.foldl (λa c=>a*10+(c.toNat-48)) 0
theorem rQ{n}(h:n<=9):(Í (48+n)).toNat=48+n:=by
 rw[UInt8.toNat_ofNat'];omega
theorem U1(n):aY (aA n)=n:=by
 induction n using Ù with
 | ind n ih=>
  rw[aA]
  split
  .rename_i h;simp only[aY,ç,ì,rQ h];omega
  .rename_i h;have A:=ih (n / 10) (by omega);unfold aY at A⊢;rw[List.foldl_append,A];simp only[ç,ì,rQ (show n % 10<=9 by omega)];omega
theorem qq(n):∀c∈aA n,ay c=true:=by
 induction n using Ù with
 | ind n ih=>
  have B:∀k,k<=9->ay (Í (48+k))=true:=λk C=>by
   simp only[ay,rQ C];simp;omega
  rw[aA]
  split
  .rename_i h;intro c A;rw[á]at A;rw[A];exact B n h
  .rename_i h;intro c A;rcases List.mem_append.1 A with A|A
   .exact ih (n / 10) (by omega) c A
   .rw[á]at A;rw[A];exact B _ (by omega)
theorem qL(n):aA n≠[]:=by
 rw[aA]
 split<;>simp
theorem gX:∀(k n:Nat),n<10 ^ (k+1)->(aA n).length<=k+1:=by intro k;induction k<;>grind [aA]
theorem CB(n)(h:0<n):∃c z,aA n=c::z/\c≠48:=by
 induction n using Ù with
 | ind n ih=>
  rw[aA]
  split
  .rename_i h9;refine⟨_,[],rfl,λe=>?_⟩
   have:=congrArg UInt8.toNat e
   rw[rQ h9]at this;simp at this;omega
  .obtain⟨c,z,e,A⟩:=ih (n / 10) (by omega) (by omega);exact⟨c,z++[Í (48+n % 10)],by rw[e];rfl,A⟩
structure Tn where
 x:Td
 ns:List Td
 tk:List Wd
 tx:List UInt8
def da(x:Td):Nat:=if x.op=5 then 0 else if x.op=6 then 1 else 2
def brk(l:Nat)(t:Tn):List Wd:=if da t.x<l then [40]::(t.tk++[[41]])else t.tk
def br(l:Nat)(t:Tn):List UInt8:=if da t.x<l then 40::(t.tx++[41])else t.tx
def gu:List Tn->List Wd
 | []=>[]
 | t::r=>t.tk++match r with
  | []=>[]
  | _::_=>[44]::gu r
def cm:List Tn->List UInt8
 | []=>[]
 | t::r=>t.tx++match r with
  | []=>[]
  | _::_=>44::32::cm r
def two2{α:Type}(f:Tn->Tn->List α):List Tn->List α
 | [a,b]=>f a b
 | _=>[]
def iU(x:Td)(ks:List Tn):List Wd:=
 if x.op=1 then [aA x.n.toNat]
 else if x.op=2 then [ae x.tx]
 else if x.op=3 then ae x.tx::[40]::(gu ks++[[41]])
 else if x.op=4 then [91]::(gu ks++[[93]])
 else if x.op=5 then two2 (λa b=>brk 0 a++[43]::brk 1 b) ks
 else two2 (λa b=>brk 1 a++[42]::brk 2 b) ks
def bh(x:Td)(ks:List Tn):List UInt8:=
 if x.op=1 then aA x.n.toNat
 else if x.op=2 then ae x.tx
 else if x.op=3 then ae x.tx++40::(cm ks++[41])
 else if x.op=4 then 91::(cm ks++[93])
 else if x.op=5 then two2 (λa b=>br 0 a++32::43::32::br 1 b) ks
 else two2 (λa b=>br 1 a++32::42::32::br 2 b) ks
def ao(x:Td)(ks:List Tn):Tn:=⟨x,x::ks.flatMap (·.ns),iU x ks,bh x ks⟩
def Fo.R:Fo->List Tn
 | .nil=>[]
 | .cons x k n=>ao x k.R::n.R
theorem oY:∀F:Fo,ſ F.R=F.len
 | .nil=>rfl
 | .cons _ _ n=>by simp[Fo.R,Fo.len,oY n]
theorem p8:∀F:Fo,F.R.flatMap (·.ns)=F.N
 | .nil=>rfl
 | .cons x k n=>by
  rw[Fo.R,List.flatMap_cons,p8 n,ao,p8 k];simp[Fo.N]
def ma(x:Td):Prop:=aq x=0/\x.op<7
def Fo.exs(F:Fo):Prop:=∀x∈F.N,ma x
theorem iE{x}(h:ma x):(x.op=1/\x.tx=⟨#[]⟩/\0<=x.n/\x.n<=999999/\aE x=0)\/(x.op=2/\aL x.tx=Ï/\x.n=0/\aE x=0)
  \/(x.op=3/\aL x.tx=Ï/\0<=x.n/\x.n<=6/\aE x=x.n.toNat)\/(x.op=4/\x.tx=⟨#[]⟩/\0<=x.n/\x.n<=6/\aE x=x.n.toNat)
  \/(x.op=5/\x.tx=⟨#[]⟩/\x.n=0/\aE x=2)\/(x.op=6/\x.tx=⟨#[]⟩/\x.n=0/\aE x=2):=by
 obtain⟨A,G⟩:=h
 have B:∀s:ByteArray,¬0<s.size->s=⟨#[]⟩:=λs I=>by
  apply Ô;apply Array.toList_inj.1;exact Â (by have:=aw s;simp only[ae]at this;omega)
 unfold aq at A
 split at A
 .cases A
 .rename_i h1
  split at A
  .cases A
  .rename_i h2
   split at A
   .cases A
   .rename_i h3;have D:¬x.op=9:=by omega
    rw[if_neg D]at A
    split at A
    .cases A
    .rename_i h4;have E:x.op=1\/x.op=2\/x.op=3\/x.op=4\/x.op=5\/x.op=6:=by omega
     rcases E with e|e|e|e|e|e
     .refine .inl ⟨e,B _ (λH=>h3 (.inr ⟨by rw[e];rfl,H⟩)),by omega,by omega,by unfold aE;rw[e];rfl⟩
     .refine .inr (.inl ⟨e,?_,by omega,by unfold aE;rw[e];rfl⟩);cases C:aL x.tx with
      | true=>rfl
      | false=>exact absurd ⟨by rw[e];rfl,C⟩ h4
     .refine .inr (.inr (.inl ⟨e,?_,by omega,by omega,by unfold aE;rw[if_pos (.inl e)]⟩));cases C:aL x.tx with
      | true=>rfl
      | false=>exact absurd ⟨by rw[e];rfl,C⟩ h4
     .exact .inr (.inr (.inr (.inl ⟨e,B _ (λH=>h3 (.inr ⟨by rw[e];rfl,H⟩)),by omega,by omega,by unfold aE;rw[if_pos (.inr e)]⟩)))
     .exact .inr (.inr (.inr (.inr (.inl ⟨e,B _ (λH=>h3 (.inr ⟨by rw[e];rfl,H⟩)),by omega,by unfold aE;rw[e];rfl⟩))))
     .exact .inr (.inr (.inr (.inr (.inr ⟨e,B _ (λH=>h3 (.inr ⟨by rw[e];rfl,H⟩)),by omega,by unfold aE;rw[e];rfl⟩))))
def aR(t:List Td):Int:=match t with
 | []=>0
 | x::_=>x.op
theorem qR{t}(h:0<ſ t):aR t=t[0].op:=by
 cases t with
 | nil=>simp at h
 | cons x r=>rfl
def fB(prev:Int)(k:Nat):List (List Td)->Nat × Int
 | []=>(0,0)
 | t::r=>if ag t≠0 then(k,ag t)else if aR t=9/\prev=9 then(k,2)else fB (aR t) (k+1) r
def aW(ps:List (List Td)):Nat × Int:=if 20<ſ ps then(0,3)else fB 0 0 ps
theorem qG{t}(h:ag t=0):0<ſ t:=by grind [lF,oH,ag]
def fQ(ps:List (List Td))(k:Nat):Int:=if k=0 then 0 else aR (ps.getD (k-1) [])
theorem xG{ps k}(h:k<ſ ps):fQ ps (k+1)=aR ps[k]:=by
 simp[fQ,h]
theorem DM{ps:List (List Td)}{k A}(h:k<ſ ps)(B:ag ps[k]≠0):fB A k (ps.drop k)=(k,ag ps[k]):=by
 rw[Æ h,fB,if_pos B]
theorem DN{ps:List (List Td)}{k A}(h:k<ſ ps)(C:ag ps[k]=0)(B:aR ps[k]=9/\A=9):fB A k (ps.drop k)=(k,2):=by grind [Æ,fB,ag,aR]
theorem JK{ps k A}(h:k<ſ ps)(C:ag ps[k]=0)(B:¬(aR ps[k]=9/\A=9)):fB A k (ps.drop k)=fB (fQ ps (k+1)) (k+1) (ps.drop (k+1)):=by grind [Æ,fB,xG,ag,aR,fQ]
inductive lZ (k:Nat):Type
 | mk
inductive nz {α:Type} (k:Nat) (a b:α):Type
 | mk
def bI{α:Type}{k:Nat}(_:lZ k)(a b:α):nz k a b:=.mk
def cA{k:Nat}(_:lZ k)(a b:Nat):nz k a b:=.mk
instance{α:Type}(a b:α)(s:nz 0 a b):CoeDep (nz 0 a b) s α:=⟨a⟩
instance{α:Type}(a b:α)(s:nz 1 a b):CoeDep (nz 1 a b) s α:=⟨b⟩
inductive nE (o:Int):Type
 | mk
instance(o:Int)(t:nE o):CoeDep (nE o) t Int:=⟨o⟩
