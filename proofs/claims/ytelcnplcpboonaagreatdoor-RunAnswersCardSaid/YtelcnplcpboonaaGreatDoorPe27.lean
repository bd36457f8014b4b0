import Derived.Test.YtelcnplcpboonaaGreatDoorPe19
import Derived.Test.YtelcnplcpboonaaGreatDoorPe22
open Go.Proofs.Tryz
open List renaming length_cons->À,length_append->Á,drop_eq_getElem_cons->Â,length_nil->Ã
namespace Go.Proofs.YtelcnplcpboonaaGreatDoor
open Go Go.RowKit
theorem j8(l):(ab l).size=l.length:=by rw[<-aw];rfl
def bS(t:List Td):Int:=if aR t=9 then 0 else if 400<(aN t).N.length then 3 else 0
theorem rZ{t A}(B:¬(A<10\/100<A))(h:ag t=0):iz t A=bS t:=by
 rw[iz,if_neg B,if_neg (by simp[h])];rfl
theorem vj{t}(A:aR t=9):bS t=0:=by rw[bS,if_pos A]
theorem ux{t}(h:ag t=0)(A:aR t≠9):bS t=dZ t:=by grind [dZ,aR,aN,bS,ag]
def kQ(t:List Td)(wd:Int):ByteArray:=if iz t wd=0 then ab (ce wd.toNat t)else⟨#[]⟩
def bu:List (List Td)->Int
 | []=>0
 | t::r=>if bS t≠0 then bS t else bu r
theorem lK{t r}(h:bS t=0):bu (t::r)=bu r:=by rw[bu,if_neg (by simp[h])]
theorem qN{t r}(h:bS t≠0):bu (t::r)=bS t:=by rw[bu,if_pos h]
inductive lP (s:ByteArray) (wd:Int):ByteArray->Int->Int->Prop where
 | range (h:wd<10\/100<wd):lP s wd ⟨#[]⟩ 0 1
 | bad {ps k f} (h:¬(wd<10\/100<wd)) (hp:cJ s ps k f) (hf:f≠0):lP s wd ⟨#[]⟩ k f
 | full {ps} (h:¬(wd<10\/100<wd)) (hp:cJ s ps 0 0) (hf:bu ps≠0):lP s wd ⟨#[]⟩ 0 (bu ps)
 | ok {ps} (h:¬(wd<10\/100<wd)) (hp:cJ s ps 0 0) (hf:bu ps=0):lP s wd (ab (aJ wd.toNat ps)) 0 0
theorem lM{s ps k}(h:cJ s ps k 0):k=0/\(aW ps).2=0/\ps.length<=20/\∀t∈ps,ag t=0:=by
 generalize A:(0:Int)=z at h;cases h with
 | lex h1=>exact absurd A.symm h1
 | bad=>cases A
 | full _ _ h1=>exact absurd A.symm h1
 | ok h1 h2 h3=>exact⟨rfl,h3,(r9 h3).1,ut _ _ (r9 h3).2⟩
theorem uQ(A:Nat):∀(n:Nat)(ws:List ByteArray),ws.length<=n->dC ws->∀l∈cz A ws,l.size<=1260
 | 0,ws,h,hF,l,hl=>by
  have:ws=[]:=List.eq_nil_of_length_eq_zero (by omega)
  subst this;rw[lG]at hl;cases hl
 | n+1,ws,h,hF,l,hl=>by
  by_cases B:ws=[]
  .subst B;rw[lG]at hl;cases hl
  .have C:=mW A B;rw[mz A B]at hl;rcases List.mem_cons.1 hl with rfl|hl
   .rw[tL];exact(hF.take _).ln
   .exact uQ A n (ws.drop (eT A ws)) (by simp only[List.length_drop];omega) (hF.drop _) l hl
abbrev eH(l:ByteArray):List UInt8:=35::32::(ae l++[10])
theorem vH{f:ByteArray->List UInt8}{b:Nat}:∀(A:List ByteArray),(∀l∈A,(f l).length<=b)->(A.flatMap f).length<=A.length*b
 | [],_=>by simp
 | l::r,h=>by
  have C:=vH r λx B=>h x (by simp[B])
  have D:=h l (by simp);rw[List.flatMap_cons,Á,À,Nat.add_mul];omega
theorem vd{tx}(h:cX tx=0):dC ((ar (ae tx)).map ab):=Hz h
theorem GJ{tx}(h:cX tx=0)(E):(fI E tx).length<=100000:=by
 have A:=vd h;rw[fI]
 split
 .simp
 .have B:=pY (E-2) _ ((ar (ae tx)).map ab) Zl
  have C:=vH (f:=eH) (b:=1300) (cz (E-2) ((ar (ae tx)).map ab)) λl G=>by
   have:=uQ (E-2) _ _ Zl A l G
   simp only[eH,À,Á,Ã,aw];omega
  have D:=A.1
  show((cz (E-2) ((ar (ae tx)).map ab)).flatMap eH).length<=100000
  omega
theorem wP{t}(h:dZ t=0){ws r}(J:(aN t).show ws=.ok r):r.length<=2000000:=by
 obtain⟨C,D,H,I⟩:=wQ h;unfold Tr.show at J
 split at J
 .cases B:(aN t).lay 0 ws with
  | error e=>rw[B]at J;cases J
  | ok p=>
   obtain⟨E,A⟩:=p;rw[B]at J;have G:=jV _ 0 ws E A (o4 C D).w B (by omega);cases A with
   | nil=>
    cases J;omega
   | cons a b=>cases J
 .cases J
theorem Ki{t}(h:dZ t=0)(B):(iL B t).length<=2000001:=by
 obtain⟨u,_,e,A,_⟩:=U4 (t:=t) B
 have:=wP h A
 rw[e,Á];simp only[À,Ã];omega
theorem xX{t}(h:ag t=0)(B:aR t=9)(A):ce A t=fI A (bg t):=by grind [DH,ce,ag,aR,fI,bg]
theorem vf{t}(h:ag t=0)(A:aR t≠9)(wd):ce wd t=iL wd t:=by
 cases t with
 | nil=>exact absurd h (by decide)
 | cons x r=>exact if_neg (show ¬x.op=9 from A)
theorem r8{t}(h:ag t=0)(B:bS t=0)(A):(ce A t).length<=2000001:=by grind [aR,xX,DH,GJ,fI,vf,Ki,ux,ag,bS,ce]
theorem qO(C:Nat):∀a:List (List Td),(∀t∈a,ag t=0)->bu a=0->(aJ C a).length<=a.length*2000001
 | [],_,_=>by simp[aJ]
 | t::r,h,hf=>by
  have D:bS t=0:=by
   rcases Classical.em (bS t=0)with e|e
   .exact e
   .rw[qN e]at hf;exact hf
  rw[lK D]at hf;have A:=qO C r (λx E=>h x (by simp[E])) hf;have B:=r8 (h t (by simp)) D C;have e:aJ C (t::r)=ce C t++aJ C r:=by simp[aJ]
  rw[e,Á,À,Nat.add_mul];omega
theorem NS{s ps k}(h:cJ s ps k 0):dc (ae s)=0/\PG false [] (aQ (ae s)) (.ok ps)/\(aW ps).2=0:=by
 generalize A:(0:Int)=z at h;cases h with
 | lex h1=>exact absurd A.symm h1
 | bad=>cases A
 | full _ _ h1=>exact absurd A.symm h1
 | ok h1 h2 h3=>exact⟨h1,h2,h3⟩
theorem vq{t u}(H:ag t=0)(I:ag u=0)(h:aT t=aT u):t=u:=by
 have A:∀{v:List Td},ag v=0->jO 0 [v]:=λ{v}hv=>by
  refine⟨hv,?_,trivial⟩;rintro⟨_,e⟩;cases e
 have E:dh [t]=dh [u]:=by simp[dh,h]
 obtain⟨B,_⟩:=vT [t] 0 0 (A H);obtain⟨D,_⟩:=vT [u] 0 0 (A I);rw[E,D]at B;have G:=vk [t] 0 false [] (A H) (λh=>by cases h);have C:=vk [u] 0 false [] (A I) (λh=>by cases h);rw[B]at C
 have:=j6 G C
 simp only[List.nil_append,Rp.ok.injEq,List.cons.injEq,and_true]at this;exact this
def gS:List Wd->List Wd->Nat
 | _,[]=>0
 | known,t::r=>(if t∈known then 0 else 1)+gS (known++[t]) r
theorem H5:∀(p A:List Wd),gS A p<=p.length
 | [],_=>Nat.le_refl _
 | t::r,A=>by
  have:=H5 r (A++[t])
  rw[gS,À]
  split<;>omega
def cV(p old:List (List Td)):Nat:=gS (old.map aT) (p.map aT)
theorem ru(p A):cV p A<=p.length:=by grind [H5,aT,cV]
theorem Mp{p:List Wd}{i}(h:i<p.length)(A):gS (A++p.take i) (p.drop i)=(if p[i]∈A\/p[i]∈p.take i then 0 else 1)+gS (A++p.take (i+1)) (p.drop (i+1)):=by
 rw[Â h,gS,List.take_succ_eq_append_getElem h];simp only[List.mem_append,List.append_assoc]
def cL:List UInt8->List UInt8->Nat->Int
 | [],[],_=>-1
 | [],c::_,l=>if c=10 then(l:Int)+1 else l
 | c::_,[],l=>if c=10 then(l:Int)+1 else l
 | a::r,b::s,l=>if a=b then cL r s (if a=10 then l+1 else l)else l
theorem Kt:∀(a:List UInt8)(l:Nat),cL a a l=-1:=by intro a;induction a<;>grind [cL]
set_option maxRecDepth 100000
set_option maxHeartbeats 4000000
theorem rm{s k}(h:k<s.size):(ae s).drop k=s[k]::(ae s).drop (k+1):=by
 have A:k<(ae s).length:=by rw[aw];exact h
 rw[Â A];rfl
theorem rn{s k}(h:¬k<s.size):(ae s).drop k=[]:=List.drop_eq_nil_of_le (by rw[aw];omega)
theorem QR{x y:UInt8}(h:x≠y):¬(x.toNat:Int)=(y.toNat:Int):=λe=>h (UInt8.toNat_inj.1 (by omega))
theorem um{x:UInt8}(h:x≠10):¬(x.toNat:Int)=10:=λe=>h (UInt8.toNat_inj.1 (by simpa using(by omega:x.toNat=10)))
theorem Lv(a b)(R:a.size<=100000000)(S:b.size<=100000000)(w:World):
  Cb 20 #[.string a,.string b] w (cL (ae a) (ae b) 0):=by
 unfold Cb;generalize O:cL (ae a) (ae b) 0=v;have K:=aa O;go_in;go_wp2
 go_loopw [5,6] (λl i wr=>∃q m k:Nat,wr=w.drewN q/\l=(m:Int)/\i=(k:Int)/\m<=k/\k<=100000000/\cL ((ae a).drop k) ((ae b).drop k) m=v) (λ_ i _=>100000001-(intOf i).toNat)
 case atStart=>exact⟨0,0,0,rfl,rfl,rfl,Nat.le_refl _,Nat.zero_le _,K.o⟩
 case round=>
  obtain⟨q,m,k,rfl,rfl,rfl,Q,P,A⟩:=hrel;by_cases H:k<a.size
  .have M:(k:Int)<(a.size:Int):=by omega
   by_cases E:k<b.size
   .have I:(k:Int)<(b.size:Int):=by omega
    rw[rm H,rm E,cL]at A;by_cases G:a[k]=b[k]
    .rw[if_pos G]at A;by_cases C:a[k]=10
     .rw[if_pos C]at A;have B:=aa A;have J:b[k]=10:=by rw[<-G];exact C
      have D:((a[k].toNat:Nat):Int)=10:=by rw[C];rfl
      have L:((b[k].toNat:Nat):Int)=10:=by rw[J];rfl
      go_wp2_with fail
      go_quiet (fail)
      go_wp2
      go_roundw
      case rel=>exact⟨_,m+1,k+1,rfl,by go_num,by go_num,by omega,by omega,B.o⟩
      case measure=>simp[intOf];omega
     .rw[if_neg C]at A;have B:=aa A;have D:(((a[k].toNat:Nat):Int)==10)=false:=by simpa using um C
      have L:(((a[k].toNat:Nat):Int) != ((b[k].toNat:Nat):Int))=false:=by rw[G];simp
      go_wp2_with fail
      go_quiet (fail)
      go_wp2
      go_roundw
      case rel=>exact⟨_,m,k+1,rfl,by go_num,by go_num,by omega,by omega,B.o⟩
      case measure=>simp[intOf];omega
    .rw[if_neg G]at A;have B:=aa A;have D:(((a[k].toNat:Nat):Int) != ((b[k].toNat:Nat):Int))=true:=by simpa using QR G
     go_wp2_with fail
     go_quiet (fail)
     go_wp2;go_ret;exact⟨by rw[<-B.o];rfl,aP Zb _⟩
   .have I:¬(k:Int)<(b.size:Int):=by omega
    have N:(b.size:Int)<=(k:Int):=by omega
    rw[rm H,rn E,cL]at A;by_cases C:a[k]=10
    .rw[if_pos C]at A;have B:=aa A;have D:((a[k].toNat:Nat):Int)=10:=by rw[C];rfl
     go_wp2_with fail
     go_quiet (fail)
     go_wp2;go_ret;exact⟨by rw[<-B.o];rfl,aP Zb _⟩
    .rw[if_neg C]at A;have B:=aa A;have D:=um C;go_wp2_with fail
     go_quiet (fail)
     go_wp2;go_ret;exact⟨by rw[<-B.o];rfl,aP Zb _⟩
  .have M:¬(k:Int)<(a.size:Int):=by omega
   have N:(a.size:Int)<=(k:Int):=by omega
   by_cases E:k<b.size
   .have I:(k:Int)<(b.size:Int):=by omega
    rw[rn H,rm E,cL]at A;by_cases C:b[k]=10
    .rw[if_pos C]at A;have B:=aa A;have D:((b[k].toNat:Nat):Int)=10:=by rw[C];rfl
     go_wp2_with fail
     go_quiet (fail)
     go_wp2;go_ret;exact⟨by rw[<-B.o];rfl,aP Zb _⟩
    .rw[if_neg C]at A;have B:=aa A;have D:=um C;go_wp2_with fail
     go_quiet (fail)
     go_wp2;go_ret;exact⟨by rw[<-B.o];rfl,aP Zb _⟩
   .have I:¬(k:Int)<(b.size:Int):=by omega
    rw[rn H,rn E,cL]at A;have B:=aa A;go_wp2;go_ret;exact⟨by rw[<-B.o];rfl,aP Zb _⟩
