import Derived.Test.YtelcnplcpboonaaGreatDoorProg
import Derived.Below
import Derived.Lib.Strings
import Derived.Lib.Builder
import Derived.WalkKit
import Derived.Outline
import Derived.WalkLawsBesides
import Derived.Lib.FrozenHead2
import Derived.Lib.OthersKept
import Derived.Lib.Slices
import Derived.Lib.Walk
import Derived.Laws.Externs
import Derived.Shelf.RegionOpenPlain
instance : Coe Int Go.Value := ⟨.int .i64⟩
instance : Coe Nat Go.Value := ⟨λn => .int .i64 (n : Int)⟩
instance : Coe Nat Go.Addr := ⟨λb => ⟨b, 0, none⟩⟩
instance (b o : Nat) : CoeDep (Nat × Nat) (b, o) Go.Addr := ⟨⟨b, o, none⟩⟩
instance : Coe Go.World Nat := ⟨λw => w.heap.size⟩
open List renaming length->ſ
open List renaming cons_append->À,mem_map->Á,mem_append->Ã,map_map->Ä,nil_append->Æ,append_assoc->É,mem_cons->Ë,length_cons->Ì,map_append->Ñ,pairwise_map->Ó,map_flatMap->Ö,pairwise_append->Ø,length_append->Û,exists_cons_of_ne_nil->Ü,mem_flatMap->Þ,flatMap_map->ß,append_nil->á,replicate->â,drop_succ_cons->ä,flatMap_append->å,mem_singleton->ê,all_eq_true->ò,length_nil->õ,drop_drop->ø
open Option renaming map_eq_some_iff->Â,some->Å,none->Ð,bind_some->î,getD_some->ñ,map_some->ô
open List.cons renaming injEq->Ç
open Go renaming World->È,Value->Î,Calls->Ý,TypeId->ç,Ending->í,FuncId->ö
open Go.Value renaming pointer->Ê,slice->à,int->è,nilIface->ï,iface->ð,ownBlock->ù,tuple->ý,string->þ
open Go.World renaming setCell->Í,ownsRowF_nil->é,cell?->ü
open Go.Lib renaming cell_of_heap->Ï,OthersKept->ã,strCells_length->æ,frozen_of_heap->ë,ownsRowF_kind->ì,ownBlock_neF->ó,alloc_old->ú,strCells->û
open Go.RowKit.Below renaming heap_setCell->Ò
open Array renaming getElem?_eq_none->Ô,getElem?_modify->Õ
open Go.Obj renaming cells->Ù
open Go.Ending renaming returned->Ú
namespace Go.Proofs.YtelcnplcpboonaaGreatDoor
theorem Zl {n : Nat} : n ≤ n := Nat.le_refl n
theorem Zb {n : Nat} {w : È} : Go.RowKit.Below n w w := Go.RowKit.Below.refl n w
end Go.Proofs.YtelcnplcpboonaaGreatDoor
theorem Go.RowKit.Hid.o {p : Prop} (h : Go.RowKit.Hid p) : p := h
namespace Go.Proofs.YtelcnplcpboonaaGreatDoor
open Go Go.RowKit
abbrev Cb (f : ö) (a : Array Î) (w : È) (v : Î) : Prop := Ý Tryz.prog f a w λe w' => e = Ú v ∧ Below w.heap.size w w'
abbrev Cw (f : ö) (a : Array Î) (w : È) (v : Î) : Prop := Ý Tryz.prog f a w λe w' => e = Ú v ∧ w = w'
abbrev Cp (f : ö) (a : Array Î) (w : È) (Q : í → È → Prop) : Prop := Ý Tryz.prog f a w Q
end Go.Proofs.YtelcnplcpboonaaGreatDoor
open Go.Proofs.Tryz
namespace Go.Proofs.YtelcnplcpboonaaGreatDoor
structure Nd where
 op:Int
 tx:ByteArray
 n:Int
def dL(op:Int):Nat:=if op=6\/op=9 then 2 else if op=7\/op=8 then 1 else 0
theorem wX(op):dL op<=2:=by unfold dL;split<;>(try split)<;>omega
def cnt:List Nd->Nat->Option Nat
 | _,0=>Å 0
 | [],_+1=>Ð
 | x::r,m+1=>(cnt r (dL x.op+m)).map (· + 1)
theorem oF(A):cnt A 0=Å 0:=by cases A<;>rfl
theorem oS(m):cnt [] (m+1)=none:=rfl
theorem kG(x r m):cnt (x::r) (m+1)=(cnt r (dL x.op+m)).map (· + 1):=rfl
theorem wC:∀(ds:List Nd)(m k:Nat),cnt ds m=Å k->m<=k/\k<=ſ ds
 | ds,0,k,h=>by rw[oF]at h;cases h;simp
 | [],m+1,k,h=>by rw[oS]at h;cases h
 | x::r,m+1,k,h=>by
  rw[kG,Â]at h;obtain⟨j,A,rfl⟩:=h
  have:=wC r _ j A
  simp;omega
theorem vC:∀(ds:List Nd)(a b:Nat),cnt ds (a+b)=(cnt ds a).bind λk=>(cnt (ds.drop k) b).map (k+·)
 | ds,0,b=>by
  rw[oF];simp
 | [],a+1,b=>by rw[show a+1+b=(a+b)+1 by omega,oS,oS];rfl
 | x::r,a+1,b=>by
  rw[show a+1+b=(a+b)+1 by omega,kG,kG,show dL x.op+(a+b)=(dL x.op+a)+b by omega,vC r _ b];cases cnt r (dL x.op+a)with
  | none=>rfl
  | some k=>
   simp only[î,ô,ä];cases cnt (r.drop k) b with
   | none=>rfl
   | some j=>simp;omega
theorem FH:∀(ds:List Nd)(m k i:Nat),cnt ds m=Å k->i<k->∃A,cnt (ds.drop i) (A+1)=Å (k-i)
 | ds,0,k,i,h,hi=>by rw[oF]at h;cases h;omega
 | [],m+1,k,i,h,hi=>by rw[oS]at h;cases h
 | x::r,m+1,k,i,h,hi=>by
  cases i with
  | zero=>exact⟨m,h⟩
  | succ i=>
   rw[kG,Â]at h;obtain⟨j,B,rfl⟩:=h;obtain⟨A,C⟩:=FH r _ j i B (by omega);exact⟨A,by rw[ä,C];congr 1;omega⟩
def bB(ds:List Nd)(i m:Nat):Option Nat:=(cnt (ds.drop i) m).map (i+·)
theorem Jt(A i):bB A i 0=Å i:=by simp[bB,oF]
theorem CD(A i m)(h:ſ A<=i):bB A i (m+1)=none:=by
 rw[bB,List.drop_eq_nil_of_le h,oS];rfl
theorem Js(A i m)(h:i<ſ A):bB A i (m+1)=bB A (i+1) (dL A[i].op+m):=by
 rw[bB,List.drop_eq_getElem_cons h,kG,bB];cases cnt (A.drop (i+1)) (dL A[i].op+m)with
 | none=>rfl
 | some k=>simp;omega
theorem RE(A i a b):bB A i (a+b)=(bB A i a).bind λj=>bB A j b:=by
 rw[bB,vC,bB];cases cnt (A.drop i) a with
 | none=>rfl
 | some k=>
  simp only[î,ô,bB,ø];cases cnt (A.drop (i+k)) b with
  | none=>rfl
  | some j=>simp;omega
theorem zz{C i m j}(h:bB C i m=Å j):i+m<=j/\(m=0\/j<=ſ C):=by
 rw[bB,Â]at h;obtain⟨k,A,rfl⟩:=h;have B:=wC _ _ _ A;rw[List.length_drop]at B;omega
theorem RF{J i}(h:bB J 0 1=Å (ſ J))(hi:i<ſ J):∃j,bB J i 1=Å j/\i<j/\j<=ſ J:=by
 rw[bB,Â]at h;obtain⟨k,D,H⟩:=h;have E:k=ſ J:=by omega
 subst E;obtain⟨G,A⟩:=FH _ _ _ i D hi;rw[List.drop_zero,Nat.add_comm G 1,vC]at A;cases B:cnt (J.drop i) 1 with
 | none=>rw[B]at A;cases A
 | some j=>
  have C:bB J i 1=Å (i+j):=by rw[bB,B];rfl
  have I:=zz C;exact⟨i+j,C,by omega,by omega⟩
def fS(b:UInt8):Bool:=decide (32<=b.toNat)&&decide (b.toNat<=126)
def fH(s:ByteArray):Bool:=decide (1<=s.size)&&decide (s.size<=20)&&s.data.toList.all fS
def bz(x:Nd):Int:=
 if x.op<1\/9<x.op then 1
 else if(x.op≠1/\x.tx.size≠0)\/(x.op≠7/\x.n≠0)then 2
 else if x.op=1/\fH x.tx=false then 5
 else if x.op=7/\(x.n<0\/8<x.n)then 1 else 0
def j3:List Nd->Int
 | []=>0
 | x::r=>if bz x=0 then j3 r else bz x
def bM(ds:List Nd):Int:=
 if 400<ſ ds then 3 else if j3 ds=0 then(if bB ds 0 1=Å (ſ ds) then 0 else 2)else j3 ds
theorem Ju:∀(A:List Nd),(∀x∈A,bz x=0)->j3 A=0:=by intro A;induction A<;>grind [j3,bz]
theorem Ps:∀(A:List Nd),j3 A=0->∀x∈A,bz x=0:=by intro A;induction A<;>grind [j3,bz]
theorem CH:∀(A:List Nd)(k:Nat)(h:k<ſ A),(∀x∈A.take k,bz x=0)->bz A[k]≠0->j3 A=bz A[k]
 | x::r,0,_,_,h=>by
  have B:bz x≠0:=h;rw[j3,if_neg B];rfl
 | x::r,k+1,hk,ha,h=>by
  rw[j3,if_pos (ha x (by simp)),CH r k (by simpa using hk) (λy C=>ha y (by simp[C])) h];rfl
theorem mD{A}(h:bM A=0):ſ A<=400/\(∀x∈A,bz x=0)/\bB A 0 1=Å (ſ A):=by grind [bM,Ps,bz,bB]
theorem Ko{A}(B:ſ A<=400)(C:∀x∈A,bz x=0)(D:bB A 0 1=Å (ſ A)):bM A=0:=by grind [bM,Ju,bz,bB]
inductive Tr where
 | leaf (x:Nd)
 | one (x:Nd) (a:Tr)
 | two (x:Nd) (a b:Tr)
def Tr.N:Tr->List Nd
 | .leaf x=>[x]
 | .one x a=>x::a.N
 | .two x a b=>x::(a.N++b.N)
def Tr.Wf:Tr->Prop
 | .leaf x=>bz x=0/\dL x.op=0
 | .one x a=>bz x=0/\dL x.op=1/\a.Wf
 | .two x a b=>bz x=0/\dL x.op=2/\a.Wf/\b.Wf
theorem yW:∀(ds:List Nd)(m k:Nat),(∀x∈ds,bz x=0)->cnt ds m=Å k->∃D:List Tr,ſ D=m/\(∀t∈D,t.Wf)/\ds.take k=(D.map Tr.N).flatten
 | ds,0,k,_,h=>by rw[oF]at h;cases h;exact⟨[],rfl,by simp,by simp⟩
 | [],m+1,k,_,h=>by rw[oS]at h;cases h
 | x::r,m+1,k,hn,h=>by
  rw[kG,Â]at h;obtain⟨j,J,rfl⟩:=h;obtain⟨D,C,E,G⟩:=yW r _ j (λy K=>hn y (by simp[K])) J;have I:=hn x (by simp);have H:dL x.op=0\/dL x.op=1\/dL x.op=2:=by have:=wX x.op;omega
  rcases H with B|B|B
  .exact⟨.leaf x::D,by simp[C,B],by intro t A;rcases Ë.1 A with rfl|A;exact⟨I,B⟩;exact E t A,by simp[Tr.N,G]⟩
  .match D,C,E,G with
   | [],C,_,_=>simp at C;omega
   | a::D,C,E,G=>
    refine⟨.one x a::D,by simp at C⊢;omega,?_,by simp[Tr.N,G]⟩;intro t A;rcases Ë.1 A with rfl|A
    .exact⟨I,B,E a (by simp)⟩
    .exact E t (by simp[A])
  .match D,C,E,G with
   | [],C,_,_=>simp at C;omega
   | [a],C,_,_=>simp at C;omega
   | a::b::D,C,E,G=>
    refine⟨.two x a b::D,by simp at C⊢;omega,?_,by simp[Tr.N,G]⟩;intro t A;rcases Ë.1 A with rfl|A
    .exact⟨I,B,E a (by simp),E b (by simp)⟩
    .exact E t (by simp[A])
theorem tJ:∀(t:Tr)(r:List Nd)(m:Nat),t.Wf->cnt (t.N++r) (m+1)=(cnt r m).map (ſ t.N+·)
 | .leaf x,r,m,h=>by
  simp only[Tr.N,À,Æ,kG,h.2,Nat.zero_add,Ì,õ];cases cnt r m<;>simp[Nat.add_comm]
 | .one x a,r,m,h=>by
  simp only[Tr.N,À,kG,h.2.1,Nat.add_comm 1 m,tJ a r m h.2.2,Ì];cases cnt r m<;>simp;omega
 | .two x a b,r,m,h=>by
  simp only[Tr.N,À,É,kG,h.2.1,show 2+m=(m+1)+1 by omega,tJ a (b.N++r) (m+1) h.2.2.1,tJ b r m h.2.2.2,Ì,Û];cases cnt r m<;>simp;omega
theorem Tr.pos:∀t:Tr,0<ſ t.N
 | .leaf _=>by simp[Tr.N]
 | .one _ _=>by simp[Tr.N]
 | .two _ _ _=>by simp[Tr.N]
theorem oh{ds i}{t:Tr}{r}(h:t.Wf)(A:ds.drop i=t.N++r):bB ds i 1=Å (i+ſ t.N):=by
 rw[bB,A,tJ t r 0 h,oF];rfl
theorem G7{I i j}(J:∀x∈I,bz x=0)(h:bB I i 1=Å j):∃t:Tr,t.Wf/\I.drop i=t.N++I.drop j/\j=i+ſ t.N:=by
 rw[bB,Â]at h;obtain⟨k,D,rfl⟩:=h;obtain⟨G,E,A,B⟩:=yW _ _ _ (λx K=>J x (List.mem_of_mem_drop K)) D
 match G,E,A,B with
 | [t],_,A,B=>
  have C:(I.drop i).take k=t.N:=by simpa using B
  have H:=wC _ _ _ D;refine⟨t,A t (by simp),?_,?_⟩
  .rw[<-C,<-ø,List.take_append_drop]
  .rw[<-C,List.length_take];omega
theorem uO{A}(h:bM A=0):∃t:Tr,t.Wf/\A=t.N:=by grind [mD,G7,bM]
theorem qH{t:Tr}(h:t.Wf)(B:ſ t.N<=400):bM t.N=0:=by
 refine Ko B ?_ ?_
 .clear B
  induction t with
  | leaf x=>intro y A;simp[Tr.N]at A;subst A;exact h.1
  | one x a ih=>
   intro y A;rcases Ë.1 A with rfl|A
   .exact h.1
   .exact ih h.2.2 y A
  | two x a b ia ib=>
   intro y A;rcases Ë.1 A with rfl|A
   .exact h.1
   .rcases Ã.1 A with A|A
    .exact ia h.2.2.1 y A
    .exact ib h.2.2.2 y A
 .have:=oh (ds:=t.N) (i:=0) (r:=[]) h (by simp)
  simpa using this
theorem fJ{x}(h:bz x=0):1<=x.op/\x.op<=9/\(x.op=1\/x.tx.size=0)/\(x.op=7\/x.n=0)/\(x.op=1->fH x.tx=true)/\(x.op=7->0<=x.n/\x.n<=8):=by grind [bz,fH]
theorem jS{s}(h:fH s=true):1<=s.size/\s.size<=20:=by
 simp[fH]at h;omega
theorem fu(s:ByteArray):ſ s.data.toList=s.size:=(Lib.size_eq s).symm
theorem iZ{x}(h:bz x=0)(A:dL x.op=0):x.op=1\/x.op=2\/x.op=3\/x.op=4\/x.op=5:=by grind [fJ,dL,bz]
theorem jD{x:Nd}(A:dL x.op=1):x.op=7\/x.op=8:=by grind [dL]
theorem jj{x:Nd}(A:dL x.op=2):x.op=6\/x.op=9:=by grind [dL]
theorem ox{a b:ByteArray}(h:a.data.toList=b.data.toList):a=b:=by
 cases a;cases b;simp only[ByteArray.mk.injEq];exact Array.toList_inj.1 h
theorem DS{a:ByteArray}(h:a.size=0):a=⟨#[]⟩:=ox (by
 have:=fu a
 rw[h]at this
 rw[List.eq_nil_of_length_eq_zero this])
end Go.Proofs.YtelcnplcpboonaaGreatDoor
namespace Go.Proofs.YtelcnplcpboonaaGreatDoor
open Go Go.RowKit
theorem ai{f:ö}{a:Array Î}{w:È}{v:í}{R:È->Prop}{Q:í->È->Prop}(h:Ý prog f a w λe A=>e=v/\R A)(k:∀A,R A->Q v A):Ý prog f a w Q:=h.mono λ_ _⟨e,r⟩=>e ▸ k _ r
theorem an{f:ö}{a:Array Î}{w W:È}{v:í}{Q:í->È->Prop}(h:Ý prog f a w λe A=>e=v/\W=A)(k:Q v W):Ý prog f a w Q:=h.mono λ_ _⟨e,r⟩=>e ▸ r ▸ k
theorem gv{f:ö}{a:Array Î}{w W:È}{v:í}{Q:í->È->Prop}(h:Ý prog f a w λe A=>e=v/\A=W)(k:Q v W):Ý prog f a w Q:=h.mono λ_ _⟨e,r⟩=>e ▸ r ▸ k
theorem gI{w:È}{b:Nat}{v:Î}{l:List Î}{t:ç}{z:Nat × Nat}(h:w.heap[b]?=Å (Ù (v::l).toArray t z)):w.cell? ⟨b,0,Ð⟩=Å v:=by rw[Ï h];rfl
theorem i7{w:È}{b:Nat}{a v:Î}{l:List Î}{t:ç}{z:Nat × Nat}(h:w.heap[b]?=Å (Ù (a::v::l).toArray t z)):w.cell? ⟨b,1,Ð⟩=Å v:=by rw[Ï h];rfl
theorem po{w:È}{b:Nat}{a c v:Î}{l:List Î}{t:ç}{z:Nat × Nat}(h:w.heap[b]?=Å (Ù (a::c::v::l).toArray t z)):w.cell? ⟨b,2,Ð⟩=Å v:=by rw[Ï h];rfl
theorem We{w:È}{b:Nat}{a c d v:Î}{l:List Î}{t:ç}{z:Nat × Nat}(h:w.heap[b]?=Å (Ù (a::c::d::v::l).toArray t z)):w.cell? ⟨b,3,Ð⟩=Å v:=by rw[Ï h];rfl
theorem Wg{w:È}{b:Nat}{a c d e v:Î}{l:List Î}{t:ç}{z:Nat × Nat}(h:w.heap[b]?=Å (Ù (a::c::d::e::v::l).toArray t z)):w.cell? ⟨b,4,Ð⟩=Å v:=by rw[Ï h];rfl
def aF(n:Int):Î:=if n=0 then ï else ð 50 (è .i64 n)
theorem cS:aF 0=ï:=rfl
theorem o5:aF 1=ð 50 (è .i64 1):=rfl
theorem pF:aF 2=ð 50 (è .i64 2):=rfl
theorem rp:aF 3=ð 50 (è .i64 3):=rfl
theorem Mg:aF 4=ð 50 (è .i64 4):=rfl
theorem Hw:aF 5=ð 50 (è .i64 5):=rfl
theorem cN{n}(h:n≠0):aF n=ð 50 n:=by simp[aF,h]
theorem a9{W:È}{A}(B:Below W W A):(∀b o,b<W.heap.size->A.cell? ⟨b,o,Ð⟩=W.cell? ⟨b,o,Ð⟩)/\(∀b o,b<W.heap.size->A.frozen? ⟨b,o,Ð⟩=W.frozen? ⟨b,o,Ð⟩):=
 ⟨λb o h=>B.cell (p:=(b,o)) h,λb o h=>B.frozen (p:=(b,o)) h⟩
theorem JQ{b o A B:Nat}(h:b≠A\/o≠B):((b,o):Addr)≠(A,B):=by
 intro e;simp at e;omega
theorem af{W:È}{b o A B:Nat}{v}(h:b≠A\/o≠B):(W.setCell (b,o) v).cell? (A,B)=W.cell? (A,B):=World.cell?_setCell_other (h:=JQ h) ..
theorem cF{W:È}{a v u}(h:W.cell? a=Å u):(W.setCell a v).cell? a=Å v:=World.cell?_setCell_same (h:=h) ..
theorem gc{W:È}{a b v}:(W.setCell a v).frozen? b=W.frozen? b:=World.frozen?_setCell ..
theorem ji{n w C D A}(B:Below n w C)(G:n<=w.heap.size)(E:Below (C.alloc A).heap.size (C.alloc A) D):Below n w D:=
 (B.alloc (by have:=B.size;omega) _).trans (E.mono (by have:=B.size;simp;omega))
theorem aH{n w}{A:È}{C}(B:Below n w A)(E:n<=w.heap.size)(D:Below A A C):Below n w C:=
 B.trans (D.mono (by have:=B.size;omega))
theorem aa{p}(h:p):Hid p:=h
end Go.Proofs.YtelcnplcpboonaaGreatDoor
namespace Go.Proofs.YtelcnplcpboonaaGreatDoor
def Tr.flat:Tr->Option (List UInt8)
 | .leaf x=>if x.op=1 then Å x.tx.data.toList else if x.op=2 then Å [32]else if x.op=4 then Ð else Å []
 | .one _ a=>a.flat
 | .two x a b=>if x.op=6 then(match a.flat,b.flat with|some s,Å t=>Å (s++t)|_,_=>Ð)else a.flat
def Tr.line(t:Tr):ByteArray:=⟨(t.flat.getD []).toArray⟩
def Tr.isFlat(t:Tr):Bool:=t.flat.isSome
theorem xW(t:Tr):t.line.data.toList=t.flat.getD []:=by simp[Tr.line]
theorem p4(t:Tr):t.line.size=(t.flat.getD []).length:=by rw[<-fu,xW]
theorem lN:∀t:Tr,t.Wf->(t.flat.getD []).length<=20*ſ t.N
 | .leaf x,h=>by
  obtain⟨_,_,_,_,C,_⟩:=fJ h.1;simp only[Tr.flat,Tr.N]
  split
  .rename_i A
   have:=jS (C A)
   have e:=fu x.tx;simp only[ñ,Ì,õ];omega
  .repeat' split
   all_goals simp
 | .one x a,h=>by
  have:=lN a h.2.2
  simp only[Tr.flat,Tr.N,Ì];omega
 | .two x a b,h=>by
  have A:=lN a h.2.2.1;have B:=lN b h.2.2.2;simp only[Tr.flat,Tr.N,Ì,Û]
  split
  .cases D:a.flat with
   | none=>simp
   | some s=>
    cases E:b.flat with
    | none=>simp
    | some t=>
     rw[D]at A;rw[E]at B;simp only[ñ]at A B⊢;rw[Û];omega
  .omega
theorem pZ:∀(t:Tr)(s:List UInt8),t.Wf->t.flat=Å s->∀b∈s,b≠10
 | .leaf x,s,h,e=>by
  obtain⟨_,_,_,_,D,_⟩:=fJ h.1;simp only[Tr.flat]at e
  split at e
  .rename_i h1;cases e;have C:=D h1;simp only[fH,Bool.and_eq_true,ò]at C;intro b A hc
   have:=C.2 b A
   subst hc;simp[fS]at this
  .split at e
   .cases e;simp
   .split at e
    .cases e
    .cases e;simp
 | .one x a,s,h,e=>pZ a s h.2.2 e
 | .two x a b,s,h,e=>by
  simp only[Tr.flat]at e
  split at e
  .cases B:a.flat with
   | none=>rw[B]at e;cases e
   | some u=>
    cases A:b.flat with
    | none=>rw[B,A]at e;cases e
    | some v=>
     rw[B,A]at e;cases e;intro c hc;rcases Ã.1 hc with hc|hc
     .exact pZ a u h.2.2.1 B c hc
     .exact pZ b v h.2.2.2 A c hc
  .exact pZ a s h.2.2.1 e
def Tr.lay:Tr->Nat->List Int->Except Int (List UInt8 × List Int)
 | .leaf x,deep,ws=>if x.op=1 then .ok (x.tx.data.toList,ws)else if x.op=5 then .ok ([],ws)else .ok (10::â deep 32,ws)
 | .one x a,deep,ws=>
  if x.op=7 then a.lay (deep+x.n.toNat) ws
  else match ws with
   | []=>.error 2
   | c::ws=>if c=1 then a.lay deep ws else match a.flat with
    | none=>.error 4
    | some s=>.ok (s,ws)
 | .two x a b,deep,ws=>
  if x.op=6 then match a.lay deep ws with
   | .error e=>.error e
   | .ok (s,ws1)=>match b.lay deep ws1 with
    | .error e=>.error e
    | .ok (t,ws2)=>.ok (s++t,ws2)
  else match ws with
   | []=>.error 2
   | c::ws=>if c=0 then a.lay deep ws else b.lay deep ws
def Tr.ways:Tr->List (List Int)
 | .leaf _=>[[]]
 | .one x a=>if x.op=7 then a.ways else(if a.isFlat=true then [[0]]else [])++a.ways.map (1::·)
 | .two x a b=>if x.op=6 then a.ways.flatMap λu=>b.ways.map (u++·)else a.ways.map (0::·)++b.ways.map (1::·)
def ez(ws:List Int):Prop:=∀c∈ws,c=0\/c=1
theorem qX:∀t:Tr,t.ways≠[]
 | .leaf _=>by simp[Tr.ways]
 | .one x a=>by
  simp only[Tr.ways]
  split
  .exact qX a
  .have:=qX a
   simp[this]
 | .two x a b=>by
  have A:=qX a;have B:=qX b;simp only[Tr.ways]
  split
  .obtain⟨u,C,e⟩:=Ü A;rw[e];simp[B]
  .simp[A]
theorem Hc:∀(t:Tr)(u:List Int),u∈t.ways->ez u:=by intro t;induction t<;>grind [Tr.ways,ez]
theorem mS:∀(t:Tr)(A:Nat)(u r:List Int),u∈t.ways->∃s,t.lay A (u++r)=.ok (s,r)
 | .leaf x,A,u,r,h=>by
  simp[Tr.ways]at h;subst h;simp only[Tr.lay,Æ]
  split
  .exact⟨_,rfl⟩
  .split
   .exact⟨_,rfl⟩
   .exact⟨_,rfl⟩
 | .one x a,A,u,r,h=>by
  simp only[Tr.ways]at h;simp only[Tr.lay]
  split at h
  .rename_i h7;rw[if_pos h7];exact mS a _ u r h
  .rename_i h7;rw[if_neg h7];rcases Ã.1 h with h|h
   .split at h
    .rename_i hf;simp at h;subst h;simp only[À,Æ];rw[if_neg (by decide)];rw[Tr.isFlat]at hf;cases C:a.flat with
     | none=>rw[C]at hf;cases hf
     | some s=>exact⟨s,rfl⟩
    .simp at h
   .obtain⟨v,B,rfl⟩:=Á.1 h;simp only[À,if_pos];exact mS a A v r B
 | .two x a b,A,u,r,h=>by
  simp only[Tr.ways]at h;simp only[Tr.lay]
  split at h
  .rename_i h6;rw[if_pos h6];obtain⟨p,H,D⟩:=Þ.1 h;obtain⟨q,I,rfl⟩:=Á.1 D;obtain⟨J,E⟩:=mS a A p (q++r) H;obtain⟨K,G⟩:=mS b A q r I;rw[É,E];simp only[G];exact⟨_,rfl⟩
  .rename_i h6;rw[if_neg h6];rcases Ã.1 h with h|h
   .obtain⟨v,B,rfl⟩:=Á.1 h;simp only[À,if_pos];exact mS a A v r B
   .obtain⟨v,B,rfl⟩:=Á.1 h;simp only[À];rw[if_neg (by decide)];exact mS b A v r B
theorem lL:∀(t:Tr)(L:Nat)(ws r:List Int)(s:List UInt8),ez ws->t.lay L ws=.ok (s,r)->∃u∈t.ways,ws=u++r
 | .leaf x,L,ws,r,s,_,h=>by
  refine⟨[],by simp[Tr.ways],?_⟩;simp only[Tr.lay]at h
  split at h
  .cases h;rfl
  .split at h
   .cases h;rfl
   .cases h;rfl
 | .one x a,L,ws,r,s,h0,h=>by
  simp only[Tr.lay]at h;simp only[Tr.ways]
  split at h
  .rename_i h7;rw[if_pos h7];exact lL a _ ws r s h0 h
  .rename_i h7;rw[if_neg h7]
   match ws,h0,h with
   | [],_,h=>cases h
   | c::ws,h0,h=>
    simp only at h
    split at h
    .rename_i h1;subst h1;obtain⟨u,N,e⟩:=lL a L ws r s (λd M=>h0 d (by simp[M])) h;exact⟨1::u,Ã.2 (.inr (Á.2 ⟨u,N,rfl⟩)),by rw[e];rfl⟩
    .rename_i h1;have O:c=0:=by have:=h0 c (by simp);omega
     subst O;cases D:a.flat with
     | none=>rw[D]at h;cases h
     | some v=>
      rw[D]at h;cases h;refine⟨[0],Ã.2 (.inl ?_),rfl⟩;rw[if_pos (by rw[Tr.isFlat,D];rfl)];simp
 | .two x a b,L,ws,r,s,h0,h=>by
  simp only[Tr.lay]at h;simp only[Tr.ways]
  split at h
  .rename_i h6;rw[if_pos h6];cases B:a.lay L ws with
   | error e=>rw[B]at h;cases h
   | ok p=>
    obtain⟨I,A⟩:=p;rw[B]at h;simp only at h;cases C:b.lay L A with
    | error e=>rw[C]at h;cases h
    | ok q=>
     obtain⟨J,K⟩:=q;rw[C]at h;cases h;obtain⟨u,N,E⟩:=lL a L ws A I h0 B;obtain⟨v,H,G⟩:=lL b L A r J (λd M=>h0 d (by rw[E];simp[M])) C;exact⟨u++v,Þ.2 ⟨u,N,Á.2 ⟨v,H,rfl⟩⟩,by rw[E,G,É]⟩
  .rename_i h6;rw[if_neg h6]
   match ws,h0,h with
   | [],_,h=>cases h
   | c::ws,h0,h=>
    simp only at h
    split at h
    .rename_i h1;subst h1;obtain⟨u,N,e⟩:=lL a L ws r s (λd M=>h0 d (by simp[M])) h;exact⟨0::u,Ã.2 (.inl (Á.2 ⟨u,N,rfl⟩)),by rw[e];rfl⟩
    .rename_i h1;have O:c=1:=by have:=h0 c (by simp);omega
     subst O;obtain⟨u,N,e⟩:=lL b L ws r s (λd M=>h0 d (by simp[M])) h;exact⟨1::u,Ã.2 (.inr (Á.2 ⟨u,N,rfl⟩)),by rw[e];rfl⟩
def Tr.show(t:Tr)(ws:List Int):Except Int (List UInt8):=
 if ws.all (λc=>c==0||c==1)=true then match t.lay 0 ws with
  | .error e=>.error e
  | .ok (s,[])=>.ok s
  | .ok (_,_::_)=>.error 2
 else .error 1
theorem pC{ws}:ws.all (λc=>c==0||c==1)=true↔ez ws:=by
 simp[ez]
theorem yb(t:Tr)(ws):(∃s,t.show ws=.ok s)↔ws∈t.ways:=by
 constructor
 .rintro⟨s,h⟩;unfold Tr.show at h
  split at h
  .rename_i h0;cases A:t.lay 0 ws with
   | error e=>rw[A]at h;cases h
   | ok p=>
    obtain⟨u,r⟩:=p;rw[A]at h;cases r with
    | cons c r=>cases h
    | nil=>
     obtain⟨v,C,e⟩:=lL t 0 ws [] u (pC.1 h0) A;rw[á]at e;rw[e];exact C
  .cases h
 .intro h;obtain⟨s,B⟩:=mS t 0 ws [] h;rw[á]at B;refine⟨s,?_⟩;unfold Tr.show;rw[if_pos (pC.2 (Hc t ws h)),B]
def fK:List Int->List Int->Prop
 | a::al,b::bs=>if a=b then fK al bs else a<b
 | _,_=>False
theorem IW:∀(u v r s:List Int),fK u v->fK (u++r) (v++s)
 | a::al,b::bs,r,s,h=>by
  simp only[À,fK]at h⊢
  split
  .rename_i e;rw[if_pos e]at h;exact IW al bs r s h
  .rename_i e;rw[if_neg e]at h;exact h
theorem M8:∀(u r s:List Int),fK r s->fK (u++r) (u++s):=by intro u;induction u<;>grind [fK]
theorem OM{α β:Type}{R:β->β->Prop}(f:α->List β):∀l:List α,(∀x∈l,(f x).Pairwise R)->l.Pairwise (λx y=>∀p∈f x,∀q∈f y,R p q)->(l.flatMap f).Pairwise R:=by grind
theorem tH:∀t:Tr,t.ways.Pairwise fK
 | .leaf _=>by simp[Tr.ways]
 | .one x a=>by
  simp only[Tr.ways];have ih:=tH a
  split
  .exact ih
  .refine Ø.2 ⟨?_,?_,?_⟩
   .split<;>simp
   .exact Ó.2 (ih.imp λh=>by simp only[fK,if_pos];exact h)
   .intro p A q B
    split at A
    .simp at A;subst A;obtain⟨v,_,rfl⟩:=Á.1 B;simp[fK]
    .simp at A
 | .two x a b=>by
  simp only[Tr.ways];have C:=tH a;have D:=tH b
  split
  .refine OM _ _ ?_ ?_
   .intro u _;exact Ó.2 (D.imp λh=>M8 u _ _ h)
   .refine C.imp ?_;intro u v h p A q B;obtain⟨r,_,rfl⟩:=Á.1 A;obtain⟨s,_,rfl⟩:=Á.1 B;exact IW u v r s h
  .refine Ø.2 ⟨?_,?_,?_⟩
   .exact Ó.2 (C.imp λh=>by simp only[fK,if_pos];exact h)
   .exact Ó.2 (D.imp λh=>by simp only[fK,if_pos];exact h)
   .intro p A q B;obtain⟨u,_,rfl⟩:=Á.1 A;obtain⟨v,_,rfl⟩:=Á.1 B;simp[fK]
theorem Tp{x}(h:bz x=0)(E:x.op=1):∀b∈x.tx.data.toList,b≠10:=by
 obtain⟨_,_,_,_,B,_⟩:=fJ h;have A:=B E;simp only[fH,Bool.and_eq_true,ò]at A;intro b C D
 have:=A.2 b C
 subst D;simp[fS]at this
end Go.Proofs.YtelcnplcpboonaaGreatDoor
namespace Go.Proofs.YtelcnplcpboonaaGreatDoor
open Go Go.RowKit
set_option maxRecDepth 100000
set_option maxHeartbeats 1000000
structure am(B b:Nat)(w w':È):Prop where
 os:w'.os=w.os
 tape:w'.tape=w.tape
 output:w'.output=w.output
 size:w.heap.size<=w'.heap.size
 block:∀k,k<B->k≠b->w'.heap[k]?=w.heap[k]?
section
variable {B b:Nat} {w w' a:È}
theorem am.refl(B b w):am B b w w:=⟨rfl,rfl,rfl,Nat.le_refl _,λ_ _ _=>rfl⟩
theorem am.trans{c}(h:am B b a w)(k:am B b w c):am B b a c:=
 ⟨k.os.trans h.os,k.tape.trans h.tape,k.output.trans h.output,Nat.le_trans h.size k.size,λi a A=>(k.block i a A).trans (h.block i a A)⟩
theorem am.drew(h:am B b a w):am B b a w.drew:=⟨h.os,h.tape,h.output,h.size,h.block⟩
theorem am.of(h:Below B w w'):am B b w w':=⟨h.os,h.tape,h.output,h.size,λk A _=>h.block k A⟩
theorem am.W(h:am B b w w')(C:B<=b):Below B w w':=⟨h.os,h.tape,h.output,h.size,λk A=>h.block k A (by omega)⟩
theorem am.mono{B'}(h:am B b w w')(A:B'<=B):am B' b w w':=⟨h.os,h.tape,h.output,h.size,λk C=>h.block k (by omega)⟩
theorem am.alloc(h:am B b a w)(A:B<=w.heap.size)(o):am B b a (w.alloc o):=
 h.trans (.of ((Below.refl B w).alloc A o))
theorem am.setCell(h:am B b a w){p}(D:p.block=b\/B<=p.block)(u):am B b a (w.setCell p u):=
 h.trans ⟨rfl,rfl,rfl,by simp[Í],λk C A=>Ò _ _ _ _ (by omega)⟩
theorem am.grown{row}(h:am B b a w)(A:w.grownBy w' row)(D:B<=w.heap.size)(C:∀k,row=Å k->B<=k):am B b a w':=
 h.trans ⟨A.os,A.tape,A.output,A.size,λk E _=>A.block k (by omega) (λe=>by have:=C k e.symm;omega)⟩
theorem am.cell(h:am B b w w'){p}(C:p.block<B)(A:p.block≠b):w'.cell? p=w.cell? p:=World.cell?_of_block (w:=w) (h.block p.block C A)
end
def cU(T:ç)(B b:Nat)(p:Î)(bs R:List Î)(w:È):Prop:=
 ∃v,w.heap[b]?=Å (Ù (p::v::R).toArray T (0,0))/\w.ownsRowF B 5 1 v (ſ bs) bs/\v.ownBlock≠Å b/\(bs=[]->v=à Ð 0 0)
def a6(T:ç)(B b:Nat)(bs R:List Î)(w:È):Prop:=
 cU T B b (Ê Ð) bs R w\/cU T B b (Ê (Å ⟨b,0,Ð⟩)) bs R w
section
variable {T:ç} {B b:Nat} {p:Î} {bs R:List Î} {w:È}
theorem cU.cell0(h:cU T B b p bs R w):w.cell? b=Å p:=by
 obtain⟨v,A,_⟩:=h;simp[ü,A]
theorem cU.cellR(h:cU T B b p bs R w)(i):w.cell? (b,i+2)=R[i]?:=by
 obtain⟨v,A,_⟩:=h;simp[ü,A]
theorem cU.shape(h:cU T B b p bs R w):w.shape? b=Å (T,ſ R+2):=by
 obtain⟨v,A,_⟩:=h;simp[World.shape?,A]
theorem cU.lt(h:cU T B b p bs R w):b<w.heap.size:=by
 obtain⟨v,C,_⟩:=h;rcases Nat.lt_or_ge b w.heap.size with A|A
 .exact A
 .simp[Ô A]at C
theorem cU.used(h:cU T B b p bs R w)(q):cU T B b q bs R (w.setCell b q):=by
 obtain⟨v,E,C,A,D⟩:=h;refine⟨v,?_,?_,A,D⟩
 .simp[Í,Õ,E]
 .exact C.kept (row:=Å b) ⟨rfl,rfl,rfl,by simp[Í],λk _ G=>Ò _ _ _ _ (λe=>G (by simp[e]))⟩ (Or.inr A)
theorem cU.stored(h:cU T B b p bs R w)(i q):cU T B b p bs (R.set i q) (w.setCell (b,i+2) q):=by
 obtain⟨v,E,C,A,D⟩:=h;refine⟨v,?_,?_,A,D⟩
 .simp[Í,Õ,E]
 .exact C.kept (row:=Å b) ⟨rfl,rfl,rfl,by simp[Í],λk _ G=>Ò _ _ _ _ (λe=>G (by simp[e]))⟩ (Or.inr A)
theorem cU.frozen(h:cU T B b p bs R w)(i:Nat):w.frozen? (b,i)=false:=by
 obtain⟨v,A,_⟩:=h;simp[World.frozen?,A]
theorem cU.put{v E bs'}(G:w.heap[b]?=Å (Ù (p::v::R).toArray T (0,0)))(A:w.ownsRowF B 5 1 E (ſ bs') bs')(D:T≠5)(H:bs'=[]->E=à Ð 0 0):
  cU T B b p bs' R (w.setCell (b,1) E):=by
 have C:=ó A G D;refine⟨E,?_,?_,C,H⟩
 .simp[Í,Õ,G]
 .exact A.kept (row:=Å b) ⟨rfl,rfl,rfl,by simp[Í],λk _ I=>Ò _ _ _ _ (λe=>I (by simp[e]))⟩ (Or.inr C)
theorem cU.alloc(h:cU T B b p bs R w)(o):cU T B b p bs R (w.alloc o):=by
 have C:=h.lt;obtain⟨v,G,A,D,E⟩:=h;exact⟨v,(ú w o b C).trans G,A.kept (World.grownBy_alloc w o Ð) (by cases H:v.ownBlock<;>simp),D,E⟩
theorem cU.far{K M c t N}(h:cU T B b p bs R w)(J:am w K w M)(D:b≠K)(C:w.heap[K]?=Å (Ù c t N))(P:t≠5):cU T B b p bs R M:=by
 have E:=h.lt;obtain⟨v,I,A,G,H⟩:=h;refine⟨v,(J.block b E D).trans I,A.kept (row:=Å K) ⟨J.os,J.tape,J.output,J.size,λk O L=>J.block k O (λe=>L (by rw[e]))⟩ (Or.inr ?_),G,H⟩;exact ó A C P
theorem a6.at(h:a6 T B b bs R w):∃p,cU T B b p bs R w:=by
 rcases h with h|h
 .exact⟨_,h⟩
 .exact⟨_,h⟩
theorem a6.lt(h:a6 T B b bs R w):b<w.heap.size:=h.at.elim λ_ h=>h.lt
theorem a6.cellR(h:a6 T B b bs R w)(i):w.cell? (b,i+2)=R[i]?:=h.at.elim λ_ h=>h.cellR i
theorem a6.frozen(h:a6 T B b bs R w)(i:Nat):w.frozen? (b,i)=false:=h.at.elim λ_ h=>h.frozen i
theorem a6.alloc(h:a6 T B b bs R w)(o):a6 T B b bs R (w.alloc o):=h.imp (·.alloc o) (·.alloc o)
theorem a6.stored(h:a6 T B b bs R w)(i q):a6 T B b bs (R.set i q) (w.setCell (b,i+2) q):=h.imp (·.stored i q) (·.stored i q)
theorem a6.drew(h:a6 T B b bs R w):a6 T B b bs R w.drew:=h
theorem a6.far{D H c t I}(h:a6 T B b bs R w)(G:am w D w H)(C:b≠D)(A:w.heap[D]?=Å (Ù c t I))(E:t≠5):a6 T B b bs R H:=h.imp (·.far G C A E) (·.far G C A E)
theorem a6.fresh(T)(w:È)(R):a6 T w.heap.size w.heap.size [] R (w.alloc (Ù (Ê Ð::à Ð 0 0::R).toArray T)):=
 Or.inl ⟨à Ð 0 0,heap_alloc_new w _,é _ _ _ _,by simp[ù],λ_=>rfl⟩
theorem a6.unused(T B b w R)(h:w.heap[b]?=Å (Ù (Ê Ð::à Ð 0 0::R).toArray T (0,0))):a6 T B b [] R w:=
 Or.inl ⟨à Ð 0 0,h,é _ _ _ _,by simp[ù],λ_=>rfl⟩
end
theorem qn:(prog.info? 5).map (λi=>(i.zero,i.size,i.bytes))=Å (Å (è .u8 0),1,1):=by kernel_rfl
theorem xj:prog.cellsOf 5=1:=by kernel_rfl
theorem th:(prog.info? 38).map (·.size)=Å 2:=by kernel_rfl
theorem Ji(b:Nat)(w)(C:w.cell? b=Å (Ê b)):
  Ý prog 24 #[Ê b] w λe B=>e=Ú (ý #[])/\B=w:=by
 obtain⟨j,A,_⟩:=Â.1 th;go_in;go_wp2;rw[Lib.run_neq_ptr_same w _ Tryz.underlying35 A];go_wp2
 go_end0
 exact⟨rfl,rfl⟩
theorem IV(T n b:Nat)(w)(I:liesAt prog prog.depth T (n / prog.cellsOf T) 0 38 1=true)(L:w.cell? b=Å (Ê Ð))(B:w.shape? b=Å (T,n))(J:0<n)(H:w.frozen? b=false):
  Ý prog 24 #[Ê b] w λe K=>e=Ú (ý #[])/\K=w.setCell b (Ê b):=by
 obtain⟨j,D,A⟩:=Â.1 th;have G:=aa I;have C:=aa B;have E:Hid (j.size≠0):=(show j.size≠0 by rw[A];decide);go_in;go_wp2;rw[Lib.run_to_unsafe w b Tryz.underlying35 Tryz.underlying94 D E.o C.o J];simp only[Result.andThen];rw[Oper.upon_value];go_wp2;rw[run_callFunc_extern func40 (by kernel_rfl) (by kernel_rfl) (by kernel_rfl) (e:=Extern.AbiNoEscape.same) (by kernel_rfl)];rw[Lib.run_noEscape];simp only[Result.andThen];rw[Oper.upon_value];go_wp2;rw[Lib.run_from_unsafe w b Tryz.underlying94 Tryz.underlying35 D C.o G.o];simp only[Result.andThen];rw[Oper.upon_value];go_wp2
 go_end0
 exact⟨rfl,rfl⟩
def j9(T n:Nat):Prop:=liesAt prog prog.depth T (n / prog.cellsOf T) 0 38 1=true
theorem xM(T B b bs R w)(C:j9 T (ſ R+2))(h:a6 T B b bs R w):
  Ý prog 24 #[Ê b] w λe A=>e=Ú (ý #[])/\(cU T B b (Ê b) bs R A/\am B b w A/\ã 5 (Å b) w A):=by
 rcases h with h|h
 .refine gv (IV T (ſ R+2) b w C h.cell0 h.shape (by omega) (h.frozen 0)) ?_;exact⟨rfl,h.used _,(am.refl B b w).setCell (p:=b) (.inl rfl) _,(Lib.OthersKept.refl _ _ w).setCell b rfl _⟩
 .refine gv (Ji b w h.cell0) ?_;exact⟨rfl,h,am.refl B b _,Lib.OthersKept.refl _ _ _⟩
end Go.Proofs.YtelcnplcpboonaaGreatDoor
namespace Go.Proofs.YtelcnplcpboonaaGreatDoor
def bC(wd:Nat):Nat->List UInt8->Nat × Nat × Nat
 | c,[]=>(0,0,c)
 | c,b::s=>if b=10 then((bC wd 0 s).1,(bC wd 0 s).2.1+1,(bC wd 0 s).2.2)else((if wd<=c then 1 else 0)+(bC wd (c+1) s).1,(bC wd (c+1) s).2.1,(bC wd (c+1) s).2.2)
theorem uL(A:Nat):∀(c:Nat)(s t:List UInt8),bC A c (s++t)=((bC A c s).1+(bC A (bC A c s).2.2 t).1,(bC A c s).2.1+(bC A (bC A c s).2.2 t).2.1,(bC A (bC A c s).2.2 t).2.2)
 | c,[],t=>by simp[bC]
 | c,b::s,t=>by
  simp only[À,bC]
  split
  .rw[uL A 0 s t];simp only[Prod.mk.injEq,and_true,true_and];omega
  .rw[uL A (c+1) s t];simp only[Prod.mk.injEq,and_true];omega
abbrev eY:=(Nat × Nat) × List Int
def dG(a b:Nat × Nat):Prop:=a.1<b.1\/(a.1=b.1/\a.2<b.2)
instance(a b:Nat × Nat):Decidable (dG a b):=by unfold dG;infer_instance
def gj(a b:eY):eY:=if dG b.1 a.1 then b else a
def fO:Option eY->Option eY->Option eY
 | none,y=>y
 | x,Ð=>x
 | some a,Å b=>Å (gj a b)
theorem NT(a b c):gj (gj a b) c=gj a (gj b c):=by
 by_cases A:dG b.1 a.1<;>by_cases B:dG c.1 b.1<;>by_cases C:dG c.1 a.1
 all_goals first
  | (simp[gj,A,B,C];done)
  | (exfalso;unfold dG at A B C;omega)
theorem MV(x y z):fO (fO x y) z=fO x (fO y z):=by
 cases x<;>cases y<;>cases z<;>simp[fO,NT]
def fm:List eY->Option eY
 | []=>Ð
 | a::l=>fO (Å a) (fm l)
theorem rr:∀l m:List eY,fm (l++m)=fO (fm l) (fm m)
 | [],m=>by cases h:fm m<;>simp[fm,fO,h]
 | a::l,m=>by rw[À,fm,fm,rr l m,MV]
def cC(o l:Nat)(u:List Int)(a:eY):eY:=((o+a.1.1,l+a.1.2),u++a.2)
theorem CN(o l u a b):dG (cC o l u b).1 (cC o l u a).1↔dG b.1 a.1:=by
 unfold dG cC;dsimp only;omega
theorem Sx(o l u a b):gj (cC o l u a) (cC o l u b)=cC o l u (gj a b):=by
 unfold gj;by_cases h:dG b.1 a.1
 .rw[if_pos h,if_pos ((CN o l u a b).2 h)]
 .rw[if_neg h,if_neg λk=>h ((CN o l u a b).1 k)]
theorem oT(o l:Nat)(u:List Int):∀A:List eY,fm (A.map (cC o l u))=(fm A).map (cC o l u)
 | []=>rfl
 | a::A=>by
  rw[List.map_cons,fm,oT o l u A,fm];cases fm A with
  | none=>rfl
  | some b=>simp[fO,Sx]
theorem FU:∀{l:List eY},fm l=Ð->l=[]
 | [],_=>rfl
 | a::l,h=>by
  rw[fm]at h;cases A:fm l<;>rw[A]at h<;>simp[fO]at h
theorem uT:∀{l:List eY}{a:eY},fm l=Å a->∃(p q:List eY),l=p++a::q/\(∀b∈p,dG a.1 b.1)/\∀b∈q,¬dG b.1 a.1
 | b::l,a,h=>by
  rw[fm]at h;cases A:fm l with
  | none=>
   rw[A]at h;obtain rfl:=FU A;simp only[fO,Option.some.injEq]at h;subst h;exact⟨[],[],rfl,by simp,by simp⟩
  | some c=>
   rw[A]at h;obtain⟨p,q,rfl,B,C⟩:=uT A;simp only[fO,Option.some.injEq,gj]at h
   split at h
   .rename_i hlt;subst h;refine⟨b::p,q,rfl,λd hd=>?_,C⟩;rcases Ë.1 hd with rfl|hd
    .exact hlt
    .exact B d hd
   .rename_i hlt;subst h;refine⟨[],p++c::q,rfl,by simp,λd hd=>?_⟩;rcases Ã.1 hd with hd|hd
    .have:=B d hd
     unfold dG at *;omega
    .rcases Ë.1 hd with rfl|hd
     .exact hlt
     .have:=C d hd
      unfold dG at *;omega
def Tr.outs:Tr->Nat->List (List UInt8 × List Int)
 | .leaf x,deep=>[(if x.op=1 then x.tx.data.toList else if x.op=5 then []else 10::â deep 32,[])]
 | .one x a,deep=>if x.op=7 then a.outs (deep+x.n.toNat)else(match a.flat with|none=>[]|some s=>[(s,[0])])++(a.outs deep).map λp=>(p.1,1::p.2)
 | .two x a b,deep=>if x.op=6 then(a.outs deep).flatMap λp=>(b.outs deep).map λq=>(p.1++q.1,p.2++q.2)else((a.outs deep).map λp=>(p.1,0::p.2))++(b.outs deep).map λp=>(p.1,1::p.2)
theorem kF:∀(t:Tr)(A:Nat),(t.outs A).map (·.2)=t.ways
 | .leaf x,A=>by simp[Tr.outs,Tr.ways]
 | .one x a,A=>by
  simp only[Tr.outs,Tr.ways]
  split
  .exact kF a _
  .rw[Ñ,<-kF a A]
   congr 1
   .cases h:a.flat<;>simp[Tr.isFlat,h]
   .rw[Ä,Ä];rfl
 | .two x a b,A=>by
  simp only[Tr.outs,Tr.ways]
  split
  .rw[<-kF a A,<-kF b A,Ö,ß]
   congr 1
   funext p
   rw[Ä,Ä];rfl
  .rw[<-kF a A,<-kF b A,Ñ,Ä,Ä,Ä,Ä];rfl
theorem mP:∀(t:Tr)(A:Nat)(p:List UInt8 × List Int),p∈t.outs A->∀r,t.lay A (p.2++r)=.ok (p.1,r)
 | .leaf x,A,p,h,r=>by
  simp only[Tr.outs,ê]at h;subst h;simp only[Tr.lay,Æ]
  split
  .rfl
  .split<;>rfl
 | .one x a,A,p,h,r=>by
  simp only[Tr.outs]at h;simp only[Tr.lay]
  split at h
  .rename_i h7;rw[if_pos h7];exact mP a _ p h r
  .rename_i h7;rw[if_neg h7];rcases Ã.1 h with h|h
   .cases C:a.flat with
    | none=>rw[C]at h;simp at h
    | some s=>
     rw[C]at h;simp only[ê]at h;subst h;simp
   .obtain⟨q,B,rfl⟩:=Á.1 h;simp only[À,if_pos];exact mP a A q B r
 | .two x a b,A,p,h,r=>by
  simp only[Tr.outs]at h;simp only[Tr.lay]
  split at h
  .rename_i h6;rw[if_pos h6];obtain⟨u,E,D⟩:=Þ.1 h;obtain⟨v,G,rfl⟩:=Á.1 D;dsimp only;rw[É,mP a A u E (v.2++r)];dsimp only;rw[mP b A v G r]
  .rename_i h6;rw[if_neg h6];rcases Ã.1 h with h|h
   .obtain⟨q,B,rfl⟩:=Á.1 h;simp only[À,if_pos];exact mP a A q B r
   .obtain⟨q,B,rfl⟩:=Á.1 h;simp only[À];rw[if_neg (by decide)];exact mP b A q B r
def fi:List (Nat × Tr)->List (List UInt8 × List Int)
 | []=>[([],[])]
 | (d,t)::ks=>(t.outs d).flatMap λp=>(fi ks).map λq=>(p.1++q.1,p.2++q.2)
def gZ(wd c:Nat)(ks:List (Nat × Tr)):List eY:=(fi ks).map λp=>(((bC wd c p.1).1,(bC wd c p.1).2.1),p.2)
def ed(wd c:Nat)(ks:List (Nat × Tr)):Option eY:=fm (gZ wd c ks)
theorem J8(A c):ed A c []=Å ((0,0),[]):=by simp[ed,gZ,fi,bC,fm,fO]
theorem Jz(A c s u B):((fi B).map λq=>(s++q.1,u++q.2)).map (λp=>(((bC A c p.1).1,(bC A c p.1).2.1),p.2))=(gZ A (bC A c s).2.2 B).map (cC (bC A c s).1 (bC A c s).2.1 u):=by
 unfold gZ;rw[Ä,Ä]
 congr 1
 funext q
 simp only[Function.comp,uL,cC]
theorem uI(A c d x B s)(C:s=if x.op=1 then x.tx.data.toList else if x.op=5 then []else 10::â d 32):
  ed A c ((d,.leaf x)::B)=(ed A (bC A c s).2.2 B).map (cC (bC A c s).1 (bC A c s).2.1 []):=by
 unfold ed;rw[<-oT,<-Jz,gZ,fi,Tr.outs,<-C];simp
theorem TS(B c d x a A)(h:x.op=7):ed B c ((d,.one x a)::A)=ed B c ((d+x.n.toNat,a)::A):=by
 unfold ed gZ;rw[fi,fi,Tr.outs,if_pos h]
theorem xV(A c d k a B):((((a.outs d).map λp=>(p.1,k::p.2)).flatMap λp=>(fi B).map λq=>(p.1++q.1,p.2++q.2)).map (λp=>(((bC A c p.1).1,(bC A c p.1).2.1),p.2)))=(gZ A c ((d,a)::B)).map (cC 0 0 [k]):=by
 unfold gZ;rw[fi,ß,Ä,Ö,Ö]
 congr 1
 funext p
 rw[Ä,Ä]
 congr 1
 funext q
 simp[Function.comp,cC]
theorem BX(B c d:Nat)(x:Nd)(a:Tr)(C:List (Nat × Tr))(h:x.op≠7):
  ed B c ((d,.one x a)::C)=fO (match a.flat with|none=>Ð|some s=>(ed B (bC B c s).2.2 C).map (cC (bC B c s).1 (bC B c s).2.1 [0])) ((ed B c ((d,a)::C)).map (cC 0 0 [1])):=by
 unfold ed;rw[<-oT,<-xV];rw[gZ,fi,Tr.outs,if_neg h,å,Ñ,rr]
 congr 1
 cases A:a.flat with
 | none=>rfl
 | some s=>
  dsimp only;rw[<-oT,<-Jz];simp
theorem TR(B c d x a b A)(h:x.op=6):ed B c ((d,.two x a b)::A)=ed B c ((d,a)::(d,b)::A):=by
 unfold ed gZ;rw[fi,fi,fi,Tr.outs,if_pos h,List.flatMap_assoc]
 congr 2
 congr 1
 funext p
 rw[ß,Ö]
 congr 1
 funext q
 rw[Ä]
 congr 1
 funext z
 simp[Function.comp,É]
theorem Nm(B c d x a b A)(h:x.op≠6):
  ed B c ((d,.two x a b)::A)=fO ((ed B c ((d,a)::A)).map (cC 0 0 [0])) ((ed B c ((d,b)::A)).map (cC 0 0 [1])):=by
 unfold ed;rw[<-oT,<-oT,<-xV,<-xV,gZ,fi,Tr.outs,if_neg h,å,Ñ,rr]
theorem Lo(t:Tr)(A):t.outs A≠[]:=by grind [kF,qX]
theorem AH:∀A:List (Nat × Tr),fi A≠[]
 | []=>by simp[fi]
 | (d,t)::A=>by
  have B:=Lo t d;have C:=AH A;obtain⟨p,ps,e⟩:=Ü B;rw[fi,e];simp[C]
theorem zk(B c A):∃a,ed B c A=Å a:=by
 cases h:ed B c A with
 | some a=>exact⟨a,rfl⟩
 | none=>
  have:=FU h
  unfold gZ at this;exact absurd (List.map_eq_nil_iff.1 this) (AH A)
theorem p5:∀(t C:Tr)(r D:List Nd),t.Wf->C.Wf->t.N++r=C.N++D->t=C/\r=D
 | .leaf x,C,r,D,h,h',e=>by
  cases C with
  | leaf y=>simp only[Tr.N,À,Æ,Ç]at e;exact⟨by rw[e.1],e.2⟩
  | one y a=>
   simp only[Tr.N,À,Æ,Ç]at e;have A:=h.2;have B:=h'.2.1;rw[e.1,B]at A;cases A
  | two y a b=>
   simp only[Tr.N,À,Æ,Ç]at e;have A:=h.2;have B:=h'.2.1;rw[e.1,B]at A;cases A
 | .one x a,C,r,D,h,h',e=>by
  cases C with
  | leaf y=>
   simp only[Tr.N,À,Æ,Ç]at e;have A:=h.2.1;have B:=h'.2;rw[e.1,B]at A;cases A
  | one y a'=>
   simp only[Tr.N,À,Ç]at e;obtain⟨E,G⟩:=p5 a a' r D h.2.2 h'.2.2 e.2;exact⟨by rw[e.1,E],G⟩
  | two y a' b=>
   simp only[Tr.N,À,Ç]at e;have A:=h.2.1;have B:=h'.2.1;rw[e.1,B]at A;cases A
 | .two x a b,C,r,D,h,h',e=>by
  cases C with
  | leaf y=>
   simp only[Tr.N,À,Æ,Ç]at e;have A:=h.2.1;have B:=h'.2;rw[e.1,B]at A;cases A
  | one y a'=>
   simp only[Tr.N,À,Ç]at e;have A:=h.2.1;have B:=h'.2.1;rw[e.1,B]at A;cases A
  | two y a' b'=>
   simp only[Tr.N,À,É,Ç]at e;obtain⟨E,G⟩:=p5 a a' _ _ h.2.2.1 h'.2.2.1 e.2;obtain⟨H,I⟩:=p5 b b' r D h.2.2.2 h'.2.2.2 G;exact⟨by rw[e.1,E,H],I⟩
theorem Sg{t A:Tr}(h:t.Wf)(B:A.Wf)(e:t.N=A.N):t=A:=(p5 t A [] [] h B (by rw[e])).1
noncomputable def lT(ds:List Nd)(h:bM ds=0):Tr:=Classical.choose (uO h)
theorem mX{A}(h:bM A=0):(lT A h).Wf:=(Classical.choose_spec (uO h)).1
theorem my{A}(h:bM A=0):A=(lT A h).N:=(Classical.choose_spec (uO h)).2
theorem vF{A}(h:bM A=0){t}(B:t.Wf)(e:A=t.N):lT A h=t:=Sg (mX h) B ((my h).symm.trans e)
open Classical in
noncomputable def ld(ds:List Nd):ByteArray:=if h:bM ds=0 then(lT ds h).line else⟨#[]⟩
open Classical in
noncomputable def kZ(ds:List Nd):Bool:=if h:bM ds=0 then(lT ds h).isFlat else false
theorem FQ{A}{t:Tr}(C:t.Wf)(e:A=t.N)(B:ſ A<=400):bM A=0/\ld A=t.line/\kZ A=t.isFlat:=by grind [bM,qH,ld,vF,kZ]
theorem Mm{A}(h:bM A≠0):ld A=⟨#[]⟩/\kZ A=false:=⟨by rw[ld,dif_neg h],by rw[kZ,dif_neg h]⟩
theorem R8{x a c}(h:x.op=6):Tr.line (.two x a c)=(if(a.isFlat&&c.isFlat)=true then a.line++c.line else⟨#[]⟩)/\Tr.isFlat (.two x a c)=(a.isFlat&&c.isFlat):=by
 unfold Tr.line Tr.isFlat;simp only[Tr.flat,if_pos h];cases A:a.flat with
 | none=>simp
 | some s=>
  cases B:c.flat with
  | none=>simp
  | some t=>exact⟨ox (by simp),by simp⟩
end Go.Proofs.YtelcnplcpboonaaGreatDoor
namespace Go.Proofs.YtelcnplcpboonaaGreatDoor
open Go Go.RowKit
set_option maxRecDepth 100000
set_option maxHeartbeats 2000000
theorem EC(T B b bs R c w)(z:j9 T (ſ R+2))(x:T≠5)(h:a6 T B b bs R w)(V:ſ bs+1<=140737488355328)(f:B<=w.heap.size):
  Ý prog 132 #[Ê b,è .u8 c] w λe t=>e=Ú ï/\(a6 T B b (bs++[è .u8 c]) R t/\am B b w t/\ã 5 (Å b) w t):=by
 obtain⟨m,i,Q,S,U⟩:=info_parts qn;have Y:=aa z;have Z:=aa x;have H:=aa h;go_in;go_wp2_with(go_at_call 24;refine(xM T B b bs R _ Y.o H.o).mono ?_);rintro e L⟨rfl,d,G,N⟩;obtain⟨v,J,C,P,_⟩:=d;have c1:=i7 J;go_wp2_with(at_builtin;refine wpList_append_ownF _ rfl _ _ 36 rfl B 5 m (è .u8 0) 1 1 Tryz.underlying36 i Q S U rfl (by decide) _ _ _ rfl (C.alloc _) L.heap.size 1 1 [è .u8 c] rfl rfl ?c1 ?c2 ?c3 ?c4 ?c5 ?_)
 case c1=>
  intro j u K
  match j,K with
  | 0,K=>simp at K;subst K;simp[Addr.add]
 case c2=>intro u W;simp at W;subst W;rfl
 case c3=>unfold maxLen;omega
 case c4=>omega
 case c5=>have:=G.size;simp;omega
 intro n X D A _
 have O:b<L.heap.size:=by
  rcases Nat.lt_or_ge b L.heap.size with M|M
  .exact M
  .simp[Ô M]at J
 have I:X.heap[b]?=Å (Ù (Ê b::v::R).toArray T (0,0)):=by
  rw[A.block b (by simp;omega) (λe=>P e.symm),ú L _ b O];exact J
 have o:=i7 I;have q:X.frozen? (b,1)=false:=ë I 1
 obtain⟨g,E,rfl⟩:∃g E,n=à g (ſ bs+1) E:=by
  rcases D.2 with⟨_,s⟩|⟨g,E,a,r,l,_⟩
  .omega
  .exact⟨g,E,l⟩
 go_wp2;go_ret;refine⟨rfl,.inr ?_,?_,((N.alloc _).grown A (ì (C.alloc _))).setCell (b,1) rfl _⟩
 .exact cU.put I (bs':=bs++[è .u8 c]) (by simpa using D) Z.o (λh=>by simp at h)
 .exact((G.alloc (by have:=G.size;omega) _).grown A (by have:=G.size;simp;omega) (λk y=>(C.lt k y).1)).setCell (p:=(b,1)) (.inl rfl) _
theorem sx(T B b bs R s w)(hl:j9 T (ſ R+2))(hT:T≠5)(h:a6 T B b bs R w)(X:ſ bs+s.size<=140737488355328)(o:B<=w.heap.size):
  Ý prog 10 #[Ê b,þ s] w λe a=>e=Ú (ý #[s.size,ï])/\(a6 T B b (bs++û s) R a/\am B b w a/\ã 5 (Å b) w a):=by
 obtain⟨r,q,S,U,V⟩:=info_parts qn;have f:=aa hl;have i:=aa hT;have H:=aa h;go_in;go_wp2_with(go_at_call 24;refine(xM T B b bs R _ f.o H.o).mono ?_);rintro e a⟨rfl,M,I,N⟩;obtain⟨v,E,C,P,m⟩:=M;have d:=aa m;have t:=gI E;have u:=i7 E;go_wp2_with(at_builtin;refine Lib.wpList_append_own_stringF _ rfl _ _ 36 9 rfl B 5 r Tryz.underlying36 Tryz.underlying9 q S U V _ _ _ rfl C s rfl ?c3 ?c4 ?c5 ?_)
 case c3=>unfold maxLen;omega
 case c4=>omega
 case c5=>have:=I.size;omega
 intro Z c D A K;have j:Hid (Z=à Ð 0 0↔v=à Ð 0 0/\s.size=0):=(show _↔_ by simpa using K)
 have O:b<a.heap.size:=by
  rcases Nat.lt_or_ge b a.heap.size with L|L
  .exact L
  .simp[Ô L]at E
 have J:c.heap[b]?=Å (Ù (Ê b::v::R).toArray T (0,0)):=by
  rw[A.block b O (λe=>P e.symm)];exact E
 have x:=i7 J;have y:c.frozen? (b,1)=false:=ë J 1
 obtain⟨W,Y,G,rfl⟩:∃W Y G,Z=à W Y G:=by
  rcases D.2 with⟨Q,_⟩|⟨g,G,l,z,Q,_⟩
  .exact⟨_,_,_,Q⟩
  .exact⟨_,_,_,Q⟩
 go_wp2;go_ret2;refine⟨rfl,.inr ?_,?_,(N.grown A (ì C)).setCell (b,1) rfl _⟩
 .refine cU.put J (bs':=bs++û s) (by simpa[æ]using D) i.o (λh=>?_);obtain⟨M,n⟩:=List.append_eq_nil_iff.1 h;refine j.o.2 ⟨d.o M,?_⟩;rw[<-æ,n];rfl
 .exact(I.grown A (by have:=I.size;omega) (λk a=>(C.lt k a).1)).setCell (p:=(b,1)) (.inl rfl) _
end Go.Proofs.YtelcnplcpboonaaGreatDoor
namespace Go.Proofs.YtelcnplcpboonaaGreatDoor
def Tr.txt(t:Tr)(u:List Int):List UInt8:=match t.show u with| .ok s=>s| .error _=>[]
theorem Su{t:Tr}{p}(h:p∈t.outs 0):t.show p.2=.ok p.1:=by
 have B:p.2∈t.ways:=by rw[<-kF t 0];exact Á.2 ⟨p,h,rfl⟩
 have A:=mP t 0 p h [];rw[á]at A;unfold Tr.show;rw[if_pos (pC.2 (Hc t _ B)),A]
theorem U7{t:Tr}{p}(h:p∈t.outs 0):t.txt p.2=p.1:=by rw[Tr.txt,Su h]
def Tr.cst(t:Tr)(wd:Nat)(u:List Int):Nat × Nat:=((bC wd 0 (t.txt u)).1,(bC wd 0 (t.txt u)).2.1)
theorem NG(t B):gZ B 0 [(0,t)]=t.ways.map λu=>(t.cst B u,u):=by
 have A:fi [(0,t)]=t.outs 0:=by simp[fi]
 unfold gZ;rw[A,<-kF t 0,Ä];refine List.map_congr_left λp C=>?_
 simp only[Function.comp,Tr.cst,U7 C]
def Tr.best(t:Tr)(wd:Nat):Option eY:=fm (t.ways.map λu=>(t.cst wd u,u))
theorem oD(t wd):t.best wd=ed wd 0 [(0,t)]:=by rw[Tr.best,<-NG];rfl
theorem BW(t:Tr)(A):∃a,t.best A=Å a:=by rw[oD];exact zk A 0 _
theorem Kv{f:List Int->eY}{l:List (List Int)}{k}(A:k<ſ l):fm ((l.take (k+1)).map f)=fO (fm ((l.take k).map f)) (Å (f l[k])):=by
 rw[List.take_add_one,List.getElem?_eq_getElem A,Ñ,rr];rfl
theorem Jm:∀u:List Int,¬fK u u
 | []=>by simp[fK]
 | a::u=>by simp only[fK,if_pos];exact Jm u
theorem IX:∀{u v:List Int},fK u v->¬fK v u
 | a::u,b::v,h=>by
  simp only[fK]at h⊢;by_cases e:a=b
  .subst e;rw[if_pos rfl]at h⊢;exact IX h
  .rw[if_neg e]at h;rw[if_neg λk=>e k.symm];omega
theorem og{t:Tr}{P a}(h:t.best P=Å a):a.2∈t.ways/\t.show a.2=.ok (t.txt a.2)/\a.1=t.cst P a.2/\∀w∈t.ways,¬dG (t.cst P w) a.1/\(t.cst P w=a.1->¬fK w a.2):=by
 obtain⟨p,q,e,K,L⟩:=uT h;obtain⟨N,r,C,E,G⟩:=List.map_eq_append_iff.1 e;obtain⟨x,O,H,I,J⟩:=List.map_eq_cons_iff.1 G;subst H E J I;have B:x∈t.ways:=by rw[C];simp
 have D:=tH t;rw[C]at D;refine⟨B,?_,rfl,λw A=>?_⟩
 .obtain⟨s,M⟩:=(yb t x).2 B;simp only[Tr.txt,M]
 .rw[C]at A;dsimp only;rcases Ã.1 A with A|A
  .have:=K _ (Á.2 ⟨w,A,rfl⟩)
   dsimp only at this;refine⟨?_,λk=>?_⟩
   .unfold dG at *;omega
   .rw[k]at this;unfold dG at this;omega
  .rcases Ë.1 A with rfl|A
   .refine⟨?_,λ_=>Jm _⟩;unfold dG;omega
   .refine⟨L _ (Á.2 ⟨w,A,rfl⟩),λ_=>IX ?_⟩;exact(List.pairwise_cons.1 (Ø.1 D).2.1).1 w A
end Go.Proofs.YtelcnplcpboonaaGreatDoor
namespace Go.Proofs.YtelcnplcpboonaaGreatDoor
open Go Go.RowKit
def aS(w:È)(a:Option Addr)(ds:List Nd):Prop:=
 ∀i(h:i<ſ ds),∃b o,a=Å ⟨b,o,Ð⟩/\b<w.heap.size/\w.cell? ⟨b,o+i*3,Ð⟩=Å (è .i64 ds[i].op)/\w.cell? ⟨b,o+i*3+1,Ð⟩=Å (þ ds[i].tx)/\w.cell? ⟨b,o+i*3+2,Ð⟩=Å (è .i64 ds[i].n)
theorem aS.W{w w' a H}(h:aS w a H)(I:Below w w w'):aS w' a H:=by
 intro i G;obtain⟨b,o,e,A,C,D,E⟩:=h i G;obtain⟨B,_⟩:=a9 I
 have:=I.size
 exact⟨b,o,e,by omega,(B _ _ A).trans C,(B _ _ A).trans D,(B _ _ A).trans E⟩
abbrev Q8(x:Nd):Î:=.agg #[è .i64 x.op,þ x.tx,è .i64 x.n]
