import Derived.Test.YtelcnplcpboonaaGreatDoorPe17
import Derived.Test.YtelcnplcpboonaaGreatDoorPe20
open Go.Proofs.Tryz
open List renaming length->ſ
open Bool renaming false->À,true->Ä
open Array renaming getElem?_eq_some_iff->Á,getElem?_push->Å
open Go.Value renaming slice->Â,string->Ê
open Go renaming World->Ã,Calls->É
open List renaming length_cons->Æ
open Go.RowKit renaming Below->Ç
open Option renaming some->È,none->Ë
namespace Go.Proofs.YtelcnplcpboonaaGreatDoor
open Go Go.RowKit
set_option maxRecDepth 100000
set_option maxHeartbeats 8000000
theorem oe(s w):Cw 192 #[Ê s] w (.bool (aL s)):=by
 unfold Cw;by_cases O:(s.size:Int)<1
 .have A:Hid (aL s=À):=I9 (by omega);go_in;go_wp2;go_ret;exact⟨by rw[A.o];rfl,rfl⟩
 by_cases P:8<(s.size:Int)
 .have A:Hid (aL s=À):=JH (by omega);go_in;go_wp2;go_ret;exact⟨by rw[A.o];rfl,rfl⟩
 by_cases D:s=⟨#[108,101,116]⟩
 .subst D;go_in;go_wp2;go_ret;exact⟨by rfl,rfl⟩
 have L:Hid (¬s=⟨#[108,101,116]⟩):=D
 have J:¬s.toList=[108,101,116]:=by
  rw[ByteArray.toList_eq];intro e;exact D (wR.1 e)
 have N:(s.toList==[108,101,116])=false:=beq_false_of_ne J;clear D;go_in;go_wp2_with fail
 go_loopw [18] (λi wr=>wr=w/\∃k:Nat,k<=s.size/\i=.int .i64 k/\∀j(h:j<s.size),j<k->aI s[j]=Ä) (λi _=>s.size-(intOf i).toNat)
 case atStart=>exact⟨rfl,0,Nat.zero_le _,rfl,λj _ R=>by omega⟩
 case round=>
  obtain⟨rfl,k,Q,rfl,B⟩:=hrel;have K:Hid (∀j(h:j<s.size),j<k->aI s[j]=Ä):=B;clear B;by_cases I:k<s.size
  .cases C:aI s[k]with
   | false=>
    have A:Hid (aL s=À):=DF I C;by_cases G:(s[k].toNat:Int)<97
    .clear C;go_wp2;go_ret;exact⟨by rw[A.o];rfl,rfl⟩
    .have M:(122:Int)<(s[k].toNat:Int):=by
      simp[aI]at C;omega
     clear C;go_wp2;go_ret;exact⟨by rw[A.o];rfl,rfl⟩
   | true=>
    have E:Hid (∀j(h:j<s.size),j<k+1->aI s[j]=Ä):=λj h R=>by
     by_cases H:j=k
     .subst H;exact C
     .exact K.o j h (by omega)
    have G:¬(s[k].toNat:Int)<97/\¬(122:Int)<(s[k].toNat:Int):=by
     simp[aI]at C;omega
    obtain⟨G,M⟩:=G;clear C;go_wp2
    go_roundw
    case rel=>exact⟨by trivial,k+1,by omega,by go_num,E.o⟩
    case measure=>simp[intOf];omega
  .have A:Hid (aL s=Ä):=DE (by omega) (by omega) L.o λj h=>K.o j h (by omega)
   go_wp2;go_ret;exact⟨by rw[A.o];rfl,rfl⟩
def ll(op:Int):Int:=if op=1 then 999999 else if op=3\/op=4 then 6 else 0
def nM(op:Int):Bool:=decide (op=1\/op=3\/op=4)
theorem dM(op M H)(I:ll op=M)(G:nM op=H)(w):Cw 188 #[op] w (.tuple #[M,.bool H]):=by
 unfold Cw;subst I G;by_cases A:op=1
 .subst A;go_in;go_wp2;go_ret2;exact⟨rfl,rfl⟩
 by_cases B:op=3
 .subst B;go_in;go_wp2;go_ret2;exact⟨rfl,rfl⟩
 by_cases C:op=4
 .subst C;go_in;go_wp2;go_ret2;exact⟨rfl,rfl⟩
 have E:Hid (ll op=0):=by show ll op=0;simp[ll,A,B,C]
 have D:Hid (nM op=À):=by show nM op=À;simp[nM,A,B,C]
 go_in;go_wp2;go_ret2;exact⟨by rw[E.o,D.o];rfl,rfl⟩
def sQ(op:Int):Bool:=op==2||op==3||op==7
theorem ee(op H)(J:sQ op=H)(w):Cw 191 #[op] w (.bool H):=by
 unfold Cw;subst J;by_cases A:op=2
 .subst A;go_in;go_wp2;go_ret;exact⟨rfl,rfl⟩
 by_cases B:op=3
 .subst B;go_in;go_wp2;go_ret;exact⟨rfl,rfl⟩
 by_cases C:op=7
 .subst C;go_in;go_wp2;go_ret;exact⟨rfl,rfl⟩
 have D:Hid (sQ op=À):=by show sQ op=À;simp[sQ,A,B,C]
 have E:(op==2)=false:=by simp[A]
 have G:(op==3)=false:=by simp[B]
 have I:(op==7)=false:=by simp[C]
 clear A B C;go_in;go_wp2;go_ret;exact⟨by rw[D.o];rfl,rfl⟩
def fb(op:Int):Bool:=decide (1<=op)&&decide (op<=6)
theorem tB(op:Int)(w):Cw 193 #[op] w (.bool (fb op)):=by
 unfold Cw;by_cases B:1<=op
 .by_cases C:op<=6
  .have A:Hid (fb op=Ä):=by show fb op=Ä;simp[fb,B,C]
   go_in;go_wp2;go_ret;exact⟨by rw[A.o];rfl,rfl⟩
  .have A:Hid (fb op=À):=by show fb op=À;simp[fb,C]
   go_in;go_wp2;go_ret;exact⟨by rw[A.o];rfl,rfl⟩
 .have A:Hid (fb op=À):=by show fb op=À;simp[fb,B]
  go_in;go_wp2;go_ret;exact⟨by rw[A.o];rfl,rfl⟩
theorem DU(x)(w:Ã)(Z:x.tx.size<=140737488351232):Cb 151 #[fk x] w (aF (aq x)):=by
 unfold Cb;obtain⟨G,tx,n⟩:=x;have Z:tx.size<=140737488351232:=Z;have E:∀O:Obj,Ç w w (w.alloc O):=λO=>(Below.refl _ w).alloc Zl O
 by_cases B:G<1
 .have C:Hid (aq ⟨G,tx,n⟩=1):=Im B;have L:ll G=0:=by unfold ll;rw[if_neg (by omega),if_neg (by omega)]
  have M:nM G=false:=decide_eq_false (by omega);go_in;go_wp2_with fail;refine an (dM G 0 À L M _) ?_;go_wp2;go_ret;exact⟨by rw[C.o];rfl,E _⟩
 by_cases D:9<G
 .have C:Hid (aq ⟨G,tx,n⟩=1):=Io B D;have L:ll G=0:=by unfold ll;rw[if_neg (by omega),if_neg (by omega)]
  have M:nM G=false:=decide_eq_false (by omega);go_in;go_wp2_with fail;refine an (dM G 0 À L M _) ?_;go_wp2;go_ret;exact⟨by rw[C.o];rfl,E _⟩
 have R:G=1\/G=2\/G=3\/G=4\/G=5\/G=6\/G=7\/G=8\/G=9:=by omega
 clear B D;rcases R with rfl|rfl|rfl|rfl|rfl|rfl|rfl|rfl|rfl
 .by_cases B:n<0
  .have C:Hid (aq ⟨1,tx,n⟩=1):=Ip B;go_in;go_wp2_with fail;refine an (dM 1 999999 Ä rfl rfl _) ?_;go_wp2;go_ret;exact⟨by rw[C.o];rfl,E _⟩
  .by_cases D:999999<n
   .have C:Hid (aq ⟨1,tx,n⟩=1):=Iq B D;go_in;go_wp2_with fail;refine an (dM 1 999999 Ä rfl rfl _) ?_;go_wp2;go_ret;exact⟨by rw[C.o];rfl,E _⟩
   .by_cases H:0<(tx.size:Int)
    .have C:Hid (aq ⟨1,tx,n⟩=2):=Ir B D H;have K:=oM H;have Q:(tx.toList != [])=true:=by simp[bne,K]
     go_in;go_wp2_with fail;refine an (dM 1 999999 Ä rfl rfl _) ?_;go_wp2_with fail;refine an (ee 1 À rfl _) ?_;go_wp2;go_ret;exact⟨by rw[C.o];rfl,E _⟩
    .have C:Hid (aq ⟨1,tx,n⟩=0):=Is B D H;have J:=oy H;subst J;go_in;go_wp2_with fail;refine an (dM 1 999999 Ä rfl rfl _) ?_;go_wp2_with fail;refine an (ee 1 À rfl _) ?_;go_wp2_with fail;refine an (ee 1 À rfl _) ?_;go_wp2;go_ret;exact⟨by rw[C.o];rfl,E _⟩
 .by_cases B:n=0
  .cases D:aL tx with
   | true=>
    have C:Hid (aq ⟨2,tx,n⟩=0):=Iu B D;subst B;have I:Hid (aL tx=Ä):=D;clear D;go_in;go_wp2_with fail;refine an (dM 2 0 À rfl rfl _) ?_;go_wp2_with fail;refine an (ee 2 Ä rfl _) ?_;go_wp2_with fail;refine an (ee 2 Ä rfl _) ?_;go_wp2_with fail;refine an (oe tx _) ?_;rw[I.o];go_wp2;go_ret;exact⟨by rw[C.o];rfl,E _⟩
   | false=>
    have C:Hid (aq ⟨2,tx,n⟩=5):=Iw B D;subst B;have I:Hid (aL tx=À):=D;clear D;go_in;go_wp2_with fail;refine an (dM 2 0 À rfl rfl _) ?_;go_wp2_with fail;refine an (ee 2 Ä rfl _) ?_;go_wp2_with fail;refine an (ee 2 Ä rfl _) ?_;go_wp2_with fail;refine an (oe tx _) ?_;rw[I.o];go_wp2;go_ret;exact⟨by rw[C.o];rfl,E _⟩
  .have C:Hid (aq ⟨2,tx,n⟩=2):=It B;have N:(n==0)=false:=by simp[B]
   have P:(n != 0)=true:=by simp[B]
   go_in;go_wp2_with fail;refine an (dM 2 0 À rfl rfl _) ?_;go_wp2;go_ret;exact⟨by rw[C.o];rfl,E _⟩
 .by_cases B:n<0
  .have C:Hid (aq ⟨3,tx,n⟩=1):=Ix B;go_in;go_wp2_with fail;refine an (dM 3 6 Ä rfl rfl _) ?_;go_wp2;go_ret;exact⟨by rw[C.o];rfl,E _⟩
  .by_cases D:6<n
   .have C:Hid (aq ⟨3,tx,n⟩=1):=Gm B D;go_in;go_wp2_with fail;refine an (dM 3 6 Ä rfl rfl _) ?_;go_wp2;go_ret;exact⟨by rw[C.o];rfl,E _⟩
   .cases H:aL tx with
    | true=>
     have C:Hid (aq ⟨3,tx,n⟩=0):=Gn B D H;have I:Hid (aL tx=Ä):=H;clear H;go_in;go_wp2_with fail;refine an (dM 3 6 Ä rfl rfl _) ?_;go_wp2_with fail;refine an (ee 3 Ä rfl _) ?_;go_wp2_with fail;refine an (ee 3 Ä rfl _) ?_;go_wp2_with fail;refine an (oe tx _) ?_;rw[I.o];go_wp2;go_ret;exact⟨by rw[C.o];rfl,E _⟩
    | false=>
     have C:Hid (aq ⟨3,tx,n⟩=5):=Gp B D H;have I:Hid (aL tx=À):=H;clear H;go_in;go_wp2_with fail;refine an (dM 3 6 Ä rfl rfl _) ?_;go_wp2_with fail;refine an (ee 3 Ä rfl _) ?_;go_wp2_with fail;refine an (ee 3 Ä rfl _) ?_;go_wp2_with fail;refine an (oe tx _) ?_;rw[I.o];go_wp2;go_ret;exact⟨by rw[C.o];rfl,E _⟩
 .by_cases B:n<0
  .have C:Hid (aq ⟨4,tx,n⟩=1):=Gq B;go_in;go_wp2_with fail;refine an (dM 4 6 Ä rfl rfl _) ?_;go_wp2;go_ret;exact⟨by rw[C.o];rfl,E _⟩
  .by_cases D:6<n
   .have C:Hid (aq ⟨4,tx,n⟩=1):=Gr B D;go_in;go_wp2_with fail;refine an (dM 4 6 Ä rfl rfl _) ?_;go_wp2;go_ret;exact⟨by rw[C.o];rfl,E _⟩
   .by_cases H:0<(tx.size:Int)
    .have C:Hid (aq ⟨4,tx,n⟩=2):=Gs B D H;have K:=oM H;have Q:(tx.toList != [])=true:=by simp[bne,K]
     go_in;go_wp2_with fail;refine an (dM 4 6 Ä rfl rfl _) ?_;go_wp2_with fail;refine an (ee 4 À rfl _) ?_;go_wp2;go_ret;exact⟨by rw[C.o];rfl,E _⟩
    .have C:Hid (aq ⟨4,tx,n⟩=0):=Gt B D H;have J:=oy H;subst J;go_in;go_wp2_with fail;refine an (dM 4 6 Ä rfl rfl _) ?_;go_wp2_with fail;refine an (ee 4 À rfl _) ?_;go_wp2_with fail;refine an (ee 4 À rfl _) ?_;go_wp2;go_ret;exact⟨by rw[C.o];rfl,E _⟩
 .by_cases B:n=0
  .by_cases D:0<(tx.size:Int)
   .have C:Hid (aq ⟨5,tx,n⟩=2):=Gv B D;subst B;have K:=oM D;have Q:(tx.toList != [])=true:=by simp[bne,K]
    go_in;go_wp2_with fail;refine an (dM 5 0 À rfl rfl _) ?_;go_wp2_with fail;refine an (ee 5 À rfl _) ?_;go_wp2;go_ret;exact⟨by rw[C.o];rfl,E _⟩
   .have C:Hid (aq ⟨5,tx,n⟩=0):=Gw B D;subst B;have J:=oy D;subst J;go_in;go_wp2_with fail;refine an (dM 5 0 À rfl rfl _) ?_;go_wp2_with fail;refine an (ee 5 À rfl _) ?_;go_wp2_with fail;refine an (ee 5 À rfl _) ?_;go_wp2;go_ret;exact⟨by rw[C.o];rfl,E _⟩
  .have C:Hid (aq ⟨5,tx,n⟩=2):=Gu B;have N:(n==0)=false:=by simp[B]
   have P:(n != 0)=true:=by simp[B]
   go_in;go_wp2_with fail;refine an (dM 5 0 À rfl rfl _) ?_;go_wp2;go_ret;exact⟨by rw[C.o];rfl,E _⟩
 .by_cases B:n=0
  .by_cases D:0<(tx.size:Int)
   .have C:Hid (aq ⟨6,tx,n⟩=2):=Gy B D;subst B;have K:=oM D;have Q:(tx.toList != [])=true:=by simp[bne,K]
    go_in;go_wp2_with fail;refine an (dM 6 0 À rfl rfl _) ?_;go_wp2_with fail;refine an (ee 6 À rfl _) ?_;go_wp2;go_ret;exact⟨by rw[C.o];rfl,E _⟩
   .have C:Hid (aq ⟨6,tx,n⟩=0):=Gz B D;subst B;have J:=oy D;subst J;go_in;go_wp2_with fail;refine an (dM 6 0 À rfl rfl _) ?_;go_wp2_with fail;refine an (ee 6 À rfl _) ?_;go_wp2_with fail;refine an (ee 6 À rfl _) ?_;go_wp2;go_ret;exact⟨by rw[C.o];rfl,E _⟩
  .have C:Hid (aq ⟨6,tx,n⟩=2):=Gx B;have N:(n==0)=false:=by simp[B]
   have P:(n != 0)=true:=by simp[B]
   go_in;go_wp2_with fail;refine an (dM 6 0 À rfl rfl _) ?_;go_wp2;go_ret;exact⟨by rw[C.o];rfl,E _⟩
 .by_cases B:n=0
  .cases D:aL tx with
   | true=>
    have C:Hid (aq ⟨7,tx,n⟩=0):=GB B D;subst B;have I:Hid (aL tx=Ä):=D;clear D;go_in;go_wp2_with fail;refine an (dM 7 0 À rfl rfl _) ?_;go_wp2_with fail;refine an (ee 7 Ä rfl _) ?_;go_wp2_with fail;refine an (ee 7 Ä rfl _) ?_;go_wp2_with fail;refine an (oe tx _) ?_;rw[I.o];go_wp2;go_ret;exact⟨by rw[C.o];rfl,E _⟩
   | false=>
    have C:Hid (aq ⟨7,tx,n⟩=5):=GC B D;subst B;have I:Hid (aL tx=À):=D;clear D;go_in;go_wp2_with fail;refine an (dM 7 0 À rfl rfl _) ?_;go_wp2_with fail;refine an (ee 7 Ä rfl _) ?_;go_wp2_with fail;refine an (ee 7 Ä rfl _) ?_;go_wp2_with fail;refine an (oe tx _) ?_;rw[I.o];go_wp2;go_ret;exact⟨by rw[C.o];rfl,E _⟩
  .have C:Hid (aq ⟨7,tx,n⟩=2):=GA B;have N:(n==0)=false:=by simp[B]
   have P:(n != 0)=true:=by simp[B]
   go_in;go_wp2_with fail;refine an (dM 7 0 À rfl rfl _) ?_;go_wp2;go_ret;exact⟨by rw[C.o];rfl,E _⟩
 .by_cases B:n=0
  .by_cases D:0<(tx.size:Int)
   .have C:Hid (aq ⟨8,tx,n⟩=2):=GE B D;subst B;have K:=oM D;have Q:(tx.toList != [])=true:=by simp[bne,K]
    go_in;go_wp2_with fail;refine an (dM 8 0 À rfl rfl _) ?_;go_wp2_with fail;refine an (ee 8 À rfl _) ?_;go_wp2;go_ret;exact⟨by rw[C.o];rfl,E _⟩
   .have C:Hid (aq ⟨8,tx,n⟩=0):=GF B D;subst B;have J:=oy D;subst J;go_in;go_wp2_with fail;refine an (dM 8 0 À rfl rfl _) ?_;go_wp2_with fail;refine an (ee 8 À rfl _) ?_;go_wp2_with fail;refine an (ee 8 À rfl _) ?_;go_wp2;go_ret;exact⟨by rw[C.o];rfl,E _⟩
  .have C:Hid (aq ⟨8,tx,n⟩=2):=GD B;have N:(n==0)=false:=by simp[B]
   have P:(n != 0)=true:=by simp[B]
   go_in;go_wp2_with fail;refine an (dM 8 0 À rfl rfl _) ?_;go_wp2;go_ret;exact⟨by rw[C.o];rfl,E _⟩
 .by_cases B:n=0
  .have C:Hid (aq ⟨9,tx,n⟩=cX tx):=by
    show _=_;by_cases h:cX tx=0
    .rw[GH B h,h]
    .exact GI B h
   subst B;go_in;go_wp2_with fail;refine an (dM 9 0 À rfl rfl _) ?_;go_wp2_with fail;refine(Ow tx _ Z).mono ?_;rintro e X⟨A,Y,c,rfl,W,V,S⟩;have U:Ç w w X:=ji Zb Zl S;clear S;go_wp2_with fail;refine an (pU Y A c _ W) ?_;rw[V,<-C.o];go_wp2;go_ret;exact⟨rfl,U⟩
  .have C:Hid (aq ⟨9,tx,n⟩=2):=GG B;have N:(n==0)=false:=by simp[B]
   have P:(n != 0)=true:=by simp[B]
   go_in;go_wp2_with fail;refine an (dM 9 0 À rfl rfl _) ?_;go_wp2;go_ret;exact⟨by rw[C.o];rfl,E _⟩
theorem qg(w:Ã)(o p):Ç w w ((w.alloc o).alloc p):=((Below.refl _ w).alloc Zl o).alloc (by rw[World.size_alloc];omega) p
theorem xA(w:Ã)(o p):((w.alloc o).alloc p).heap[w.heap.size]?=È o:=by
 have A:((w.heap.push o).push p)[w.heap.size]?=È o:=by
  rw[Å,if_neg (by simp),Å,if_pos rfl]
 exact A
theorem xl(w:Ã)(o p):((w.alloc o).alloc p).heap[w.heap.size+1]?=È p:=by
 have A:((w.heap.push o).push p)[w.heap.size+1]?=È p:=by
  rw[Å,if_pos (by simp)]
 exact A
abbrev vY(x:Nd):Obj:=.cells #[.int .i64 x.op,Ê x.tx,.int .i64 x.n] 150 (0,0)
theorem AG{x W}{k:Nat}(h:W.heap[k]?=È (vY x)):aS W k [x]:=by
 intro i B;have C:i=0:=by simp at B;exact B
 subst C;have A:=(Á.1 h).1;refine⟨k,0,rfl,A,?_,?_,?_⟩<;>rw[Lib.cell_of_heap h]<;>rfl
theorem Hs{x P A c}(w:Ã)(W)(R:Ç w w W)(U:W.heap[w.heap.size]?=È (vY x))(S:W.heap[w.heap.size+1]?=È (.cells #[Â w.heap.size 1 1,Â A (ſ P) c] 117 (0,0)))
  (V:aS w A P) (E:A=Ë->ſ P=0/\c=0) (Y:ſ P<=100000):
  É prog 270 #[Â ↑(w.heap.size+1) 2 2] W λe X=>bK w (x::P) e X:=by
 have D:=(Á.1 S).1;have B:∀i,W.cell? ⟨w.heap.size+1,i,Ë⟩=#[Â (È ⟨w,0,Ë⟩) 1 1,Â A (ſ P) c][i]?:=λi=>by simp[World.cell?,S]
 have M:nC W ↑(w.heap.size+1) [[x],P]:=by
  intro i N;have L:i=0\/i=1:=by simp at N;omega
  rcases L with rfl|rfl
  .exact⟨w.heap.size+1,0,È ↑w.heap.size,1,rfl,D,B 0,AG U,λe=>by cases e⟩
  .exact⟨w.heap.size+1,0,A,c,rfl,D,B 1,V.W R,E⟩
 have C:[[x],P].flatten=x::P:=by simp
 have I:=I6 [[x],P] ↑(w.heap.size+1) 2 W M (by rw[C];simp) (by rw[C,Æ];omega) (by simp);rw[C]at I;refine I.mono ?_;rintro e O⟨J,K,rfl,H,G⟩;exact⟨J,K,rfl,H.down R.size,aH R Zl G⟩
theorem TY{x R S A U c c'}(w:Ã)(W)(V:Ç w w W)(Y:W.heap[w.heap.size]?=È (vY x))(X:W.heap[w.heap.size+1]?=È (.cells #[Â w.heap.size 1 1,Â A (ſ R) c,Â U (ſ S) c'] 117 (0,0)))
  (a:aS w A R) (G:A=Ë->ſ R=0/\c=0) (Z:aS w U S) (E:U=Ë->ſ S=0/\c'=0) (d:ſ R+ſ S<=100000):
  É prog 270 #[Â ↑(w.heap.size+1) 3 3] W λe b=>bK w (x::(R++S)) e b:=by
 have D:=(Á.1 X).1;have B:∀i,W.cell? ⟨w.heap.size+1,i,Ë⟩=#[Â (È ⟨w,0,Ë⟩) 1 1,Â A (ſ R) c,Â U (ſ S) c'][i]?:=λi=>by simp[World.cell?,X]
 have N:nC W ↑(w.heap.size+1) [[x],R,S]:=by
  intro i O;have M:i=0\/i=1\/i=2:=by simp at O;omega
  rcases M with rfl|rfl|rfl
  .exact⟨w.heap.size+1,0,È ↑w.heap.size,1,rfl,D,B 0,AG Y,λe=>by cases e⟩
  .exact⟨w.heap.size+1,0,A,c,rfl,D,B 1,a.W V,G⟩
  .exact⟨w.heap.size+1,0,U,c',rfl,D,B 2,Z.W V,E⟩
 have C:[[x],R,S].flatten=x::(R++S):=by simp
 have J:=I6 [[x],R,S] ↑(w.heap.size+1) 3 W N (by rw[C];simp) (by rw[C,Æ,List.length_append];omega) (by simp);rw[C]at J;refine J.mono ?_;rintro e P⟨K,L,rfl,I,H⟩;exact⟨K,L,rfl,I.down V.size,aH V Zl H⟩
theorem ja(s w):É prog 248 #[Ê s] w λe C=>bK w [⟨1,s,0⟩] e C:=by
 have B:=aa (cY.one w ⟨1,s,0⟩);have A:Hid (∀O:Obj,Ç w w (w.alloc O)):=λO=>(Below.refl _ w).alloc Zl O
 go_in;go_wp2;go_ret;exact⟨_,1,rfl,B.o,A.o _⟩
theorem xB(w):É prog 251 #[] w λe C=>bK w [⟨2,⟨#[]⟩,0⟩] e C:=by
 have B:=aa (cY.one w ⟨2,⟨#[]⟩,0⟩);have A:Hid (∀O:Obj,Ç w w (w.alloc O)):=λO=>(Below.refl _ w).alloc Zl O
 go_in;go_wp2;go_ret;exact⟨_,1,rfl,B.o,A.o _⟩
theorem CY(w):É prog 284 #[] w λe C=>bK w [⟨3,⟨#[]⟩,0⟩] e C:=by
 have B:=aa (cY.one w ⟨3,⟨#[]⟩,0⟩);have A:Hid (∀O:Obj,Ç w w (w.alloc O)):=λO=>(Below.refl _ w).alloc Zl O
 go_in;go_wp2;go_ret;exact⟨_,1,rfl,B.o,A.o _⟩
theorem xm{J v}(w)(N:aM w v J)(M:ſ J<=100000):É prog 250 #[v] w λe O=>bK w (⟨7,⟨#[]⟩,2⟩::J) e O:=by
 obtain⟨A,c,rfl,G,B⟩:=N;have D:=aa (λW C K L=>Hs (x:=⟨7,⟨#[]⟩,2⟩) (c:=c) w W C K L G B M);generalize (ſ J)=n at D⊢;go_in;go_wp2_with fail;refine(D.o _ (qg w _ _) (xA w _ _) (xl w _ _)).mono ?_;rintro e I C;have E:=aa C;obtain⟨H,rfl,_,_⟩:=C.val;go_wp2;go_ret;exact E.o
theorem xC{J v}(w)(N:aM w v J)(M:ſ J<=100000):É prog 249 #[v] w λe O=>bK w (⟨8,⟨#[]⟩,0⟩::J) e O:=by
 obtain⟨A,c,rfl,G,B⟩:=N;have D:=aa (λW C K L=>Hs (x:=⟨8,⟨#[]⟩,0⟩) (c:=c) w W C K L G B M);generalize (ſ J)=n at D⊢;go_in;go_wp2_with fail;refine(D.o _ (qg w _ _) (xA w _ _) (xl w _ _)).mono ?_;rintro e I C;have E:=aa C;obtain⟨H,rfl,_,_⟩:=C.val;go_wp2;go_ret;exact E.o
theorem gW{M N v u}(w)(S:aM w v M)(U:aM w u N)(R:ſ M+ſ N<=100000):É prog 246 #[v,u] w λe V=>bK w (⟨6,⟨#[]⟩,0⟩::(M++N)) e V:=by
 obtain⟨A,c,rfl,I,C⟩:=S;obtain⟨J,c',rfl,H,B⟩:=U;have E:=aa (λW D O P=>TY (x:=⟨6,⟨#[]⟩,0⟩) (c:=c) (c':=c') w W D O P I C H B R);generalize (ſ M)=n at E⊢;generalize (ſ N)=m at E⊢;go_in;go_wp2_with fail;refine(E.o _ (qg w _ _) (xA w _ _) (xl w _ _)).mono ?_;rintro e L D;have G:=aa D;obtain⟨K,rfl,_,_⟩:=D.val;go_wp2;go_ret;exact G.o
structure Ly(w0:Ã)(b:Nat)(ds:List Td)(w:Ã)(A:Option Addr)(c:Nat):Prop where
 x:w.heap[b]?=È (.cells #[Â A (ſ ds) c] 301 (0,0))
 le:ſ ds<=c
 td:aG w0 A ds
 bl:Ç w0 w0 w
 lt:w0.heap.size<=b
def eS(w0:Ã)(b:Nat)(ds:List Td)(w:Ã):Prop:=∃A c,Ly w0 b ds w A c
theorem Ly.in{C b B w A c}(h:Ly C b B w A c):b<w.heap.size:=(Á.1 h.x).1
theorem eS.grew{E b B}{w:Ã}{D}(h:eS E b B w)(C:Ç w w D):eS E b B D:=by
 obtain⟨A,c,h⟩:=h;exact⟨A,c,(C.block b h.in).trans h.x,h.le,h.td,aH h.bl Zl C,h.lt⟩
structure Lk(w0:Ã)(b:Nat)(w:Ã)(rest:List Td)(wk:Ã):Prop where
 bt:ak w b w wk
 ly:eS w0 b rest wk
 lt:b<w.heap.size
theorem Lk.step{D b w rest}{A:Ã}{C}(h:Lk D b w rest A)(B:Ç A A C):Lk D b w rest C:=
 ⟨h.bt.trans (ak.of (B.mono h.bt.size)),h.ly.grew B,h.lt⟩
theorem Lk.in{B b w rest A}(h:Lk B b w rest A):b<A.heap.size:=Nat.lt_of_lt_of_le h.lt h.bt.size
def jt(b:Nat)(w:Ã)(v:Value)(xs:List Nd):Prop:=∃A c B,v=Â A (ſ xs) c/\b<B/\cY B (Â A (ſ xs) c) xs w
theorem jt.but{b}{w:Ã}{E v G}(h:jt b w v G)(I:ak w b w E):jt b E v G:=by
 obtain⟨A,c,B,e,C,D⟩:=h;exact⟨A,c,B,e,C,D.kept λg J H=>I.block g H (by omega)⟩
theorem jt.bel{b}{w:Ã}{A v B}(h:jt b w v B)(C:Ç w w A):jt b A v B:=h.but (.of C)
theorem jt.val{b w v E}(h:jt b w v E):aM w v E:=by
 obtain⟨A,c,B,rfl,D,C⟩:=h;exact C.val
theorem bK.valB{w:Ã}{B e A b}(h:bK w B e A)(C:b<w.heap.size):∃v,e=.returned v/\jt b A v B/\Ç w w A:=by grind [bK,jt]
def bY(w0:Ã)(b:Nat)(w:Ã)(xs:List Nd)(rest:List Td)(e:Ending)(w':Ã):Prop:=∃A c,e=.returned (Â A (ſ xs) c)/\cY w.heap.size (Â A (ſ xs) c) xs w'/\Lk w0 b w rest w'
theorem bK.gof{G b w H I rest e E}(h:bK H I e E)(D:Lk G b w rest H):bY G b w I rest e E:=by
 obtain⟨A,c,e,B,C⟩:=h;exact⟨A,c,e,B.down D.bt.size,D.step C⟩
theorem bY.val{E b w G rest e D}(h:bY E b w G rest e D):∃v,e=.returned v/\jt b D v G/\Lk E b w rest D:=by
 obtain⟨A,c,e,C,B⟩:=h;exact⟨_,e,⟨A,c,_,rfl,B.lt,C⟩,B⟩
theorem Lk.then{A b w D C r1 B}(h:Lk A b w r1 D)(k:Lk A b D B C):Lk A b w B C:=⟨h.bt.trans (k.bt.mono h.bt.size),k.ly,h.lt⟩
theorem bY.then{D b w H G r1 E I e}(h:Lk D b w r1 H)(k:bY D b H I E e G):bY D b w I E e G:=by
 obtain⟨A,c,e,B,C⟩:=k;exact⟨A,c,e,B.down h.bt.size,h.then C⟩
theorem JX{w:Ã}{k:Nat}{a A T}(h:w.heap[k]?=È (.cells #[a] T (0,0))):(w.setCell k A).heap[k]?=È (.cells #[A] T (0,0)):=by
 simp[World.setCell,Array.getElem?_modify,h]
theorem lI{j b x i w}(h:eS j b (x::i) w):
  É prog 245 #[.pointer b] w λe k=>e=.returned (fk x)/\Lk j b w i k:=by
 obtain⟨A,c,h⟩:=h;obtain⟨E,O,rfl,B,J,K,L⟩:=h.td 0 (by simp);obtain⟨G,C,D⟩:=G4 h.td h.le;simp only[List.getElem_cons_zero,Nat.zero_mul,Nat.add_zero]at J K L;obtain⟨I,_⟩:=a9 h.bl;have a:w.cell? (E,O)=È ↑x.op:=(I _ _ B).trans J;have d:w.cell? (E,O+1)=È (Ê x.tx):=(I _ _ B).trans K;have f:w.cell? (E,O+2)=È ↑x.n:=(I _ _ B).trans L;have M:b<w.heap.size:=h.in;have Z:E<w.heap.size:=Nat.lt_of_lt_of_le B h.bl.size;have U:=gI h.x;have g:w.frozen? b=false:=Lib.frozen_of_heap h.x 0;have X:¬E=b:=by have:=h.lt;omega
 have H:=aa h;have S:Hid (aG j G i):=D;have N:=h.le;generalize Q:(x::i).length=n at U C N;have V:0<n:=by rw[<-Q];simp
 clear h D J K L I Q;generalize P:ſ i=m at C;have R:Hid (ſ i=m):=P;clear P;go_in;go_wp2;refine bodyPost_ret (v:=fk x) (by simp[results,Tryz.results245,go_sem]) rfl ?_;have h:=H.o
 have Y:eS j b i (w.setCell b (Â G m (c-1))):=by
  refine⟨G,c-1,?_,?_,S.o,h.bl.setCell (p:=b) h.lt _,h.lt⟩
  .rw[R.o];exact JX h.x
  .have:=h.le;simp only[Æ]at this;omega
 have W:Lk j b w i (w.setCell b (Â G m (c-1))):=⟨(ak.refl _ _ _).setCell (p:=b) (.inl rfl) _,Y,M⟩;exact⟨rfl,W.step (qg _ _ _)⟩
theorem Ul(U a S)(Z:ſ U<=400)(tx n A X W)(Y:gB U a S A X W):gB U a S (⟨7,tx,n⟩::A) (X) (W):=by
 intro i r w N E;obtain⟨O,K,L⟩:=fg (x:=⟨7,tx,n⟩) (r:=A++r) N;obtain⟨Q,R,M,P,B,C,D⟩:=E i O;subst M;rw[K]at B C D;dsimp only at B C D;have H:=aa L;have J:=aa E;have G:=aa Y;have I:Hid (((i+1:Nat):Int)=(i:Int)+1):=(show _=_ by omega);go_in;go_wp2_with fail;rw[<-I.o];refine ai (G.o (i+1) _ _ H.o J.o) λb V=>?_
 go_wp2;go_ret2;exact⟨rfl,V⟩
theorem Um(U a S)(Z:ſ U<=400)(tx n A X W)(Y:gB U a S A X W):gB U a S (⟨8,tx,n⟩::A) (X) (W):=by
 intro i r w N E;obtain⟨O,K,L⟩:=fg (x:=⟨8,tx,n⟩) (r:=A++r) N;obtain⟨Q,R,M,P,B,C,D⟩:=E i O;subst M;rw[K]at B C D;dsimp only at B C D;have H:=aa L;have J:=aa E;have G:=aa Y;have I:Hid (((i+1:Nat):Int)=(i:Int)+1):=(show _=_ by omega);go_in;go_wp2_with fail;rw[<-I.o];refine ai (G.o (i+1) _ _ H.o J.o) λb V=>?_
 go_wp2;go_ret2;exact⟨rfl,V⟩
theorem Un(V a U)(b:ſ V<=400)(tx n A C Y X)(Z:gB V a U A Y X):gB V a U (⟨9,tx,n⟩::(A++C)) (Y) (X):=by
 intro i r w O H;obtain⟨P,L,M⟩:=fg (x:=⟨9,tx,n⟩) (r:=(A++C)++r) O;obtain⟨R,S,N,Q,D,E,G⟩:=H i P;subst N;rw[L]at D E G;dsimp only at D E G;have B:=aa M;have K:=aa H;rw[List.append_assoc]at B;have I:=aa Z;have J:Hid (((i+1:Nat):Int)=(i:Int)+1):=(show _=_ by omega);go_in;go_wp2_with fail;rw[<-J.o];refine ai (I.o (i+1) _ _ B.o K.o) λc W=>?_
 go_wp2;go_ret2;exact⟨rfl,W⟩
theorem NF{x a c}(h:x.op=6):Tr.line (.two x a c)=(if(a.isFlat&&c.isFlat)=Ä then a.line++c.line else⟨#[]⟩)/\Tr.isFlat (.two x a c)=(a.isFlat&&c.isFlat):=by
 unfold Tr.line Tr.isFlat;simp only[Tr.flat,if_pos h];cases A:a.flat with
 | none=>simp
 | some s=>
  cases B:c.flat with
  | none=>simp
  | some t=>exact⟨ox (by simp),by simp⟩
theorem mB(I:List Nd)(a:Option Addr)(H:Nat)(J:ſ I<=400):∀t:Tr,t.Wf->ſ t.N<=400->gB I a H t.N t.line t.isFlat
 | .leaf ⟨op,tx,n⟩,h,hn=>by
  rcases iZ h.1 h.2 with e|e|e|e|e
  all_goals (simp only at e;subst e)
  .have L:Tr.line (.leaf ⟨1,tx,n⟩)=tx:=ox (by rw[xW];simp[Tr.flat]);rw[L];exact Uf I a H tx n
  .exact Ug I a H tx n
  .exact Uh I a H tx n
  .exact Ui I a H tx n
  .exact Uj I a H tx n
 | .one ⟨op,tx,n⟩ a',h,hn=>by
  have K:ſ a'.N<=400:=by simp[Tr.N]at hn;omega
  rcases jD h.2.1 with e|e
  all_goals (simp only at e;subst e)
  .exact Ul I a H J tx n _ _ _ (mB I a H J a' h.2.2 K)
  .exact Um I a H J tx n _ _ _ (mB I a H J a' h.2.2 K)
 | .two ⟨op,tx,n⟩ a' c,h,hn=>by
  have A:ſ a'.N<=400:=by simp[Tr.N]at hn;omega
  have B:ſ c.N<=400:=by simp[Tr.N]at hn;omega
  have C:a'.line.size<=8800:=by have:=lN a' h.2.2.1;rw[p4];omega
  have D:c.line.size<=8800:=by have:=lN c h.2.2.2;rw[p4];omega
  rcases jj h.2.1 with e|e
  all_goals (simp only at e;subst e)
  .obtain⟨E,G⟩:=NF (x:=⟨6,tx,n⟩) (a:=a') (c:=c) rfl;rw[E,G];exact Uk I a H J tx n _ _ _ _ _ _ (mB I a H J a' h.2.2.1 A) (mB I a H J c h.2.2.2 B) C D λi r M=>oh h.2.2.1 M
  .exact Un I a H J tx n _ _ _ _ (mB I a H J a' h.2.2.1 A)
