import Derived.Test.YtelcnplcpboonaaGreatDoorPe07
import Derived.Test.YtelcnplcpboonaaGreatDoorPe02
import Derived.Deep.RegionHeld3
import Derived.Test.YtelcnplcpboonaaGreatDoorRows
import Derived.ChangeSame
import Derived.ChangeVars
import Derived.JoinedOf
import Derived.RowKit
import Derived.LaidLaws
import Derived.LaidHandle
import Derived.Stop.Joined
open Go.Proofs.Tryz
open Go.Value renaming string->À,pointer->Å,int->Ï,bool->Ó,tuple->Ô
open Go.World renaming size_alloc->Á,cell?->Ð
open Bool renaming false->Â,true->Ö
open List renaming take_succ_eq_append_getElem->Ã,drop_zero->Ë,mem_singleton->Î,range->Ú
open Go.Lib renaming indexByte->Ä,toList_data->Æ
open Go renaming bodyPost_ret->Ç,World->È,Calls->Ñ,results->Ò
open Nat renaming lt_of_lt_of_le->É,le_trans->Ê,zero_le->Ø,le_refl->Ù
open Option renaming some->Ì,none->Õ
open Go.Obj renaming cells->Í
namespace Go.Proofs.YtelcnplcpboonaaGreatDoor
open Go Go.RowKit
set_option maxRecDepth 100000
set_option maxHeartbeats 1000000
theorem rq(t k):t.extract 0 k=ab ((ae t).take k):=by
 rw[m8,Ë,Nat.sub_zero]
theorem zB(t k):ae (t.extract k t.size)=(ae t).drop k:=Lib.extract_to_end t k
def dU(lo hi:Nat)(c:UInt8):Bool:=decide (lo<=c.toNat)&&decide (c.toNat<=hi)
theorem xO(w:È)(v t):(w.alloc (Í #[v] t)).cell? w.heap.size=Ì v:=by
 have h:(w.alloc (Í #[v] t)).heap[w.heap.size]?=Ì (Í #[v] t):=by
  show(w.heap.push (Í #[v] t))[w.heap.size]?=_
  simp
 simp only[Ð,Option.isSome_none,Bool.false_eq_true,if_false,h];rfl
theorem Rt{w:È}{o}{b k:Nat}(h:b<w.heap.size):(w.alloc o).cell? (b,k)=w.cell? (b,k):=by
 simp[Ð,Below.heap_alloc w o b h]
structure jC(w:È)(a b lo hi:Nat):Prop where
 la:a<w.heap.size
 lb:b<w.heap.size
 ca:w.cell? ⟨a,0,Õ⟩=Ì (Ï .u8 (lo:Int))
 cb:w.cell? ⟨b,0,Õ⟩=Ì (Ï .u8 (hi:Int))
theorem jC.W{w w' a b lo hi}(h:jC w a b lo hi)(A:Below w w w'):jC w' a b lo hi:=
 {la:=É h.la A.size,lb:=É h.lb A.size,ca:=(A.cell (p:=a) h.la).trans h.ca,cb:=(A.cell (p:=b) h.lb).trans h.cb}
abbrev yG(a b:Nat):Value:=.func (.func 176) #[] #[Å (Ì ⟨a,0,Õ⟩),Å (Ì ⟨b,0,Õ⟩)]
theorem kI(lo hi:Nat)(w:È):Ñ prog 142 #[Ï .u8 (lo:Int),Ï .u8 (hi:Int)] w λe A=>(∃a b,e=.returned (yG a b)/\jC A a b lo hi)/\Below w w A:=by
 go_in;go_wp2;go_ret;refine⟨⟨w.heap.size,w.heap.size+1,rfl,?_⟩,?_⟩
 .refine{la:=?_,lb:=?_,ca:=?_,cb:=?_}
  .rw[Á,Á];omega
  .rw[Á,Á];omega
  .rw[Rt (by rw[Á];omega)];exact xO w _ _
  .have h:=xO (w.alloc (Í #[Ï .u8 (lo:Int)] 5)) (Ï .u8 (hi:Int)) 5;rw[Á]at h;exact h
 .exact((Below.refl w.heap.size w).alloc Zl _).alloc (by rw[Á];omega) _
theorem kE(c){a b lo hi w}(h:jC w a b lo hi):Cw 176 #[Ï .u8 (c.toNat:Int),Å a,Å b] w (Ó (dU lo hi c)):=by
 unfold Cw;obtain⟨_,_,B,C⟩:=h;by_cases D:(lo:Int)<=(c.toNat:Int)
 .by_cases E:(c.toNat:Int)<=(hi:Int)
  .have A:Hid (dU lo hi c=Ö):=by show dU lo hi c=Ö;simp[dU];omega
   go_in;go_wp2;go_ret;exact⟨by rw[A.o];rfl,rfl⟩
  .have A:Hid (dU lo hi c=Â):=by show dU lo hi c=Â;simp[dU];omega
   go_in;go_wp2;go_ret;exact⟨by rw[A.o];rfl,rfl⟩
 .have A:Hid (dU lo hi c=Â):=by show dU lo hi c=Â;simp[dU];omega
  go_in;go_wp2;go_ret;exact⟨by rw[A.o];rfl,rfl⟩
theorem uy(t){a b lo hi w}(h:jC w a b lo hi)(O:t.size<=60000):
  Cw 143 #[À t,yG a b] w (À (ab ((ae t).takeWhile (dU lo hi)))):=by
 unfold Cw;have H:=aa h;go_in;go_wp2_with fail
 go_loopw [5] (λn wr=>wr=w/\∃k:Nat,n=(k:Int)/\k<=t.size/\k+ci (dU lo hi) t k=ci (dU lo hi) t 0) (λn _=>t.size-(intOf n).toNat)
 case atStart=>exact⟨rfl,0,rfl,Ø _,by omega⟩
 case round=>
  obtain⟨rfl,k,rfl,M,G⟩:=hrel;have I:=aa G
  have B:ci (dU lo hi) t k=0->t.extract 0 k=ab ((ae t).takeWhile (dU lo hi)):=λN=>by
   have K:=I.o
   have L:((ae t).takeWhile (dU lo hi)).length=k:=by
    rw[ci,ci,Ë]at K;rw[ci]at N;omega
   rw[rq,<-L,jK]
  by_cases A:k<t.size
  .have E:(k:Int)<(t.size:Int):=by omega
   cases C:dU lo hi t[k]with
   | true=>
    have J:Hid (k+1+ci (dU lo hi) t (k+1)=ci (dU lo hi) t 0):=by
     show _=_
     have:=sk A C
     have:=I.o
     omega
    go_wp2_with fail;refine an (kE t[k] H.o) ?_;rw[C];go_wp2
    go_roundw
    case rel=>exact⟨by trivial,k+1,by go_num,by omega,J.o⟩
    case measure=>simp[intOf];omega
   | false=>
    have D:=aa (B (rH A C));go_wp2_with fail;refine an (kE t[k] H.o) ?_;rw[C];go_wp2;go_ret;exact⟨by rw[D.o];rfl,rfl⟩
  .have E:¬(k:Int)<(t.size:Int):=by omega
   have D:=aa (B (sj A));go_wp2;go_ret;exact⟨by rw[D.o];rfl,rfl⟩
def QJ:Value->Nat
 | À u=>u.size
 | _=>0
theorem EY(w:È)(n):Below w w (w.drewN n):=(Below.refl w.heap.size w).trans ⟨rfl,rfl,rfl,Ù _,λ_ _=>rfl⟩
theorem JB(u)(h:0<u.size):ae u=ae (u.extract 0 (u.size-1))++[u[u.size-1]]:=by
 have D:u.size-1<(ae u).length:=by rw[aw];omega
 have B:ae (u.extract 0 (u.size-1))=(ae u).take (u.size-1):=by rw[rq];rfl
 have A:=Ã D;have C:u.size-1+1=(ae u).length:=by rw[aw];omega
 rw[C,List.take_length]at A;rw[B];exact A
theorem S8(t w)(N:t.size<=60000):
  Cw 177 #[À t,Ï .u8 32] w (À (ab (bU (ae t)))):=by
 unfold Cw;go_in;go_wp2_with fail
 go_loopw [0] (λx wr=>wr=w/\∃u:ByteArray,x=À u/\u.size<=60000/\bU (ae u)=bU (ae t)) (λx _=>QJ x)
 case atStart=>exact⟨rfl,t,rfl,N,rfl⟩
 case round=>
  obtain⟨rfl,u,rfl,M,I⟩:=hrel;have D:=aa I;by_cases L:0<u.size
  .have E:(0:Int)<(u.size:Int):=by omega
   have J:=aa (JB u L);cases C:(u[u.size-1]==32)with
   | true=>
    have G:((u[u.size-1].toNat:Int)==32)=true:=by rw[show(32:Int)=((32:Nat):Int)from rfl,fC _ 32 (by decide)];exact C
    have A:Hid (bU (ae (u.extract 0 (u.size-1)))=bU (ae t)):=by
     show _=_;rw[<-D.o,J.o,beq_iff_eq.1 C,xv]
    have H:(u.extract 0 (u.size-1)).size=u.size-1:=by rw[ByteArray.size_extract];omega
    have B:=(show Hid (_=_)from H);go_wp2;exact⟨⟨by trivial,_,rfl,by rw[B.o];omega,A.o⟩,by show(u.extract 0 (u.size-1)).size<u.size;rw[B.o];omega⟩
   | false=>
    have G:((u[u.size-1].toNat:Int)==32)=false:=by rw[show(32:Int)=((32:Nat):Int)from rfl,fC _ 32 (by decide)];exact C
    have A:Hid (u=ab (bU (ae t))):=by
     show _=_;rw[<-D.o,J.o,jA _ (by simpa using C),<-JB u L];rfl
    go_wp2;go_ret;exact⟨by rw[<-A.o];rfl,rfl⟩
  .have E:¬(0:Int)<(u.size:Int):=by omega
   have A:Hid (u=ab (bU (ae t))):=by
    show _=_;have K:ae u=[]:=List.eq_nil_of_length_eq_zero (by rw[aw];omega);rw[<-D.o,K,S9];show u=⟨#[]⟩;apply ByteArray.ext;exact Array.toList_inj.1 K
   go_wp2;go_ret;exact⟨by rw[<-A.o];rfl,rfl⟩
theorem Ta(t w)(C:0<t.size)(B:t.size<=60000):
  Cw 144 #[À t,À ⟨#[32]⟩] w (À (ab (bU (ae t)))):=by
 unfold Cw;have A:(t.toList==[])=false:=by
  rw[Æ]
  have:=(show t.data.toList.length=t.size from aw t)
  cases h:t.data.toList with
  | nil=>rw[h]at this;simp at this;omega
  | cons a b=>rfl
 go_in;go_wp2_with fail;refine an (S8 t _ B) ?_;go_wp2;go_ret;exact⟨rfl,rfl⟩
def lr(t:ByteArray):ByteArray:=ab ((ae t).takeWhile bO)
theorem Vm(t)(w:È)(J:t.size<=60000):
  Ñ prog 23 #[À t,À ⟨#[10]⟩] w λe I=>(∃r b,e=.returned (Ô #[À (lr t),À r,Ó b]))/\Below w w I:=by
 have H:=Lib.indexByte_ge t.data.toList 10;by_cases D:Ä t.data.toList 10=-1
 .have A:Hid (t=lr t):=by
   show t=ab ((ae t).takeWhile bO);rw[Gl _ D];rfl
  go_in;go_wp2_with(go_at_call 39;refine(Jp _ _ D).mono ?_;rintro e I⟨rfl,n,rfl⟩);go_ret3;exact⟨⟨_,_,by rw[<-A.o];rfl⟩,EY _ _⟩
 .obtain⟨i,C⟩:∃i:Nat,Ä t.data.toList 10=i:=⟨(Ä t.data.toList 10).toNat,by omega⟩;obtain⟨E,G⟩:=Il _ i C;have B:i+1<=t.size:=by rw[<-aw];exact G
  have A:Hid (t.extract 0 i=lr t):=by
   show t.extract 0 i=ab ((ae t).takeWhile bO);rw[rq,E]
  go_in;go_wp2_with(go_at_call 39;refine(CA _ _ _ C B (by omega)).mono ?_;rintro e I⟨rfl,n,rfl⟩);go_ret3;exact⟨⟨_,_,by rw[<-A.o];rfl⟩,EY _ _⟩
abbrev Q9(a:Nat):Value:=.func (.func 140) #[] #[Å (Ì ⟨a,0,Õ⟩)]
def jn(w:È)(a:Nat)(bs:ByteArray):Prop:=a<w.heap.size/\w.cell? ⟨a,0,Õ⟩=Ì (À bs)
theorem jn.W{B w w' a bs}(h:jn w a bs)(C:a<B)(A:Below B w w'):jn w' a bs:=
 ⟨É h.1 A.size,(A.cell (p:=a) C).trans h.2⟩
theorem DI(bs w):Ñ prog 113 #[À bs] w λe A=>e=.returned (Q9 w.heap.size)/\A=w.alloc (Í #[À bs] 9):=by
 go_in;go_wp2;go_ret;exact⟨rfl,rfl⟩
theorem jn.new(bs)(w:È):jn (w.alloc (Í #[À bs] 9)) w.heap.size bs:=⟨by rw[Á];omega,xO w _ _⟩
theorem LD(s c w):
  Ñ prog 141 #[À s,Ï .u8 c] w λe A=>e=.returned (Ä s.data.toList c.toNat.toUInt8)/\A=w:=by
 go_in;go_wp2_with fail;refine gv (vZ _ _ _) ?_;go_wp2;go_ret;exact⟨rfl,rfl⟩
theorem sD(c){a bs w}(h:jn w a bs):Cw 140 #[Ï .u8 (c.toNat:Int),Å a] w (Ó ((ae bs).any (·==c))):=by
 unfold Cw;have E:=h.2;have A:=(show Hid (_=_)from H9 (ae bs) c);have C:(c.toNat:Int).toNat.toUInt8=c:=by simp
 go_in;go_wp2_with fail;refine gv (LD bs _ _) ?_;rw[C];generalize D:Ä bs.data.toList c=z;have B:Hid (decide (0<=z)=(ae bs).any (·==c)):=by rw[<-D];exact A
 go_wp2;go_ret;exact⟨by rw[<-B.o];rfl,rfl⟩
set_option maxHeartbeats 2000000
theorem jT(l):(ab l).size=l.length:=by
 rw[<-aw];rfl
theorem mM{t}(h:0<t.size):ae t=t[0]::(ae t).drop 1:=by
 have A:=fv h;rw[Ë,Nat.zero_add]at A;exact A
theorem FK(n m:Nat):decide (n<=m)=decide ((n:Int)<=(m:Int)):=by grind
theorem U5{w a bs}(h:jn w a bs):jn w.drew a bs:=h
abbrev oQ(t:ByteArray)(w:È)(e:Ending)(w':È):Prop:=e=.returned (Ô #[À (ab (aK (ae t))),Ó (bX (ae t))])/\Below w w w'
theorem RL(t w)(d:0<t.size)(b:t.size<=60000)(a:aI t[0]=Ö):Ñ prog 114 #[À t] w λe f=>oQ t w e f:=by
 obtain⟨C,I⟩:=Qp (c:=t[0]) (r:=(ae t).drop 1) a;rw[<-mM d]at C I;have K:Hid (dU 97 122 t[0]=Ö):=a
 have H:Hid (ab ((ae t).takeWhile (dU 97 122))=ab (aK (ae t))):=by
  show _=_;rw[C];rfl
 have B:Hid (bX (ae t)=decide (((ab (aK (ae t))).size:Int)<=8)):=by
  show _=_;rw[I,jT,C,FK];rfl
 have R:(ab (aK (ae t))).size<=60000:=by
  rw[jT];exact Ê (oX _) (by rw[aw];exact b)
 generalize Q:ab (aK (ae t))=W at H B R;generalize P:bX (ae t)=O at B;have M:=(show Hid (_=_)from Q);have L:=(show Hid (_=_)from P);go_in;go_wp2_with fail;refine(kI 97 122 _).mono ?_;rintro e Y⟨⟨S,V,rfl,D⟩,E⟩;go_wp2_with fail;refine(kI 48 57 _).mono ?_;rintro e Z⟨⟨U,X,rfl,N⟩,A⟩;have G:=aa (D.W A);have J:=aa (aH E Zl A);go_wp2_with fail;refine an (kE t[0] G.o) ?_;rw[K.o];go_wp2_with fail;refine an (uy t G.o b) ?_;rw[H.o];go_wp2;refine Ç (v:=Ô #[À W,Ó O]) (by rw[B.o];simp[Ò,Tryz.results114,go_sem]) rfl ?_;exact⟨by rw[M.o,L.o],J.o⟩
theorem RK(t w)(s:0<t.size)(q:t.size<=60000)(p:aI t[0]=Â)(n:ay t[0]=Ö):Ñ prog 114 #[À t] w λe u=>oQ t w e u:=by
 obtain⟨G,Q⟩:=Qo (c:=t[0]) (r:=(ae t).drop 1) p n;rw[<-mM s]at G Q;have X:Hid (dU 97 122 t[0]=Â):=p;have U:Hid (dU 48 57 t[0]=Ö):=n
 have N:Hid (ab ((ae t).takeWhile (dU 48 57))=ab (aK (ae t))):=by
  show _=_;rw[G];rfl
 have E:Hid (bX (ae t)=(decide (((ab (aK (ae t))).size:Int)<=6)&&((t[0].toNat:Int) != 48||(ab (aK (ae t))).toList==[48]))):=by
  show _=_
  have H:((t[0].toNat:Int) != 48)=(t[0] != 48):=by
   show(!((t[0].toNat:Int)==48))=(!(t[0]==48))
   rw[show(48:Int)=((48:Nat):Int)from rfl,fC _ 48 (by decide)];rfl
  have b:(ab (aK (ae t))).toList=aK (ae t):=by rw[Æ];rfl
  rw[H,b,Q,jT,G,FK];rfl
 have g:(ab (aK (ae t))).size<=60000:=by
  rw[jT];exact Ê (oX _) (by rw[aw];exact q)
 generalize f:ab (aK (ae t))=W at N E g;generalize d:bX (ae t)=O at E;have Z:=(show Hid (_=_)from f);have Y:=(show Hid (_=_)from d)
 have L:(¬(W.size:Int)<=6/\Hid (O=Â))\/((W.size:Int)<=6/\((t[0].toNat:Int) != 48)=Ö/\Hid (O=Ö))\/((W.size:Int)<=6/\((t[0].toNat:Int) != 48)=Â/\Hid (O=(W.toList==[48]))):=by
  have A:=E.o;by_cases B:(W.size:Int)<=6
  .rw[decide_eq_true B,Bool.true_and]at A;cases R:((t[0].toNat:Int) != 48)with
   | true=>rw[R,Bool.true_or]at A;exact .inr (.inl ⟨B,rfl,A⟩)
   | false=>rw[R,Bool.false_or]at A;exact .inr (.inr ⟨B,rfl,A⟩)
  .rw[decide_eq_false B,Bool.false_and]at A;exact .inl ⟨B,A⟩
 go_in;go_wp2_with fail;refine(kI 97 122 _).mono ?_;rintro e l⟨⟨h,j,rfl,I⟩,K⟩;go_wp2_with fail;refine(kI 48 57 _).mono ?_;rintro e m⟨⟨i,k,rfl,J⟩,C⟩;have V:=aa (I.W C);have M:=aa J;have S:=aa (aH K Zl C);go_wp2_with fail;refine an (kE t[0] V.o) ?_;rw[X.o];go_wp2_with fail;refine an (kE t[0] M.o) ?_;rw[U.o];go_wp2_with fail;refine an (uy t M.o q) ?_;rw[N.o];rcases L with⟨P,D⟩|⟨P,a,D⟩|⟨P,a,D⟩
 all_goals
  go_wp2;refine Ç (v:=Ô #[À W,Ó O]) (by rw[D.o];simp[Ò,Tryz.results114,go_sem]) rfl ?_;exact⟨by rw[Z.o,Y.o],S.o⟩
theorem Nx(t w)(h0:0<t.size)(hs:t.size<=60000)(hl:aI t[0]=Â)(hf:ay t[0]=Â)(hn:t[0]=35):Ñ prog 114 #[À t] w λe a=>oQ t w e a:=by
 obtain⟨J,L⟩:=Mj (c:=t[0]) (r:=(ae t).drop 1) hl hf hn;rw[<-mM h0]at J L;have i:Hid (dU 97 122 t[0]=Â):=hl;have d:Hid (dU 48 57 t[0]=Â):=hf;have x:((t[0].toNat:Int)==35)=true:=by rw[hn];rfl
 have S:Hid (ab (bU (ae (lr t)))=ab (aK (ae t))):=by
  show _=_;rw[J];rfl
 have Q:(lr t).size<=60000/\0<(lr t).size:=by
  have u:=rJ bO (ae t);rw[aw]at u;rw[lr,jT];refine⟨by omega,?_⟩;rw[mM h0,List.takeWhile_cons,if_pos (by rw[hn];rfl)];simp
 have I:Hid (bX (ae t)=((ab ((ae (ab (aK (ae t)))).takeWhile (dU 32 126))).toList==(ab (aK (ae t))).toList)):=by
  show _=_;rw[Æ,Æ,L,J];rfl
 have Y:(ab (aK (ae t))).size<=60000:=by
  rw[jT];exact Ê (oX _) (by rw[aw];exact hs)
 generalize X:ab (aK (ae t))=W at S I Y;generalize V:bX (ae t)=O at I;have l:=(show Hid (_=_)from X);have k:=(show Hid (_=_)from V);generalize U:ab ((ae W).takeWhile (dU 32 126))=M at I;have j:=(show Hid (_=_)from U);obtain⟨N,P⟩:=Q;clear J L hl hf hn X V U;go_in;go_wp2_with fail;refine(kI 97 122 _).mono ?_;rintro e y⟨⟨m,p,rfl,B⟩,E⟩;go_wp2_with fail;refine(kI 48 57 _).mono ?_;rintro e R⟨⟨n,q,rfl,C⟩,A⟩;have f:Hid (jC R m p 97 122):=B.W A;have g:Hid (jC R n q 48 57):=C;have a:Hid (Below w w R):=aH E Zl A;clear B C E A;go_wp2_with fail;refine an (kE t[0] f.o) ?_;rw[i.o];go_wp2_with fail;refine an (kE t[0] g.o) ?_;rw[d.o];go_wp2_with fail;refine(Vm t _ hs).mono ?_;rintro e z⟨⟨r,b,rfl⟩,G⟩;go_wp2_with fail;refine an (Ta (lr t) _ P N) ?_;rw[S.o];go_wp2_with fail;refine(kI 32 126 _).mono ?_;rintro e Z⟨⟨o,s,rfl,D⟩,H⟩;have h:Hid (jC Z o s 32 126):=D;have K:Hid (Below w w Z):=aH (aH a.o Zl G) Zl H;clear D G H;go_wp2_with fail;refine an (uy W h.o Y) ?_;rw[j.o];go_wp2;refine Ç (v:=Ô #[À W,Ó O]) (by rw[I.o];simp[Ò,Tryz.results114,go_sem]) rfl ?_;exact⟨by rw[l.o,k.o],K.o⟩
theorem Nw(t w)(q:0<t.size)(s:t.size<=60000)(E:cZ t[0]=Â)(n:aI t[0]=Â)(m:ay t[0]=Â)(p:(t[0]==35)=Â):Ñ prog 114 #[À t] w λe u=>oQ t w e u:=by
 obtain⟨H,I⟩:=Mi (c:=t[0]) (r:=(ae t).drop 1) E n m p;rw[<-mM q]at H I;have U:Hid (dU 97 122 t[0]=Â):=n;have Q:Hid (dU 48 57 t[0]=Â):=m;have f:(1:Int)<=(t.size:Int):=by omega
 have g:(0:Int)<(t.size:Int):=by omega
 have h:((t[0].toNat:Int)==35)=false:=by rw[show(35:Int)=((35:Nat):Int)from rfl,fC _ 35 (by decide)];exact p
 have L:Hid (t.extract 0 1=ab (aK (ae t))):=by
  show _=_
  have d:(ae t).take 1=[t[0]]:=by
   have M:=congrArg (List.take 1) (mM q);rw[List.take_succ_cons,List.take_zero]at M;exact M
  rw[H,rq,d]
 have G:Hid (bX (ae t)=(ae (⟨#[40,41,91,93,44,43,42,61,59]⟩:ByteArray)).any (·==t[0])):=by
  show _=_;rw[I];rfl
 have i:(ab (aK (ae t))).size<=60000:=by
  rw[jT];exact Ê (oX _) (by rw[aw];exact s)
 generalize P:ab (aK (ae t))=W at L G i;generalize N:bX (ae t)=O at G;have X:=(show Hid (_=_)from P);have V:=(show Hid (_=_)from N);clear H I n m p E P N;go_in;go_wp2_with fail;refine(kI 97 122 _).mono ?_;rintro e k⟨⟨Y,a,rfl,B⟩,D⟩;go_wp2_with fail;refine(kI 48 57 _).mono ?_;rintro e J⟨⟨Z,b,rfl,C⟩,A⟩;have R:Hid (jC J Y a 97 122):=B.W A;have S:Hid (jC J Z b 48 57):=C;have K:Hid (Below w w J):=aH D Zl A;clear B C D A;go_wp2_with fail;refine an (kE t[0] R.o) ?_;rw[U.o];go_wp2_with fail;refine an (kE t[0] S.o) ?_;rw[Q.o];go_wp2_with fail
 go_region_held3 (λ_=>True) (trivial) (first|(go_at_call 113;refine(DI _ _).mono ?_;rintro e l⟨rfl,rfl⟩)|(go_at_call 140;refine(sD t[0] (jn.new _ _)).mono ?_;rintro e j⟨rfl,rfl⟩;rw[<-G.o])|(go_at_call 140;refine(sD t[0] (U5 (jn.new _ _))).mono ?_;rintro e j⟨rfl,rfl⟩;rw[<-G.o]))
 all_goals
  go_wp2;refine Ç (v:=Ô #[À (t.extract 0 1),Ó O]) (by simp[Ò,Tryz.results114,go_sem]) rfl ?_;exact⟨by rw[L.o,X.o,V.o],(K.o.alloc K.o.size _).trans ⟨rfl,rfl,rfl,Ù _,λ_ _=>rfl⟩⟩
theorem RJ(t w)(E:0<t.size)(G:t.size<=60000)(C:cZ t[0]=Â):Ñ prog 114 #[À t] w λe H=>oQ t w e H:=by
 cases A:aI t[0]with
 | true=>exact RL t w E G A
 | false=>
  cases B:ay t[0]with
  | true=>exact RK t w E G A B
  | false=>
   cases D:(t[0]==35)with
   | true=>exact Nx t w E G A B (beq_iff_eq.1 D)
   | false=>exact Nw t w E G C A B D
def gR(w:È):Prop:=w.cell? ⟨1,0,Õ⟩=Ì (.iface 233 (.agg #[Å (Ì ⟨12,43,Õ⟩)]))
theorem gR.lt{w}(h:gR w):1<w.heap.size:=by
 unfold gR at h;rcases Nat.lt_or_ge 1 w.heap.size with A|A
 .exact A
 .simp[Ð,Array.getElem?_eq_none A]at h
theorem gR.W{w w'}(h:gR w)(A:Below w w w'):gR w':=((a9 A).1 _ _ h.lt).trans h
theorem gR.alloc{w}(h:gR w)(o):gR (w.alloc o):=h.W (Zb.alloc Zl _)
theorem VN(w:È):Cb 79 #[.nilIface] w (Ï .i64 0):=by
 unfold Cb;go_in;go_wp2;go_ret;exact⟨rfl,Below.refl _ _⟩
theorem VM(n:Int)(w:È)(C:gR w):Cb 79 #[.iface 50 n] w n:=by
 unfold Cb;have A:=aa C;have B:=C.lt;go_in;go_wp2_with fail;refine gv (L5 n w.heap.size (Ï .i64 0) _ (A.o.alloc _) (by simp[go_sem]) (by simp[go_sem])) ?_;go_wp2;go_ret;refine⟨rfl,?_⟩
 repeat (first|exact Below.refl _ _|refine Below.setCell ?_ (by simp) _|refine Below.alloc ?_ (by simp;try omega) _)
theorem VL(n)(w:È)(A:gR w):Cb 79 #[aF n] w (Ï .i64 n):=by unfold Cb;grind [VN,aF,VM,gR]
end Go.Proofs.YtelcnplcpboonaaGreatDoor
namespace Go.Proofs.YtelcnplcpboonaaGreatDoor
open Go.ChangeShapes Go.WideShapes Go.RowKit
theorem Tryz.own:ownKnob prog.godebug=none:=by kernel_rfl
theorem Tryz.et : prog.globalNamed "errors.errorType" = Ì 1 := by kernel_rfl
theorem Tryz.rt : (prog.cutTypes.find? (·.1 == "internal/reflectlite.rtype")).map (·.2) = Ì 233 := by kernel_rfl
theorem Tryz.oneRow:((Ú 412).filter λt=>prog.rowNamed t [101,114,114,111,114])=[43]:=by kernel_rfl
theorem Tryz.size:prog.types.size=412:=by kernel_rfl
abbrev yK : List (String × DataW Unit) := [("errors.errorType", Rows.laid_errors_errorType)]
theorem Wa{W}(h:laidMetH prog yK W):gR W:=by
 have J:=h;obtain⟨C,u,L,D,E,G,H,A⟩:=J.2 _ (Î.2 rfl);have I:=(Option.some.inj D).symm;subst I;obtain rfl:=Option.some.inj (Tryz.rt.symm.trans E);have B:L∈(Ú 412).filter λt=>prog.rowNamed t [101,114,114,111,114]:=List.mem_filter.2 ⟨List.mem_range.2 (by rw[<-Tryz.size];exact G),H⟩
 rw[Tryz.oneRow]at B;obtain rfl:=Î.1 B;have K:typeHandle prog 43=Å (Ì ↑(12,43)):=by kernel_rfl
 rw[K]at A
 have:=World.var?_cell Tryz.et A 0
 simpa[gR]using this
def CL(P:Program)(os:Os):È:=
 let w0:=World.holding P os ⟨#[],#[],[]⟩
 {w0 with heap:=w0.heap.modify 1 fun
   | Í _ t frozen=>Í #[.iface 233 (.agg #[Å (Ì ⟨12,43,Õ⟩)])] t frozen
   | o=>o}
end Go.Proofs.YtelcnplcpboonaaGreatDoor
namespace Go.Proofs.YtelcnplcpboonaaGreatDoor
open Go Go.Lib
def fj(wd:Int)(x:Int × Int × Int)(b:UInt8):Int × Int × Int:=
 if b=10 then(x.1,x.2.1+1,0)else(if wd<x.2.2+1 then x.1+1 else x.1,x.2.1,x.2.2+1)
def eB(wd:Int)(l:List UInt8):Int × Int × Int:=l.foldl (fj wd) (0,0,0)
theorem Vw(A l b):eB A (l++[b])=fj A (eB A l) b:=by simp[eB]
theorem PM(A)(l:List UInt8):∀(x:Int × Int × Int),0<=x.1->0<=x.2.1->0<=x.2.2->
  (0<=(l.foldl (fj A) x).1/\(l.foldl (fj A) x).1<=x.1+l.length)/\(0<=(l.foldl (fj A) x).2.1/\(l.foldl (fj A) x).2.1<=x.2.1+l.length)/\(0<=(l.foldl (fj A) x).2.2/\(l.foldl (fj A) x).2.2<=x.2.2+l.length):=by induction l<;>grind [fj]
theorem PK(A l):(0<=(eB A l).1/\(eB A l).1<=l.length)/\(0<=(eB A l).2.1/\(eB A l).2.1<=l.length)/\(0<=(eB A l).2.2/\(eB A l).2.2<=l.length):=by
 have:=PM A l (0,0,0) (by simp) (by simp) (by simp)
 simpa[eB]using this
theorem S5(s:ByteArray)(k)(h:k<s.size):s.data.toList.take (k+1)=s.data.toList.take k++[s[k]]:=by
 rw[Ã (by simpa using h)];rfl
end Go.Proofs.YtelcnplcpboonaaGreatDoor
namespace Go.Proofs.YtelcnplcpboonaaGreatDoor
open Go Go.RowKit
set_option maxRecDepth 100000
set_option maxHeartbeats 2000000
theorem Qs{b:UInt8}(h:(((b.toNat:Nat):Int)==10)=Ö):b=10:=by
 have A:((b.toNat:Nat):Int)=10:=beq_iff_eq.1 h;exact UInt8.toNat_inj.1 (by simpa using(by omega:b.toNat=10))
theorem Ms{b:UInt8}(h:(((b.toNat:Nat):Int)==10)=Â):¬b=10:=by
 rintro rfl;simp at h
theorem SF(s)(e:Int)(w:È)(g:s.size<=2000000000):
  Cb 101 #[À s,e] w (.agg #[(eB e s.data.toList).1,(eB e s.data.toList).2.1]):=by
 unfold Cb;go_in;go_wp2
 go_loopw [6,7] (λc i wr=>∃k:Nat,k<=s.size/\i=k/\c=(eB e (s.data.toList.take k)).2.2/\Below w w wr
   /\wr.cell? ↑w.heap.size=Ì (Ï .i64 0)/\wr.cell? ↑(w.heap.size,1)=Ì (Ï .i64 0)/\wr.frozen? ↑w.heap.size=Â/\wr.frozen? ↑(w.heap.size,1)=Â
   /\wr.cell? ↑(w.heap.size+1)=Ì (↑(eB e (s.data.toList.take k)).1)/\wr.cell? ↑(w.heap.size+1,1)=Ì (↑(eB e (s.data.toList.take k)).2.1)/\wr.frozen? ↑(w.heap.size+1)=Â/\wr.frozen? ↑(w.heap.size+1,1)=Â)
  (λ_ i _=>s.size-(intOf i).toNat)
 case atStart=>
  exact⟨0,Ø _,rfl,rfl,(Zb.alloc Zl _).alloc (by simp) _,by simp[go_sem],by simp[go_sem],by simp[go_sem],by simp[go_sem],by simp[go_sem,eB],by simp[go_sem,eB],by simp[go_sem],by simp[go_sem]⟩
 case round=>
  obtain⟨k,f,rfl,rfl,H,I,J,K,L,E,G,M,N⟩:=hrel;obtain⟨⟨V,W⟩,⟨X,Y⟩,⟨Z,a⟩⟩:=PK e (s.data.toList.take k);have d:((s.data.toList.take k).length:Int)<=2000000000:=by have:=List.length_take_le k s.data.toList;omega
  generalize b:eB e (s.data.toList.take k)=S at V W X Y Z a E G⊢;have Q:=aa b;by_cases P:k<s.size
  .have C:Hid (eB e (s.data.toList.take (k+1))=fj e S s[k]):=by
    have h:=Vw e (s.data.toList.take k) s[k];rw[<-S5 s k P,Q.o]at h;exact h
   cases R:(((s[k].toNat:Nat):Int)==10)with
   | true=>
    have B:=Qs R;have A:Hid (eB e (s.data.toList.take (k+1))=(S.1,S.2.1+1,0)):=by rw[fj,if_pos B]at C;exact C
    go_wp2
    go_roundw
    case rel=>
     refine⟨k+1,by omega,by go_num,by rw[A.o],H.setCell (p:=↑(w.heap.size+1,1)) (by simp) _,(af (by omega)).trans I,(af (by omega)).trans J,gc.trans K,gc.trans L,?_,?_,gc.trans M,gc.trans N⟩
     .rw[A.o];exact(af (by omega)).trans E
     .rw[A.o];exact cF G
    case measure=>simp[intOf];omega
   | false=>
    have B:=Ms R;by_cases U:e<S.2.2+1
    .have A:Hid (eB e (s.data.toList.take (k+1))=(S.1+1,S.2.1,S.2.2+1)):=by rw[fj,if_neg B,if_pos U]at C;exact C
     go_wp2
     go_roundw
     case rel=>
      refine⟨k+1,by omega,by go_num,by rw[A.o],H.setCell (p:=↑(w.heap.size+1)) (by simp) _,(af (by omega)).trans I,(af (by omega)).trans J,gc.trans K,gc.trans L,?_,?_,gc.trans M,gc.trans N⟩
      .rw[A.o];exact cF E
      .rw[A.o];exact(af (by omega)).trans G
     case measure=>simp[intOf];omega
    .have A:Hid (eB e (s.data.toList.take (k+1))=(S.1,S.2.1,S.2.2+1)):=by rw[fj,if_neg B,if_neg U]at C;exact C
     clear B C;go_wp2
     go_roundw
     case rel=>
      refine⟨k+1,by omega,by go_num,by rw[A.o],H,I,J,K,L,?_,?_,M,N⟩
      .rw[A.o];exact E
      .rw[A.o];exact G
     case measure=>simp[intOf];omega
  .have D:s.data.toList.take k=s.data.toList:=List.take_of_length_le (by rw[<-Lib.size_eq];omega);have O:=Q.o;rw[D]at O;rw[<-O]at E G;clear O D;go_wp2;exact Ç (v:=.agg #[↑(eB e s.data.toList).1,↑(eB e s.data.toList).2.1]) (by simp[Ò,Tryz.results101,go_sem,I,J]) rfl ⟨rfl,(H.setCell (p:=↑w.heap.size) (by simp) _).setCell (p:=↑(w.heap.size,1)) (by simp) _⟩
end Go.Proofs.YtelcnplcpboonaaGreatDoor
namespace Go.Proofs.YtelcnplcpboonaaGreatDoor
theorem wD(B:Nat):∀(l:List UInt8)(o n:Int)(c:Nat),l.foldl (fj B) (o,n,(c:Int))=(o+(bC B c l).1,n+(bC B c l).2.1,((bC B c l).2.2:Int))
 | [],o,n,c=>by simp[bC]
 | b::r,o,n,c=>by
  have E:(b::r).foldl (fj B) (o,n,(c:Int))=r.foldl (fj B) (fj B (o,n,(c:Int)) b):=rfl;rw[E];simp only[bC];by_cases C:b=10
  .have D:fj B (o,n,(c:Int)) b=(o,n+1,((0:Nat):Int)):=by simp[fj,C]
   rw[D,wD B r,if_pos C];simp only[Prod.mk.injEq,and_true,true_and];omega
  .have D:fj B (o,n,(c:Int)) b=(o+(if B<=c then 1 else 0:Nat),n,((c+1:Nat):Int)):=by
    by_cases h:B<=c
    .have A:(B:Int)<(c:Int)+1:=by omega
     simp[fj,C,h,A]
    .have A:¬(B:Int)<(c:Int)+1:=by omega
     simp[fj,C,h,A]
   rw[D,wD B r,if_neg C];simp only[Prod.mk.injEq,and_true];omega
theorem Kh(A:Nat)(l):eB A l=(((bC A 0 l).1:Int),((bC A 0 l).2.1:Int),((bC A 0 l).2.2:Int)):=by
 have:=wD A l 0 0 0
 simpa[eB]using this
