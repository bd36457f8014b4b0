import Derived.Test.YthcpdohdppkmkaaGreatDoorPl37
import Derived.Test.YthcpdohdppkmkaaGreatDoorPl34
import Derived.LaidEql
import Derived.Stop.Asserts
import Derived.RowKitTokens
open Go.Proofs.Tryz
namespace Go.Proofs.YthcpdohdppkmkaaGreatDoor
open Go Go.RowKit
set_option maxRecDepth 100000
set_option maxHeartbeats 2000000
theorem Td.ext2{x y:Td}(h1:x.op=y.op)(h2:x.tx=y.tx)(h3:x.n=y.n):x=y:=by
 cases x;cases y;simp_all
theorem z5t{s t:ByteArray}(h:s.data.toList=t.data.toList):s=t:=by
 apply ByteArray.ext;exact Array.toList_inj.1 h
theorem z3f{w:World}{a:Option Addr}{ds:List Td}(h:Tds w a ds)(q:Nat):Tds (w.drewN q) a ds:=h
theorem z6x(ds es:List Td)(a o:Option Addr)(cap N:Nat)(hl:ds.length<=4611686018427387904)(r:Bool)(hr:r=true↔ds=es)(w:World)(hN:Tds w a ds)(hM:Tds w o es):
  Calls prog 43 #[.slice a ds.length cap,.slice o es.length N] w fun e w'=>e=.returned (.bool r)/\∃q,w'=w.drewN q:=by
 have c:Hid (Tds w a ds):=hN;have Z:Hid (Tds w o es):=hM
 have K:Hid (ds≠es->r=false):=fun h=>by
  cases r with
  | false=>rfl
  | true=>exact absurd (hr.1 rfl) h
 have L:Hid (ds=es->r=true):=hr.2;clear hN hM hr;by_cases B:ds.length=es.length
 ·go_in;have m:((ds.length:Int) != (es.length:Int))=false:=by simp[B]
  have U:Hid (ds.length=es.length):=B;have Y:(ds.length:Int)<=(es.length:Int):=by omega
  clear B;go_wp2
  go_loopw [5] (fun i wr=>(∃q:Nat,wr=w.drewN q)/\∃k:Nat,k<=ds.length/\i=.int .i64 k/\ds.take k=es.take k) (fun i _=>ds.length-(intOf i).toNat)
  case atStart=>exact⟨⟨0,rfl⟩,0,Nat.zero_le _,rfl,by simp⟩
  case round=>
   obtain⟨⟨q,rfl⟩,k,hk,rfl,E⟩:=hrel;have S:Hid (ds.take k=es.take k):=E;clear E;by_cases P:k<ds.length
   ·have G:k<es.length:=by have:=U.o;omega
    have s:(k:Int)<(ds.length:Int):=by omega
    have t:(k:Int)<(es.length:Int):=by omega
    obtain⟨b,of,j,z,d,f,g⟩:=c.o k P;obtain⟨v,u,Q,p,D,H,M⟩:=Z.o k G;subst j Q;by_cases J:ds[k]=es[k]
    ·have C:Hid (ds.take (k+1)=es.take (k+1)):=(show _=_ by
      rw[List.take_succ_eq_append_getElem P,List.take_succ_eq_append_getElem G,S.o,J])
     rw[<-J]at D H M;clear J;go_wp2_with fail
     go_quiet (fail)
     go_wp2
     go_roundw
     case rel=>exact⟨⟨_,rfl⟩,k+1,by omega,by go_num,C.o⟩
     case measure=>simp[intOf];omega
    ·have C:Hid (r=false):=K.o fun h=>J (by subst h;rfl)
     have A:ds[k].op≠es[k].op\/(ds[k].op=es[k].op/\ds[k].tx≠es[k].tx)\/(ds[k].op=es[k].op/\ds[k].tx=es[k].tx/\ds[k].n≠es[k].n):=by
      by_cases I:ds[k].op=es[k].op
      ·by_cases R:ds[k].tx=es[k].tx
       ·by_cases X:ds[k].n=es[k].n
        ·exact absurd (Td.ext2 I R X) J
        ·exact .inr (.inr ⟨I,R,X⟩)
       ·exact .inr (.inl ⟨I,R⟩)
      ·exact .inl I
     clear J;generalize ds[k]=x at d f g A;generalize es[k]=y at D H M A;rcases A with A|⟨O,A⟩|⟨O,V,A⟩
     ·have l:(x.op==y.op)=false:=by simp[A]
      have W:(x.op != y.op)=true:=by simp[A]
      clear A;go_wp2_with fail
      go_quiet (fail)
      go_wp2;go_ret;exact⟨by rw[C.o];rfl,_,World.drewN_drewN _ _ _⟩
     ·rw[<-O]at D
      have W:(x.tx.toList==y.tx.toList)=false:=by
       rw[ByteArray.toList_eq,ByteArray.toList_eq];simp only[beq_eq_false_iff_ne,ne_eq];exact fun h=>A (z5t h)
      clear O A;go_wp2_with fail
      go_quiet (fail)
      go_wp2;go_ret;exact⟨by rw[C.o];rfl,_,World.drewN_drewN _ _ _⟩
     ·rw[<-O]at D;rw[<-V]at H;have l:(x.n==y.n)=false:=by simp[A]
      have W:(x.n != y.n)=true:=by simp[A]
      clear O V A;go_wp2_with fail
      go_quiet (fail)
      go_wp2;go_ret;exact⟨by rw[C.o];rfl,_,World.drewN_drewN _ _ _⟩
   ·have C:Hid (r=true):=L.o (by
     have I:=S.o;rw[List.take_of_length_le (by omega),List.take_of_length_le (by have:=U.o;omega)]at I
     exact I)
    go_wp2;go_ret;exact⟨by rw[C.o];rfl,q,rfl⟩
 ·have m:((ds.length:Int) != (es.length:Int))=true:=by simp;omega
  have C:Hid (r=false):=K.o fun h=>B (by rw[h])
  clear B;go_in;go_wp2;go_ret;exact⟨by rw[C.o];rfl,0,rfl⟩
theorem j0v(ps qs:List (List Td))(a o:Option Addr)(cap P:Nat)(hl:ps.length<=4611686018427387904)(Q:∀t∈ps,t.length<=4611686018427387904)(r:Bool)(hr:r=true↔ps=qs)(w:World)(hN:Prg w a ps)(hM:Prg w o qs):
  Calls prog 15 #[.slice a ps.length cap,.slice o qs.length P] w fun e w'=>e=.returned (.bool r)/\∃q,w'=w.drewN q:=by
 have u:Hid (Prg w a ps):=hN;have s:Hid (Prg w o qs):=hM;have W:Hid (∀t∈ps,t.length<=4611686018427387904):=Q
 have M:Hid (ps≠qs->r=false):=fun h=>by
  cases r with
  | false=>rfl
  | true=>exact absurd (hr.1 rfl) h
 have O:Hid (ps=qs->r=true):=hr.2;clear hN hM Q hr;by_cases B:ps.length=qs.length
 ·go_in;have y:((ps.length:Int) != (qs.length:Int))=false:=by simp[B]
  have d:Hid (ps.length=qs.length):=B;have p:(ps.length:Int)<=(qs.length:Int):=by omega
  clear B;go_wp2
  go_loopw [5] (fun i wr=>(∃q:Nat,wr=w.drewN q)/\∃k:Nat,k<=ps.length/\i=.int .i64 k/\ps.take k=qs.take k) (fun i _=>ps.length-(intOf i).toNat)
  case atStart=>exact⟨⟨0,rfl⟩,0,Nat.zero_le _,rfl,by simp⟩
  case round=>
   obtain⟨⟨q,E⟩,k,hk,rfl,H⟩:=hrel;have K:Hid (wr=w.drewN q):=E;have Y:Hid (Prg wr a ps):=(show Prg wr a ps by rw[E];exact u.o);have X:Hid (Prg wr o qs):=(show Prg wr o qs by rw[E];exact s.o);have c:Hid (ps.take k=qs.take k):=H;clear H E;by_cases L:k<ps.length
   ·have I:k<qs.length:=by have:=d.o;omega
    have Aa:(k:Int)<(ps.length:Int):=by omega
    have l:(k:Int)<(qs.length:Int):=by omega
    obtain⟨b,of,R,U,x,hb,f,_,C⟩:=Y.o k L;obtain⟨b',Ab,S,V,Z,z,g,_,D⟩:=X.o k I;subst x Z;have G:=W.o _ (List.getElem_mem L);by_cases A:ps[k]=qs[k]
    ·have J:Hid (∀n,Calls prog 43 #[.slice R ps[k].length U,.slice S qs[k].length V] (wr.drewN n) fun e w'=>e=.returned (.bool true)/\∃m,w'=(wr.drewN n).drewN m):=fun n=>z6x _ _ R S U V G true (by simp[A]) (wr.drewN n) (z3f C n) (z3f D n)
     have v:Hid (ps.take (k+1)=qs.take (k+1)):=(show _=_ by
      rw[List.take_succ_eq_append_getElem L,List.take_succ_eq_append_getElem I,c.o,A])
     clear C D A G;generalize ps[k].length=n1 at f J;generalize qs[k].length=n2 at g J;go_wp2_with fail
     go_quiet ((go_at_call 43;exact Calls.quiet_of (J.o _)))
     go_wp2
     go_roundw
     case rel=>exact⟨⟨_,by rw[K.o,World.drewN_drewN]⟩,k+1,by omega,by go_num,v.o⟩
     case measure=>simp[intOf];omega
    ·have J:Hid (∀n,Calls prog 43 #[.slice R ps[k].length U,.slice S qs[k].length V] (wr.drewN n) fun e w'=>e=.returned (.bool false)/\∃m,w'=(wr.drewN n).drewN m):=fun n=>z6x _ _ R S U V G false (by simp[A]) (wr.drewN n) (z3f C n) (z3f D n)
     have N:Hid (r=false):=M.o fun h=>A (by subst h;rfl)
     clear C D A G;generalize ps[k].length=n1 at f J;generalize qs[k].length=n2 at g J;go_wp2_with fail
     go_quiet ((go_at_call 43;exact Calls.quiet_of (J.o _)))
     go_wp2;go_ret;exact⟨by rw[N.o];rfl,_,by rw[K.o,World.drewN_drewN]⟩
   ·have N:Hid (r=true):=O.o (by
     have j:=c.o;rw[List.take_of_length_le (by omega),List.take_of_length_le (by have:=d.o;omega)]at j
     exact j)
    go_wp2;go_ret;exact⟨by rw[N.o];rfl,q,K.o⟩
 ·have y:((ps.length:Int) != (qs.length:Int))=true:=by simp;omega
  have N:Hid (r=false):=M.o fun h=>B (by rw[h])
  clear B;go_in;go_wp2;go_ret;exact⟨by rw[N.o];rfl,0,rfl⟩
theorem y1b(ds es:List Td)(a o:Option Addr)(cap N:Nat)(hl:ds.length<=4611686018427387904)(r:Bool)(hr:r=true↔ds=es)(w:World)(hN:Tds w a ds)(hM:Tds w o es):
  Calls prog 83 #[.slice a ds.length cap,.slice o es.length N] w fun e w'=>e=.returned (.bool r)/\∃q,w'=w.drewN q:=by
 have c:Hid (Tds w a ds):=hN;have Z:Hid (Tds w o es):=hM
 have K:Hid (ds≠es->r=false):=fun h=>by
  cases r with
  | false=>rfl
  | true=>exact absurd (hr.1 rfl) h
 have L:Hid (ds=es->r=true):=hr.2;clear hN hM hr;by_cases B:ds.length=es.length
 ·go_in;have m:((ds.length:Int) != (es.length:Int))=false:=by simp[B]
  have U:Hid (ds.length=es.length):=B;have Y:(ds.length:Int)<=(es.length:Int):=by omega
  clear B;go_wp2
  go_loopw [13] (fun i wr=>(∃q:Nat,wr=w.drewN q)/\∃k:Nat,k<=ds.length/\i=.int .i64 k/\ds.take k=es.take k) (fun i _=>ds.length-(intOf i).toNat)
  case atStart=>exact⟨⟨0,rfl⟩,0,Nat.zero_le _,rfl,by simp⟩
  case round=>
   obtain⟨⟨q,rfl⟩,k,hk,rfl,E⟩:=hrel;have S:Hid (ds.take k=es.take k):=E;clear E;by_cases P:k<ds.length
   ·have G:k<es.length:=by have:=U.o;omega
    have s:(k:Int)<(ds.length:Int):=by omega
    have t:(k:Int)<(es.length:Int):=by omega
    obtain⟨b,of,j,z,d,f,g⟩:=c.o k P;obtain⟨v,u,Q,p,D,H,M⟩:=Z.o k G;subst j Q;by_cases J:ds[k]=es[k]
    ·have C:Hid (ds.take (k+1)=es.take (k+1)):=(show _=_ by
      rw[List.take_succ_eq_append_getElem P,List.take_succ_eq_append_getElem G,S.o,J])
     rw[<-J]at D H M;clear J;go_wp2_with fail
     go_quiet (fail)
     go_wp2
     go_roundw
     case rel=>exact⟨⟨_,rfl⟩,k+1,by omega,by go_num,C.o⟩
     case measure=>simp[intOf];omega
    ·have C:Hid (r=false):=K.o fun h=>J (by subst h;rfl)
     have A:ds[k].op≠es[k].op\/(ds[k].op=es[k].op/\ds[k].tx≠es[k].tx)\/(ds[k].op=es[k].op/\ds[k].tx=es[k].tx/\ds[k].n≠es[k].n):=by
      by_cases I:ds[k].op=es[k].op
      ·by_cases R:ds[k].tx=es[k].tx
       ·by_cases X:ds[k].n=es[k].n
        ·exact absurd (Td.ext2 I R X) J
        ·exact .inr (.inr ⟨I,R,X⟩)
       ·exact .inr (.inl ⟨I,R⟩)
      ·exact .inl I
     clear J;generalize ds[k]=x at d f g A;generalize es[k]=y at D H M A;rcases A with A|⟨O,A⟩|⟨O,V,A⟩
     ·have l:(x.op==y.op)=false:=by simp[A]
      have W:(x.op != y.op)=true:=by simp[A]
      clear A;go_wp2_with fail
      go_quiet (fail)
      go_wp2;go_ret;exact⟨by rw[C.o];rfl,_,World.drewN_drewN _ _ _⟩
     ·rw[<-O]at D
      have W:(x.tx.toList==y.tx.toList)=false:=by
       rw[ByteArray.toList_eq,ByteArray.toList_eq];simp only[beq_eq_false_iff_ne,ne_eq];exact fun h=>A (z5t h)
      clear O A;go_wp2_with fail
      go_quiet (fail)
      go_wp2;go_ret;exact⟨by rw[C.o];rfl,_,World.drewN_drewN _ _ _⟩
     ·rw[<-O]at D;rw[<-V]at H;have l:(x.n==y.n)=false:=by simp[A]
      have W:(x.n != y.n)=true:=by simp[A]
      clear O V A;go_wp2_with fail
      go_quiet (fail)
      go_wp2;go_ret;exact⟨by rw[C.o];rfl,_,World.drewN_drewN _ _ _⟩
   ·have C:Hid (r=true):=L.o (by
     have I:=S.o;rw[List.take_of_length_le (by omega),List.take_of_length_le (by have:=U.o;omega)]at I
     exact I)
    go_wp2;go_ret;exact⟨by rw[C.o];rfl,q,rfl⟩
 ·have m:((ds.length:Int) != (es.length:Int))=true:=by simp;omega
  have C:Hid (r=false):=K.o fun h=>B (by rw[h])
  clear B;go_in;go_wp2;go_ret;exact⟨by rw[C.o];rfl,0,rfl⟩
theorem j5k(ds es:List Td)(a o:Option Addr)(cap A:Nat)(hl:ds.length<=4611686018427387904)(r:Bool)(hr:r=true↔ds=es)(w:World)(hN:Tds w a ds)(hM:Tds w o es):
  Calls prog 45 #[.slice a ds.length cap,.slice o es.length A] w fun e w'=>e=.returned (.bool r)/\∃q,w'=w.drewN q:=by
 have B:Hid (Calls prog 83 #[.slice a ds.length cap,.slice o es.length A] w fun e w'=>e=.returned (.bool r)/\∃q,w'=w.drewN q):=y1b ds es a o cap A hl r hr w hN hM;clear hl hr hN hM;generalize ds.length=n1 at B⊢;generalize es.length=n2 at B⊢;go_in;go_wp2_with fail;refine B.o.mono ?_;rintro e C⟨rfl,q,rfl⟩;go_wp2;go_ret;exact⟨rfl,q,rfl⟩
theorem y1a(ps qs:List (List Td))(a o:Option Addr)(cap P:Nat)(hl:ps.length<=4611686018427387904)(Q:∀t∈ps,t.length<=4611686018427387904)(r:Bool)(hr:r=true↔ps=qs)(w:World)(hN:Prg w a ps)(hM:Prg w o qs):
  Calls prog 44 #[.slice a ps.length cap,.slice o qs.length P,.func (.func 45) #[] #[]] w fun e w'=>e=.returned (.bool r)/\∃q,w'=w.drewN q:=by
 have s:Hid (Prg w a ps):=hN;have p:Hid (Prg w o qs):=hM;have W:Hid (∀t∈ps,t.length<=4611686018427387904):=Q
 have M:Hid (ps≠qs->r=false):=fun h=>by
  cases r with
  | false=>rfl
  | true=>exact absurd (hr.1 rfl) h
 have O:Hid (ps=qs->r=true):=hr.2;clear hN hM Q hr;by_cases B:ps.length=qs.length
 ·go_in;have x:((ps.length:Int) != (qs.length:Int))=false:=by simp[B]
  have d:Hid (ps.length=qs.length):=B;have n:(ps.length:Int)<=(qs.length:Int):=by omega
  clear B;go_wp2
  go_loopw [17] (fun i wr=>(∃q:Nat,wr=w.drewN q)/\∃k:Nat,k<=ps.length/\i=.int .i64 k/\ps.take k=qs.take k) (fun i _=>ps.length-(intOf i).toNat)
  case atStart=>exact⟨⟨0,rfl⟩,0,Nat.zero_le _,rfl,by simp⟩
  case round=>
   obtain⟨⟨q,E⟩,k,hk,rfl,H⟩:=hrel;have K:Hid (wr=w.drewN q):=E;have Y:Hid (Prg wr a ps):=(show Prg wr a ps by rw[E];exact s.o);have X:Hid (Prg wr o qs):=(show Prg wr o qs by rw[E];exact p.o);have c:Hid (ps.take k=qs.take k):=H;clear H E;by_cases L:k<ps.length
   ·have I:k<qs.length:=by have:=d.o;omega
    have z:(k:Int)<(ps.length:Int):=by omega
    have l:(k:Int)<(qs.length:Int):=by omega
    obtain⟨b,of,R,U,v,hb,f,_,C⟩:=Y.o k L;obtain⟨b',Aa,S,V,Z,y,g,_,D⟩:=X.o k I;subst v Z;have G:=W.o _ (List.getElem_mem L);by_cases A:ps[k]=qs[k]
    ·have J:Hid (Calls prog 45 #[.slice R ps[k].length U,.slice S qs[k].length V] wr fun e w'=>e=.returned (.bool true)/\∃m,w'=wr.drewN m):=j5k _ _ R S U V G true (by simp[A]) wr C D
     have u:Hid (ps.take (k+1)=qs.take (k+1)):=(show _=_ by
      rw[List.take_succ_eq_append_getElem L,List.take_succ_eq_append_getElem I,c.o,A])
     clear C D A G;generalize ps[k].length=n1 at f J;generalize qs[k].length=n2 at g J;go_wp2_with fail;refine J.o.mono ?_;rintro e w2⟨rfl,m,rfl⟩;go_wp2
     go_roundw
     case rel=>exact⟨⟨_,by rw[K.o,World.drewN_drewN]⟩,k+1,by omega,by go_num,u.o⟩
     case measure=>simp[intOf];omega
    ·have J:Hid (Calls prog 45 #[.slice R ps[k].length U,.slice S qs[k].length V] wr fun e w'=>e=.returned (.bool false)/\∃m,w'=wr.drewN m):=j5k _ _ R S U V G false (by simp[A]) wr C D;have N:Hid (r=false):=M.o fun h=>A (by subst h;rfl)
     clear C D A G;generalize ps[k].length=n1 at f J;generalize qs[k].length=n2 at g J;go_wp2_with fail;refine J.o.mono ?_;rintro e w2⟨rfl,m,rfl⟩;go_wp2;go_ret;exact⟨by rw[N.o];rfl,_,by rw[K.o,World.drewN_drewN]⟩
   ·have N:Hid (r=true):=O.o (by
     have j:=c.o;rw[List.take_of_length_le (by omega),List.take_of_length_le (by have:=d.o;omega)]at j
     exact j)
    go_wp2;go_ret;exact⟨by rw[N.o];rfl,q,K.o⟩
 ·have x:((ps.length:Int) != (qs.length:Int))=true:=by simp;omega
  have N:Hid (r=false):=M.o fun h=>B (by rw[h])
  clear B;go_in;go_wp2;go_ret;exact⟨by rw[N.o];rfl,0,rfl⟩
inductive v7m (a b:ByteArray):Bool->Int->Prop where
 | badA {ps k f} (hp:q4l a ps k f) (hf:f≠0):v7m a b false f
 | badB {ps k qs k' f} (hp:q4l a ps k 0) (hq:q4l b qs k' f) (hf:f≠0):v7m a b false f
 | ok {ps k qs k' r} (hp:q4l a ps k 0) (hq:q4l b qs k' 0) (hr:r=true↔ps=qs):v7m a b r 0
abbrev g0b:Prop:=∀(a b:ByteArray)(w:World),z2t w->Calls prog 16 #[.string a,.string b] w fun e w'=>∃r f,e=.returned (.tuple #[.bool r,q1r f])/\v7m a b r f/\Below w w w'
theorem k9s:g0b:=by
 intro a b w X;have O:Hid (∀(W:World)(s:ByteArray),Below w w W->Calls prog 20 #[.string s] W fun e w'=>∃B k f A c,e=.returned (.tuple #[.slice A B.length c,.int .i64 k,q1r f])/\q4l s B k f/\Prg w' A B/\B.length<=c/\Below W W w'):=fun W s h=>z2o s W (X.W h)
 clear X;go_in;go_wp2_with fail;refine(O.o _ _ Zb).mono ?_;rintro e x⟨B,k,f,A,c,rfl,v,u,_,n⟩;have G:Hid (Below w w x):=n;have M:Hid (q4l a B k f):=v;have R:Hid (Prg x A B):=u;clear n v u;by_cases V:f=0
 ·subst V;have P:=(z0i M.o).2.2.1;have D:=(k7s M.o).2;have Z:Hid (B.length<=4611686018427387904):=by show B.length<=_;omega
  have H:Hid (∀t∈B,t.length<=4611686018427387904):=fun t X=>by have:=D t X;omega
  rw[q0z];clear P D;generalize Q:B.length=np;have d:Hid (B.length=np):=Q;clear Q;go_wp2_with fail;refine(O.o _ _ G.o).mono ?_;rintro e Y⟨E,y,U,j,o,rfl,J,I,_,S⟩;have K:Hid (Below w w Y):=q0e G.o Zl S;have N:Hid (q4l b E y U):=J;by_cases C:U=0
  ·subst C
   obtain⟨r,i⟩:∃r:Bool,r=true↔B=E:=by
    by_cases h:B=E
    ·exact⟨true,by simp[h]⟩
    ·exact⟨false,by simp[h]⟩
   have g:Hid (r=true↔B=E):=i
   have l:Hid (Calls prog 44 #[.slice A np c,.slice j E.length o,.func (.func 45) #[] #[]] Y fun e w'=>e=.returned (.bool r)/\∃q,w'=Y.drewN q):=by
    have p:=y1a B E A j c o Z.o H.o r i Y (R.o.W S) I;rw[d.o]at p;exact p
   rw[q0z];clear J I S i H Z R;generalize E.length=nq at l⊢;go_wp2_with fail;refine l.o.mono ?_;rintro e z⟨rfl,q,rfl⟩;go_wp2;go_ret2;exact⟨r,0,by rw[q0z];rfl,.ok M.o N.o g.o,q0d K.o q⟩
  ·have L:Hid (U≠0):=C;rw[q0l C];clear J I S H Z R C;generalize E.length=nq;go_wp2;go_ret2;exact⟨false,U,by rw[q0l L.o];rfl,.badB M.o N.o L.o,K.o⟩
 ·have m:Hid (f≠0):=V;rw[q0l V];clear V R;generalize B.length=np;go_wp2;go_ret2;exact⟨false,f,by rw[q0l m.o];rfl,.badA M.o m.o,G.o⟩
end Go.Proofs.YthcpdohdppkmkaaGreatDoor
namespace Go.Proofs.YthcpdohdppkmkaaGreatDoor
open Go Go.RowKit Go.Extern.Stop Go.Stop Go.Extern
set_option maxRecDepth 100000
set_option maxHeartbeats 4000000
theorem Tryz.valueOfP(t:Addr)(w:World):(ReflectliteValue.unpack (.iface 154 (.pointer (some t)))).run prog w
  =.ok (.agg #[.pointer (some ⟨12,154,none⟩),.pointer (some ⟨w,0,none⟩),.int .u64 150]) (w.alloc (.cells #[.pointer (some t)] 154)):=by kernel_rfl
theorem Tryz.typeP (a : Addr) (w : World) : (ReflectliteValue.methodAny (ReflectliteValue.valueError "reflectlite.Value.Type" 0) (fun t _ _ _ => ReflectliteType.toType t) #[.agg #[.pointer (some ⟨12, 154, none⟩), .pointer (some a), .int .u64 150]]).run prog w
  =.ok (.iface 268 (.agg #[.pointer (some ⟨12,154,none⟩)])) w:=by kernel_rfl
theorem Tryz.methodKind (h : Value) (w : World) : (Go.method 503 268 (.agg #[h]) "Kind").run prog w = .ok (300, h) w := by kernel_rfl
theorem Tryz.kindP(w:World):((ReflectliteType.abiMethod fun t=>(fun a:Nat=>Value.int IntKind.u8 (a:Int)) <$> Rtype.kind t) #[.pointer (some ⟨12,154,none⟩)]).run prog w=.ok (.int .u8 22) w:=by kernel_rfl
theorem Tryz.kindE(w:World):((ReflectliteType.abiMethod fun t=>(fun a:Nat=>Value.int IntKind.u8 (a:Int)) <$> Rtype.kind t) #[.pointer (some ⟨12,22,none⟩)]).run prog w=.ok (.int .u8 2) w:=by kernel_rfl
theorem j9f(z:Sem Value)(f:TypeId->Addr->Nat->Nat->Sem Value)(v:Value):
  ∃K:Option (TypeId × Addr × Nat)->Sem Value,ReflectliteValue.method z f #[v]=(ReflectliteValue.parts v >>=K)/\∀t a fl,K (some (t,a,fl))=f t a fl (fl % 32):=⟨_,rfl,fun _ _ _=>rfl⟩
theorem z0m{P:Program}{z:Sem Value}{f:TypeId->Addr->Nat->Nat->Sem Value}{v:Value}{W:World}{t:TypeId}{a:Addr}{fl:Nat}
  (h:(ReflectliteValue.parts v).run P W=.ok (some (t,a,fl)) W):(ReflectliteValue.method z f #[v]).run P W=(f t a fl (fl % 32)).run P W:=by
 obtain⟨K,e,A⟩:=j9f z f v;rw[e];simp[Sem.run_bind,h,Result.andThen,A]
theorem y6f(v x:Value):
  ∃K:Option (TypeId × Addr × Nat)->Option (TypeId × Addr × Nat)->Sem Value,ReflectliteValue.set #[v,x]=(ReflectliteValue.parts v >>=fun p=>ReflectliteValue.parts x >>=fun q=>K p q)/\
   ∀(P:Program)(W W1:World)(dst src:TypeId)(a b:Addr)(fl g:Nat)(val:Value),(fl / ReflectliteValue.flagAddr % 2==0)=false->(loadVar src b).run P W=.ok val W->(Rtype.directlyAssignable dst src).run P W=.ok true W->
    (storeVar dst a val).run P W=.ok () W1->(K (some (dst,a,fl)) (some (src,b,g))).run P W=.ok (.tuple #[]) W1:=by
 refine⟨_,rfl,?_⟩;intro P W W1 dst src a b fl g val A B C D;simp[A,B,C,D,Sem.run_bind,Result.andThen]
theorem Tryz.partsP(a:Addr)(w:World):(ReflectliteValue.parts (.agg #[.pointer (some ⟨12,154,none⟩),.pointer (some a),.int .u64 150])).run prog w=.ok (some (154,a,150)) w:=by kernel_rfl
theorem Tryz.isNilP(a p:Addr)(W:World)(ha:W.cell? a=some (.pointer (some p))):
  (ReflectliteValue.method (ReflectliteValue.valueError "reflectlite.Value.IsNil" 0) ReflectliteValue.isNil #[.agg #[.pointer (some ⟨12, 154, none⟩), .pointer (some a), .int .u64 150]]).run prog W = .ok (.bool false) W := by
 rw[z0m (Tryz.partsP a W)];simp[ReflectliteValue.isNil,loadVar,isAgg,underlying,Tryz.underlying154,ha,Result.andThen]
theorem Tryz.methodElem (h : Value) (w : World) : (Go.method 503 268 (.agg #[h]) "Elem").run prog w = .ok (311, .agg #[h]) w := by kernel_rfl
theorem Tryz.methodImplements (h : Value) (w : World) : (Go.method 503 268 (.agg #[h]) "Implements").run prog w = .ok (312, .agg #[h]) w := by kernel_rfl
theorem Tryz.methodAssignableTo (h : Value) (w : World) : (Go.method 503 268 (.agg #[h]) "AssignableTo").run prog w = .ok (309, .agg #[h]) w := by kernel_rfl
theorem Tryz.elemP(w:World):(ReflectliteType.method ReflectliteType.elem #[.agg #[.pointer (some ⟨12,154,none⟩)]]).run prog w=.ok (.iface 268 (.agg #[.pointer (some ⟨12,22,none⟩)])) w:=by kernel_rfl
theorem Tryz.implementsE (w : World) : (ReflectliteType.relation "Implements" ReflectliteType.implements_ #[.agg #[.pointer (some ⟨12, 22, none⟩)], .iface 268 (.agg #[.pointer (some ⟨12, 31, none⟩)])]).run prog w = .ok (.bool true) w := by kernel_rfl
theorem Tryz.typeOfE(v:Value)(w:World):(ReflectliteType.typeOf #[.iface 22 v]).run prog w=.ok (.iface 268 (.agg #[.pointer (some ⟨12,22,none⟩)])) w:=by kernel_rfl
theorem Tryz.assignableE (w : World) : (ReflectliteType.relation "AssignableTo" ReflectliteType.assignableTo #[.agg #[.pointer (some ⟨12, 22, none⟩)], .iface 268 (.agg #[.pointer (some ⟨12, 22, none⟩)])]).run prog w = .ok (.bool true) w := by kernel_rfl
theorem Tryz.valueOfE(e:Int)(w:World):(ReflectliteValue.unpack (.iface 22 (.int .i64 e))).run prog w
  =.ok (.agg #[.pointer (some ⟨12,22,none⟩),.pointer (some ⟨w,0,none⟩),.int .u64 130]) (w.alloc (.cells #[.int .i64 e] 22)):=by kernel_rfl
theorem Tryz.elemOfP(w:World):(Rtype.elem? 154).run prog w=.ok (some 22) w:=by kernel_rfl
theorem Tryz.mkE(p:Addr)(w:World):(ReflectliteValue.mk 22 p ReflectliteValue.flagAddr).run prog w=.ok (.agg #[.pointer (some ⟨12,22,none⟩),.pointer (some p),.int .u64 386]) w:=by kernel_rfl
theorem Tryz.elemVP(a p:Addr)(W:World)(ha:W.cell? a=some (.pointer (some p))):
  (ReflectliteValue.method (ReflectliteValue.valueError "reflectlite.Value.Elem" 0) ReflectliteValue.elem #[.agg #[.pointer (some ⟨12, 154, none⟩), .pointer (some a), .int .u64 150]]).run prog W
   =.ok (.agg #[.pointer (some ⟨12,22,none⟩),.pointer (some p),.int .u64 386]) W:=by
 rw[z0m (Tryz.partsP a W)];simp[ReflectliteValue.elem,loadVar,isAgg,underlying,Tryz.underlying154,ha,Result.andThen,Tryz.elemOfP,Tryz.mkE]
theorem Tryz.partsEa(a:Addr)(w:World):(ReflectliteValue.parts (.agg #[.pointer (some ⟨12,22,none⟩),.pointer (some a),.int .u64 386])).run prog w=.ok (some (22,a,386)) w:=by kernel_rfl
theorem Tryz.partsE(a:Addr)(w:World):(ReflectliteValue.parts (.agg #[.pointer (some ⟨12,22,none⟩),.pointer (some a),.int .u64 130])).run prog w=.ok (some (22,a,130)) w:=by kernel_rfl
theorem Tryz.directE(w:World):(Rtype.directlyAssignable 22 22).run prog w=.ok true w:=by kernel_rfl
theorem Tryz.setE(ta b:Addr)(e:Int)(A:Value)(W:World)(hb:W.cell? b=some (.int .i64 e))(ht:W.cell? ta=some A)(hf:W.frozen? ta=false):
  (ReflectliteValue.set #[.agg #[.pointer (some ⟨12,22,none⟩),.pointer (some ta),.int .u64 386],.agg #[.pointer (some ⟨12,22,none⟩),.pointer (some b),.int .u64 130]]).run prog W
   =.ok (.tuple #[]) (W.setCell ta (.int .i64 e)):=by
 obtain⟨K,B,C⟩:=y6f (.agg #[.pointer (some ⟨12,22,none⟩),.pointer (some ta),.int .u64 386]) (.agg #[.pointer (some ⟨12,22,none⟩),.pointer (some b),.int .u64 130]);rw[B];simp only[Sem.run_bind,Tryz.partsEa,Tryz.partsE,Result.andThen];refine C prog W _ 22 22 ta b 386 130 (.int .i64 e) (by simp[ReflectliteValue.flagAddr]) ?_ (Tryz.directE W) ?_
 ·simp[loadVar,isAgg,underlying,Tryz.underlying22,hb,Result.andThen]
 ·simp[storeVar,Value.cells,storeCells,Addr.add,Result.andThen];rw[run_store prog W ta _ _ (by rfl)];simp[ht,hf]
theorem y4h(e:Int)(t:Addr)(old:Value)(w:World)(hg:w.cell? ⟨0,0,none⟩=some (.iface 268 (.agg #[.pointer (some ⟨12,31,none⟩)])))(ht0:w.cell? t=some old)(hf0:w.frozen? t=false):
  Calls prog 82 #[.iface 22 (.int .i64 e),.iface 154 (.pointer (some t))] w fun ev w'=>ev=.returned (.bool true)/\w'=((((w.alloc (.cells #[.pointer (some t)] 154)).alloc (.cells #[.pointer (some ⟨12,154,none⟩),.pointer (some ⟨w,0,none⟩),.int .u64 150] 222)).alloc (.cells #[.pointer (some ⟨12,154,none⟩),.pointer (some ⟨w,0,none⟩),.int .u64 150] 222)).alloc (.cells #[.int .i64 e] 22)).setCell t (.int .i64 e):=by
 have h6:=@run_callFunc_extern prog 136 _ (fun args=>ReflectliteValue.unpack (args.getD 0 (.tuple #[]))) func136 (by kernel_rfl) (by kernel_rfl) (by kernel_rfl) (by kernel_rfl)
 have h7 := @run_callFunc_extern prog 137 _ (ReflectliteValue.methodAny (ReflectliteValue.valueError "reflectlite.Value.Type" 0) (fun t _ _ _ => ReflectliteType.toType t)) func137 (by kernel_rfl) (by kernel_rfl) (by kernel_rfl) (by kernel_rfl)
 have h8 := @run_callFunc_extern prog 138 _ (ReflectliteValue.method (ReflectliteValue.valueError "reflectlite.Value.IsNil" 0) ReflectliteValue.isNil) func138 (by kernel_rfl) (by kernel_rfl) (by kernel_rfl) (by kernel_rfl)
 have h27:=@run_callFunc_extern prog 300 _ (ReflectliteType.abiMethod fun t=>do pure (.int .u8 (<-Rtype.kind t))) func300 (by kernel_rfl) (by kernel_rfl) (by kernel_rfl) (by kernel_rfl);have h37:=@run_callFunc_extern prog 311 _ (ReflectliteType.method ReflectliteType.elem) func311 (by kernel_rfl) (by kernel_rfl) (by kernel_rfl) (by kernel_rfl)
 have h38 := @run_callFunc_extern prog 312 _ (ReflectliteType.relation "Implements" ReflectliteType.implements_) func312 (by kernel_rfl) (by kernel_rfl) (by kernel_rfl) (by kernel_rfl)
 have h10:=@run_callFunc_extern prog 190 _ ReflectliteType.typeOf func190 (by kernel_rfl) (by kernel_rfl) (by kernel_rfl) (by kernel_rfl)
 have h35 := @run_callFunc_extern prog 309 _ (ReflectliteType.relation "AssignableTo" ReflectliteType.assignableTo) func309 (by kernel_rfl) (by kernel_rfl) (by kernel_rfl) (by kernel_rfl)
 have h11 := @run_callFunc_extern prog 191 _ (ReflectliteValue.method (ReflectliteValue.valueError "reflectlite.Value.Elem" 0) ReflectliteValue.elem) func191 (by kernel_rfl) (by kernel_rfl) (by kernel_rfl) (by kernel_rfl)
 have h12:=@run_callFunc_extern prog 192 _ ReflectliteValue.set func192 (by kernel_rfl) (by kernel_rfl) (by kernel_rfl) (by kernel_rfl);have tO:=Tryz.typeOfE;have mA:=Tryz.methodAssignableTo;have a25:=Tryz.assignableE;have v25:=Tryz.valueOfE;have f6:=Tryz.valueOfP;have f7:=Tryz.typeP;have mK:=Tryz.methodKind;have mE:=Tryz.methodElem;have mI:=Tryz.methodImplements;have k27:=Tryz.kindP;have k25:=Tryz.kindE;have e27:=Tryz.elemP;have i25:=Tryz.implementsE;have n8:=Tryz.isNilP ⟨w,0,none⟩ t ((w.alloc (.cells #[.pointer (some t)] 154)).alloc (.cells #[.pointer (some ⟨12,154,none⟩),.pointer (some ⟨w,0,none⟩),.int .u64 150] 222)) (by simp)
 have hlt:0<w.heap.size:=by
  rcases Nat.lt_or_ge 0 w.heap.size with h|h
  ·exact h
  ·simp[World.cell?,Array.getElem?_eq_none h]at hg
 have hg2:((w.alloc (.cells #[.pointer (some t)] 154)).alloc (.cells #[.pointer (some ⟨12,154,none⟩),.pointer (some ⟨w,0,none⟩),.int .u64 150] 222)).cell? ⟨0,0,none⟩=some (.iface 268 (.agg #[.pointer (some ⟨12,31,none⟩)])):=by
  rw[World.cell?_alloc_lt _ _ ⟨0,0,none⟩ (by simp only[World.size_alloc];omega),World.cell?_alloc_lt _ _ ⟨0,0,none⟩ hlt];exact hg
 have htl:t.block<w.heap.size:=by
  rcases Nat.lt_or_ge t.block w.heap.size with h|h
  ·exact h
  ·simp[World.cell?,Array.getElem?_eq_none h]at ht0
 have el:=Tryz.elemVP ⟨w,0,none⟩ t (((w.alloc (.cells #[.pointer (some t)] 154)).alloc (.cells #[.pointer (some ⟨12,154,none⟩),.pointer (some ⟨w,0,none⟩),.int .u64 150] 222)).alloc (.cells #[.pointer (some ⟨12,154,none⟩),.pointer (some ⟨w,0,none⟩),.int .u64 150] 222)) (by rw[World.cell?_alloc_lt _ _ ⟨w,0,none⟩ (by simp;omega)];simp)
 have st:=Tryz.setE t ⟨w.heap.size+1+1+1,0,none⟩ e old ((((w.alloc (.cells #[.pointer (some t)] 154)).alloc (.cells #[.pointer (some ⟨12,154,none⟩),.pointer (some ⟨w,0,none⟩),.int .u64 150] 222)).alloc (.cells #[.pointer (some ⟨12,154,none⟩),.pointer (some ⟨w,0,none⟩),.int .u64 150] 222)).alloc (.cells #[.int .i64 e] 22))
  (by rw[World.cell?_alloc_at _ _ _ _ (by simp)];rfl)
  (by rw[World.cell?_alloc_lt _ _ t (by simp;omega),World.cell?_alloc_lt _ _ t (by simp;omega),World.cell?_alloc_lt _ _ t (by simp;omega),World.cell?_alloc_lt _ _ t htl];exact ht0)
  (by rw[World.frozen?_alloc_old _ _ t (by simp;omega),World.frozen?_alloc_old _ _ t (by simp;omega),World.frozen?_alloc_old _ _ t (by simp;omega),World.frozen?_alloc_old _ _ t (Nat.ne_of_lt htl)];exact hf0)
 go_in;go_wp2;refine wp_loop_rounds 1 ?_;rw[rounds_succ];go_wp2;go_ret;exact⟨rfl,rfl⟩
end Go.Proofs.YthcpdohdppkmkaaGreatDoor
namespace Go.Proofs.YthcpdohdppkmkaaGreatDoor
open Go Go.RowKit
set_option maxRecDepth 100000
set_option maxHeartbeats 1000000
def Hnd(w:World):Prop:=w.cell? ⟨0,0,none⟩=some (.iface 268 (.agg #[.pointer (some ⟨12,31,none⟩)]))
theorem Hnd.lt{w:World}(h:Hnd w):0<w.heap.size:=by
 unfold Hnd at h;rcases Nat.lt_or_ge 0 w.heap.size with A|A
 ·exact A
 ·simp[World.cell?,Array.getElem?_eq_none A]at h
theorem Hnd.W{w w':World}(h:Hnd w)(hb:Below w w w'):Hnd w':=((q1z hb).1 _ _ h.lt).trans h
theorem Hnd.alloc{w:World}(h:Hnd w)(o:Obj):Hnd (w.alloc o):=h.W (Zb.alloc Zl _)
theorem v6s(w:World):Calls prog 42 #[.nilIface] w fun e w'=>e=.returned (.int .i64 0)/\Below w w w':=by
 go_in;go_wp2;go_ret;exact⟨rfl,Below.refl _ _⟩
theorem v6r(n:Int)(w:World)(hg:Hnd w):Calls prog 42 #[.iface 22 (.int .i64 n)] w fun e w'=>e=.returned (.int .i64 n)/\Below w w w':=by
 have A:Hid (Hnd w):=hg;have B:=hg.lt;clear hg;go_in;go_wp2_with fail;refine(y4h n ⟨w,0,none⟩ (.int .i64 0) _ (A.o.alloc _) (by simp[go_sem]) (by simp[go_sem])).mono ?_;rintro e C⟨rfl,rfl⟩;go_wp2;go_ret;refine⟨rfl,?_⟩
 repeat (first|exact Below.refl _ _|refine Below.setCell ?_ (by simp) _|refine Below.alloc ?_ (by simp;try omega) _)
theorem v6q(n:Int)(w:World)(hg:Hnd w):Calls prog 42 #[q1r n] w fun e w'=>e=.returned (.int .i64 n)/\Below w w w':=by
 by_cases h:n=0
 ·subst h;exact v6s w
 ·have e:q1r n=.iface 22 (.int .i64 n):=by simp[q1r,h]
  rw[e];exact v6r n w hg
theorem v5v(n m:Int)(w:World)(hg:Hnd w):Calls prog 14 #[q1r n,.int .i64 m] w fun e w'=>e=.returned (.bool (n==m))/\Below w w w':=by
 have A:Hid (Hnd w):=hg;clear hg;go_in;go_wp2_with fail;refine(v6q n _ A.o).mono ?_;rintro e C⟨rfl,B⟩;go_wp2;go_ret;exact⟨rfl,B⟩
end Go.Proofs.YthcpdohdppkmkaaGreatDoor
