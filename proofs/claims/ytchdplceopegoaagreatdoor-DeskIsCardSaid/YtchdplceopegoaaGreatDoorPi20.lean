import Derived.Test.YtchdplceopegoaaGreatDoorPi15
import Derived.Test.YtchdplceopegoaaGreatDoorPi19
import Derived.LaidEql
import Derived.Stop.Asserts
import Derived.RowKitTokens
import Derived.Test.YtchdplceopegoaaGreatDoorRows
import Derived.ChangeSame
import Derived.ChangeVars
import Derived.JoinedOf
import Derived.RowKit
import Derived.LaidLaws
import Derived.LaidHandle
import Derived.Stop.Joined
import Derived.Lay
import Derived.LaidMore
import Derived.LaidSub
import Derived.LaidOnce
import Derived.Deep.Slices
import Derived.Carry
import Derived.SizedLaws
open Go.Proofs.Tryz
open List (append_assoc append_nil flatMap_map getElem_mem length length_append length_cons length_drop length_nil length_take map_flatMap map_map mem_singleton)
open Nat (le_refl le_trans lt_or_ge zero_le)
namespace Go.Proofs.YtchdplceopegoaaGreatDoor
open Go Go.RowKit
set_option maxRecDepth 100000
set_option maxHeartbeats 4000000
theorem k4l(a:Addr)(n cap:Nat)(op:Int)(w:World)(hn:0<n){b o:Nat}(ha:a=(b,o))(hc:w.cell? (b,o)=some ↑op):Cw 81 #[.slice (some a) n cap] w (.bool (op==9)):=by
 unfold Cw;subst ha;have A:(0:Int)<(n:Int):=by omega
 go_in;go_wp2;go_ret;exact⟨rfl,rfl⟩
theorem k4j(ps:List (List Td))(a:Option Addr)(cap:Nat)(w:World)(_hc:ps.length<=cap)(hP:Prg w a ps)(Ab:∀t∈ps,z8j t):Cb 50 #[.slice a ps.length cap] w (.tuple #[↑((q0z ps).1:Int),q2m (q0z ps).2]):=by
 unfold Cb;have HP:=hid hP;have Ae:=hid Ab;clear hP Ab;by_cases Ak:20<(ps.length:Int)
 ·have l:Hid (q0z ps=(0,3)):=by show q0z ps=_;rw[q0z,if_pos (by omega)]
  go_in;go_wp2;go_ret2;exact⟨by rw[l.o];rfl,Below.refl _ _⟩
 have HF:Hid (q0z ps=q7u 0 0 ps):=by show q0z ps=_;rw[q0z,if_neg (by omega)]
 go_in;go_wp2
 go_loopw [13] (fun i wr=>Below w w wr/\∃k:Nat,k<=ps.length/\i=.int .i64 k/\q0z ps=q7u (q7f ps k) k (ps.drop k)/\∀j(h:j<ps.length),j<k->q0b ps[j]=0) (fun i _=>ps.length-(intOf i).toNat)
 case atStart=>exact⟨Below.refl _ _,0,zero_le _,rfl,HF.o,fun j _ h=>by omega⟩
 case round=>
  obtain⟨y,k,hk,rfl,hF,Z⟩:=hrel;have K:=hid y;have HG:=hid hF;have HA:=hid Z;clear y hF Z;by_cases Q:k<ps.length
  ·obtain⟨b,o,a',c',ea,hb,Y,c2,hT⟩:=(HP.o.W K.o) k Q;subst ea;have z:(k:Int)<(ps.length:Int):=by omega
   have X:=q7k ps[k] a' c' wr c2 hT (Ae.o _ (getElem_mem Q))
   have R:Hid (q0b ps[k]=0->∀j(h:j<ps.length),j<k+1->q0b ps[j]=0):=fun h0 j h hj=>by
    by_cases Af:j=k
    ·subst Af;exact h0
    ·exact HA.o j h (by omega)
   have L:Hid (q0b ps[k]=0->0<ps[k].length/\∃S c,a'=some ⟨S,c,none⟩/\S<wr.heap.size/\wr.cell? ⟨S,c,none⟩=some (.int .i64 (opT ps[k]))):=fun h0=>by
    have A:=z1s h0;obtain⟨S,c,e1,n,d1,_,_⟩:=hT 0 A;exact⟨A,S,c,e1,n,by rw[z5j A];simpa using d1⟩
   have J:Hid (q0b ps[k]≠0->q0z ps=(k,q0b ps[k])):=fun h=>HG.o.trans (k3v Q h)
   have D:Hid (q0b ps[k]=0->opT ps[k]=9/\q7f ps k=9->q0z ps=(k,2)):=fun h h2=>HG.o.trans (k3w Q h h2)
   have C:Hid (q0b ps[k]=0->¬(opT ps[k]=9/\q7f ps k=9)->q0z ps=q7u (q7f ps (k+1)) (k+1) (ps.drop (k+1))):=fun h h2=>HG.o.trans (z7s Q h h2)
   have N:Hid (∀j,k=j+1->∃a1 n1 U,wr.cell? ⟨b,o+j,none⟩=some (.slice a1 n1 U)/\0<n1/\∃I d,a1=some ⟨I,d,none⟩/\I<wr.heap.size/\wr.cell? ⟨I,d,none⟩=some (.int .i64 (q7f ps k))):=fun j hj=>by
    have q:j<ps.length:=by omega
    obtain⟨bj,oj,aj,cj,ej,_,q1,_,qT⟩:=(HP.o.W K.o) j q;simp only[Option.some.injEq,Addr.mk.injEq,and_true]at ej;obtain⟨rfl,rfl⟩:=ej;have A:=z1s (HA.o j q (by omega));obtain⟨I,d,e2,p,d2,_,_⟩:=qT 0 A;refine⟨aj,ps[j].length,cj,q1,A,I,d,e2,p,?_⟩;rw[hj,z2u q,z5j A];simpa using d2
   have O:=hid X;clear hT X c2;generalize ps[k].length=nl at Y O L;generalize opT ps[k]=op0 at L D C;generalize q0b ps[k]=E at O R L J D C;by_cases he:E=0
   ·subst he;obtain⟨Ai,S,c,rfl,n,d1⟩:=L.o rfl;have f:=hid (R.o rfl);have M:=hid (D.o rfl);have B:=hid (C.o rfl);clear D C;have Aj:(0:Int)<(nl:Int):=by omega
    have g:=hid Y;have Ac:=hid d1;clear L J R Y d1;by_cases r:k=0
    ·have v:=hid (B.o (by simp[q7f,r]));have Ag:¬(0:Int)<(k:Int):=by omega
     have Y:=g.o;clear M B r;go_wp2_with fail;refine O.o.mono ?_;rintro e w2⟨rfl,I⟩;rw[q1n];have H:=hid (q0e K.o Zl I);clear I Y;go_wp2
     go_roundw
     case rel=>exact⟨H.o,k+1,by omega,by go_num,v.o,f.o⟩
     case measure=>simp[intOf];omega
    ·obtain⟨j,rfl⟩:∃j,k=j+1:=⟨k-1,by omega⟩;obtain⟨a1,n1,U,q1,Ah,I,d,rfl,p,d2⟩:=N.o j rfl;have P:((j+1:Nat):Int)=(j:Int)+1:=by omega
     have Ag:(0:Int)<(j:Int)+1:=by omega
     have Al:(j:Int)<(ps.length:Int):=by omega
     have Am:(j:Int)+1<(ps.length:Int):=by omega
     have s:Hid (∀W:World,Below wr wr W->W.cell? (b,o+(j+1))=some (.slice (some ↑(S,c)) nl c')/\W.cell? (S,c)=some ↑op0/\W.cell? (b,o+j)=some (.slice (some ↑(I,d)) n1 U)/\W.cell? (I,d)=some ↑(q7f ps (j+1))):=fun W hW=>
      ⟨((q0s hW).1 _ _ hb).trans g.o,((q0s hW).1 _ _ n).trans Ac.o,((q0s hW).1 _ _ hb).trans q1,((q0s hW).1 _ _ p).trans d2⟩
     have Y:=g.o;generalize q7f ps (j+1)=pv at M B s;rw[P]at z⊢;clear q1 d2 N P r;go_wp2_with fail;refine O.o.mono ?_;rintro e w2⟨rfl,m⟩;rw[q1n];have H:=hid (q0e K.o Zl m);obtain⟨k1,k2,k3,k4⟩:=s.o w2 m;clear m Y;have Ad:=hid (k4l (S,c) nl c' op0 w2 Ai rfl k2);have x:=hid (k4l (I,d) n1 U pv w2 Ah rfl k4);clear k2 k4;go_wp2_with fail;refine Ad.o.mono ?_;rintro e w3⟨rfl,rfl⟩;by_cases h9:op0=9
     ·subst h9;have G:((9:Int)==9)=true:=rfl;rw[G];clear G;go_wp2_with fail;refine x.o.mono ?_;rintro e w3⟨rfl,rfl⟩;by_cases V:pv=9
      ·subst V;have l:=hid (M.o (by simp));have G:((9:Int)==9)=true:=rfl;rw[G];clear M B G;go_wp2;go_ret2;exact⟨by rw[l.o];rfl,H.o⟩
      ·have v:=hid (B.o (fun h=>V h.2));have Aa:(pv==9)=false:=by simp[V]
       rw[Aa];clear M B V Aa;go_wp2
       go_roundw
       case rel=>exact⟨H.o,j+1+1,by omega,by go_num,v.o,f.o⟩
       case measure=>simp[intOf];omega
     ·have v:=hid (B.o (fun h=>h9 h.1));have G:(op0==9)=false:=by simp[h9]
      rw[G];clear M B h9 G;go_wp2
      go_roundw
      case rel=>exact⟨H.o,j+1+1,by omega,by go_num,v.o,f.o⟩
      case measure=>simp[intOf];omega
   ·have l:=hid (J.o he);have u:=hid (q0q he);clear L J R D C he;go_wp2_with fail;refine O.o.mono ?_;rintro e w2⟨rfl,I⟩;rw[u.o];have H:=hid (q0e K.o Zl I);clear I Y;go_wp2;go_ret2;exact⟨by rw[l.o,u.o];rfl,H.o⟩
  ·have l:Hid (q0z ps=(0,0)):=by
    show q0z ps=_;rw[HG.o,List.drop_eq_nil_of_le (by omega)];rfl
   have z:¬(k:Int)<(ps.length:Int):=by omega
   go_wp2;go_ret2;exact⟨by rw[l.o];rfl,K.o⟩
theorem j4p(a b:Wd):(q6i a b).length<=a.length+b.length+1:=by
 unfold q6i
 split
 ·simp only[length_append,length_cons,length_nil];omega
 ·simp only[length_append];omega
theorem k8r:∀(ws:List Wd)(t:Wd),(ws.foldl q6i t).length<=t.length+szW ws
 | [],t=>by simp[szW]
 | x::r,t=>by
  have h1:=k8r r (q6i t x);have h2:=j4p t x;rw[List.foldl_cons,q2h];omega
theorem y1r:∀s:Wd,szW (q4x s)=s.length+1
 | []=>rfl
 | c::r=>by
  have ih:=y1r r;by_cases hc:c=32
  ·subst hc;rw[q5d,q2h,ih];simp;omega
  ·cases hs:q4x r with
   | nil=>exact absurd hs (q8j r)
   | cons x y=>
    rw[q5e hc hs,q2h];rw[hs,q2h]at ih;simp only[length_cons];omega
theorem v0b{x:Wd}(h:x≠[]):(q1c x).length<=x.length:=by
 unfold q1c ntx;have A:=k8r (q0d (x.drop 1)) []
 have B:szW (q0d (x.drop 1))<=(x.drop 1).length+1:=by
  unfold q0d
  split
  ·exact zero_le _
  ·rw[y1r];exact le_refl _
 rw[length_drop]at B;have C:=List.length_pos_iff.2 h;simp only[length_nil]at A;omega
theorem v2d{u ts:List Wd}(h:u <:+ ts):szW u<=szW ts:=by
 obtain⟨t,rfl⟩:=h;rw[k7g];omega
theorem v2z(x:Wd):(wbS x).size=x.length:=by rw[<-q0c];rfl
theorem y4v{x:Wd}(h:nmW x=true):(wbS x).size<=8:=by
 simp only[nmW,q0o,Bool.and_eq_true,decide_eq_true_eq]at h;exact h.1.1.2
theorem j7w{A:List (List Td)}{N:Nat}(h:∀t∈A,∀x∈t,x.tx.size<=N):(q5u A).length<=N:=by
 unfold q5u
 split
 ·rename_i x r hx;have B:=List.mem_of_getLast? hx
  have:=h _ B x (by simp)
  rw[q0c];exact this
 ·exact zero_le _
theorem g2n{pv:Bool}{C:List (List Td)}{ts:List Wd}{r:Rp}(h:PG pv C ts r):∀N,8<=N->(∀t∈C,∀x∈t,x.tx.size<=N)->∀qs,r=.ok qs->∀t∈qs,∀x∈t,x.tx.size<=N+szW ts:=by
 induction h with
 | done=>
  intro N _ D qs e t A x B;cases e
  have:=D t A x B
  omega
 | @note pv C wd ts r h0 _ ih=>
  intro N E D qs e t A x B;have H:wd≠[]:=fun e=>by rw[e]at h0;simp at h0
  have I:=v0b H
  have:=ih (N+(wd.length+1)) (by omega) (fun t A x B=>by
   unfold z8n at A
   split at A
   ·rcases List.mem_append.1 A with A|A
    ·have:=D t ((List.dropLast_sublist C).subset A) x B
     omega
    ·rw[mem_singleton]at A;subst A;rw[mem_singleton]at B;subst B
     show(wbS _).size<=_
     rw[v2z];have J:=j4p (q5u C) (q1c wd);have K:=j7w D;omega
   ·rcases List.mem_append.1 A with A|A
    ·have:=D t A x B
     omega
    ·rw[mem_singleton]at A;subst A;rw[mem_singleton]at B;subst B
     show(wbS _).size<=_
     rw[v2z]
     omega) qs e t A x B
  rw[q2h];omega
 | letN=>intro N _ _ qs e;cases e
 | letE=>intro N _ _ qs e;cases e
 | letB=>intro N _ _ qs e;cases e
 | letX=>intro N _ _ qs e;cases e
 | @letO pv C nm ts m ns u r hn hpr _ ih=>
  intro N E D qs e t A x B;have G:=v2d (q5o hpr).1;simp only[Rs.rest]at G;rw[q2h]at G
  have:=ih N E (fun t A x B=>by
   rcases List.mem_append.1 A with A|A
   ·exact D t A x B
   ·rw[mem_singleton]at A;subst A;rcases List.mem_cons.1 B with rfl|B
    ·exact le_trans (y4v hn) E
    ·exact le_trans (y5d hpr (fun x B=>by cases B) _ _ _ rfl x B) E) qs e t A x B
  rw[q2h,q2h,q2h];omega
 | doB=>intro N _ _ qs e;cases e
 | doX=>intro N _ _ qs e;cases e
 | @doO pv C wd ts m ns u r h0 I hpr _ ih=>
  intro N E D qs e t A x B;have G:=v2d (q5o hpr).1;simp only[Rs.rest]at G;rw[q2h]at G
  have:=ih N E (fun t A x B=>by
   rcases List.mem_append.1 A with A|A
   ·exact D t A x B
   ·rw[mem_singleton]at A;subst A;rcases List.mem_cons.1 B with rfl|B
    ·exact zero_le _
    ·exact le_trans (y5d hpr (fun x B=>by cases B) _ _ _ rfl x B) E) qs e t A x B
  omega
theorem y5p(ws:List Wd):szW ws=(ws.map length).sum+ws.length:=by
 induction ws with
 | nil=>rfl
 | cons x r ih=>rw[q2h,ih,List.map_cons,List.sum_cons,length_cons];omega
theorem k4g(s:ByteArray)(w:World)(ht:z2c w):Calls prog 30 #[.string s] w fun e w'=>z4g s w e w':=by
 have f:=hid (v3o s w);by_cases I:q8e (btL s)=0
 ·have y:=z5d I;have R:=j8h I;have d:=v3f (btL s);have Y:=hid (y6f (btL s));have o:=hid ht;have r:s.size<=60000:=by rw[<-q0c];exact y.1
  have U:Hid (∀A P L M D,q2i w (.slice A (q2o (btL s)).length L) ((q2o (btL s)).map wbS) D->z2b w.heap.size (.slice P (q2o (btL s)).length M) (z3j (btL s)) D->Below w w D->Cp 49 #[.slice A (q2o (btL s)).length L,.slice P (q2o (btL s)).length M,(s.size:Int)] D fun e w'=>k5d (q2o (btL s)) (plE (z3j (btL s)) s.size) w.heap.size D e w'):=fun A P L M D a l B=>v4a Y.o (by omega) R (z3m _).symm B.size a l (fun w' hb'=>o.o.W (B.trans hb'))
  have C:Hid (Cp 48 #[.string s] w fun e w'=>∃A P L M,e=.returned (.tuple #[.slice A (q2o (btL s)).length L,.slice P (q2o (btL s)).length M,.int .i64 0,.nilIface])/\(q2i w (.slice A (q2o (btL s)).length L) ((q2o (btL s)).map wbS) w'/\z2b w.heap.size (.slice P (q2o (btL s)).length M) (z3j (btL s)) w'/\Below w w w')):=by
   refine f.o.mono ?_;rintro e w'⟨n,B⟩;rcases n with⟨m,_⟩|⟨_,A,P,L,M,rfl,a,l⟩
   ·exact absurd I m
   ·exact⟨A,P,L,M,rfl,a,l,B⟩
  have k:Hid (∀qs,PG false [] (q2o (btL s)) (.ok qs)->∀t∈qs,z8j t):=fun qs hpg t ht x hx=>by
   have a:=g2n hpg 8 Zl (fun t ht=>by cases ht) qs rfl t ht x hx;rw[y5p]at a;omega
  have h:Hid (∀u D w',Below w w D->PG false [] (q2o (btL s)) (.bad u)->Below w D w'->z4g s w (.returned (.tuple #[.slice none 0 0,.int .i64 (plE (z3j (btL s)) s.size ((q2o (btL s)).length-u.length):Int),.iface 24 (.int .i64 5)])) w'):=fun u D w' hb1 hpg B=>⟨[],_,5,none,0,rfl,z0i.bad I hpg,Prg.nil _ _,le_refl _,hb1.trans B⟩
  have j:Hid (∀qs A c w',PG false [] (q2o (btL s)) (.ok qs)->(q0z qs).2=0->Prg w' A qs->qs.length<=c->Below w w w'->z4g s w (.returned (.tuple #[.slice A qs.length c,.int .i64 0,.nilIface])) w'):=fun qs A c w' hpg J hP hc B=>⟨qs,0,0,A,c,rfl,z0i.ok I hpg J,hP,hc,B⟩
  have i:Hid (∀qs w',PG false [] (q2o (btL s)) (.ok qs)->(q0z qs).2≠0->Below w w w'->z4g s w (.returned (.tuple #[.slice none 0 0,.int .i64 0,.iface 24 ((q0z qs).2)])) w'):=fun qs w' hpg J B=>⟨[],0,(q0z qs).2,none,0,by rw[q0q J];rfl,z0i.full I hpg J,Prg.nil _ _,le_refl _,B⟩
  clear f y d R ht I Y o
  generalize(q2o (btL s)).length=nl at U C
  go_in;go_wp2_with fail;refine C.o.mono ?_;rintro e D⟨A,P,L,M,rfl,b⟩;have p:=hid b;have N:=hid (U.o A P L M D b.1 b.2.1 b.2.2);clear b C U;go_wp2_with fail;refine N.o.mono ?_;intro e X z;cases z with
  | @bad u _ pg B=>
   have H:=hid (h.o u D X p.o.2.2 pg B);clear pg B N;generalize plE (z3j (btL s)) s.size ((q2o (btL s)).length-u.length)=pp at H⊢;go_wp2;refine bodyPost_ret (v:=.tuple #[.slice none 0 0,(pp:Int),.iface 24 (.int .i64 5)]) (by simp[results,Tryz.results30,go_sem]) rfl ?_;exact H.o
  | @ok qs A2 c2 _ pg hp hc B=>
   have O:=p.o.2.2.trans B;have Q:=hid (k4j qs A2 c2 X hc hp (k.o qs pg));by_cases J:(q0z qs).2=0
   ·have H:Hid (∀G,Below X X G->z4g s w (.returned (.tuple #[.slice A2 qs.length c2,.int .i64 0,.nilIface])) G):=fun G hb3=>j.o qs A2 c2 G pg J (hp.W hb3) hc (q0e O Zl hb3)
    rw[J]at Q
    generalize(q0z qs).1=K at Q
    clear pg hp hc B O J N;generalize qs.length=ql at Q H⊢;go_wp2_with fail;refine Q.o.mono ?_;rintro e G⟨rfl,Z⟩;have S:=hid (H.o G Z);clear Z;rw[q1n];go_wp2;refine bodyPost_ret (v:=.tuple #[.slice A2 ql c2,.int .i64 0,.nilIface]) (by simp[results,Tryz.results30,go_sem]) rfl ?_;exact S.o
   ·have H:Hid (∀G,Below X X G->z4g s w (.returned (.tuple #[.slice none 0 0,.int .i64 0,.iface 24 ((q0z qs).2)])) G):=fun G hb3=>i.o qs G pg J (q0e O Zl hb3)
    have V:=hid (q0q J)
    generalize(q0z qs).2=E at Q V H
    generalize(q0z qs).1=K at Q
    clear pg hp hc B O J N;generalize qs.length=ql at Q⊢;go_wp2_with fail;refine Q.o.mono ?_;rintro e G⟨rfl,Z⟩;have S:=hid (H.o G Z);clear Z;rw[V.o];go_wp2;refine bodyPost_ret (v:=.tuple #[.slice none 0 0,.int .i64 0,.iface 24 E]) (by simp[results,Tryz.results30,go_sem]) rfl ?_;exact S.o
 ·have C:Hid (Cb 48 #[.string s] w (.tuple #[.slice none 0 0,.slice none 0 0,((k1j (btL s):Nat):Int),q2m (q8e (btL s))])):=by
   refine f.o.mono ?_;rintro e w'⟨n,B⟩;rcases n with⟨_,rfl⟩|⟨m,_⟩
   ·exact⟨rfl,B⟩
   ·exact absurd m I
  have V:=hid (q0q I);have H:Hid (∀w',Below w w w'->z4g s w (.returned (.tuple #[.slice none 0 0,((k1j (btL s):Nat):Int),.iface 24 (q8e (btL s))])) w'):=fun w' B=>⟨[],_,_,none,0,by rw[V.o];rfl,z0i.lex I,Prg.nil _ _,le_refl _,B⟩
  generalize q8e (btL s)=E at C V H
  generalize((k1j (btL s):Nat):Int)=LK at C H
  clear f I ht;go_in;go_wp2_with fail;refine C.o.mono ?_;rintro e D⟨rfl,q⟩;have g:=hid (H.o D q);clear q;rw[V.o];go_wp2;refine bodyPost_ret (v:=.tuple #[.slice none 0 0,LK,.iface 24 E]) (by simp[results,Tryz.results30,go_sem]) rfl ?_;exact g.o
theorem v8y{x:Td}(h:q0t x=0):x.tx.size<=1300:=by
 unfold q0t at h
 split at h
 ·cases h
 ·split at h
  ·cases h
  ·split at h
   ·cases h
   ·rename_i h3
    split at h
    ·exact z4c h
    ·rename_i h4
     split at h
     ·cases h
     ·rename_i h5;cases B:q2v x.op with
      | false=>
       have:¬0<x.tx.size:=fun h6=>h3 (.inr ⟨B,h6⟩)
       omega
      | true=>
       cases A:q0o x.tx with
       | false=>exact absurd ⟨B,A⟩ h5
       | true=>
        have:=q3a A
        rw[q0c]at this;omega
theorem v1g{ps:List (List Td)}(h:(q0z ps).2=0):∀t∈ps,∀x∈t,x.tx.size<=1300:=by
 intro t B x C;have A:=k0b ps 0 (k0i h).2 t B;exact v8y ((q3k A).2.1 x C)
def y9h(ks:List Tn):List UInt8:=match ks with
 | []=>[]
 | _::_=>44::32::cmx ks
def y6r(i:Nat)(ks:List Tn):List UInt8:=if i=0 then cmx ks else y9h ks
theorem y2z(t:Tn)(r:List Tn):cmx (t::r)=t.tx++y9h r:=by
 cases r<;>rfl
structure g0r(w0:World)(b:Nat)(rest:List Td)(T:List UInt8)(n:Nat)(i:Nat)(G:Fo)(bs:List UInt8)(w:World):Prop where
 n:i+G.len=n
 e:y6h w0 b G
 w:WyE w0 b bs (G.N++rest) w
 t:bs++y6r i G.R=T
theorem k4q{w0:World}{b:Nat}{F:Fo}(hE:y6h w0 b F)(hn:F.len<=1000)(o z:UInt8):KdC w0 b F o z:=by
 intro I B w hl O;obtain⟨A,c,h⟩:=O
 have r:Hid (Cp 96 #[.pointer b,.int .u8 (o.toNat:Int)] w fun e D=>e=.returned .nilIface/\WyE w0 b (I++[o]) (F.N++B) D):=by
  refine(q8p h o (by omega)).mono ?_;rintro e D⟨rfl,K⟩;exact⟨rfl,_,_,K⟩
 have s:Hid (∀W:World,WyE w0 b (I++[o]++cmx F.R) B W->CallsD prog 96 #[.pointer b,.int .u8 (z.toNat:Int)] .returning W fun e n D=>n=.returning/\(e=.returned .nilIface/\WyE w0 b (I++o::(cmx F.R++[z])) B D)):=fun W O=>by
  obtain⟨A,c,h⟩:=O;refine(k4p h z .returning (by simp only[length_append,length_cons,length_nil];omega)).mono ?_;rintro e n D⟨rfl,rfl,K⟩;refine⟨rfl,rfl,A,c,?_⟩;have V:I++o::(cmx F.R++[z])=I++[o]++cmx F.R++[z]:=by simp
  rw[V];exact K
 have Z:Hid (∀Y,WyE w0 b (I++[o]) (F.N++B) Y->g0r w0 b B (I++[o]++cmx F.R) F.len 0 F (I++[o]) Y):=fun Y K=>⟨by omega,hE,K,rfl⟩
 have U:Hid ((I++[o]++cmx F.R).length<=500000):=(show _<=_ by simp only[length_append,length_cons,length_nil];omega);clear h hE hl;generalize F.len=fn at Z hn⊢;generalize I++[o]++cmx F.R=T at Z s U;go_enter_defers func169,ntmps169;go_wp2_with fail;refine r.o.mono ?_;rintro e Y⟨rfl,K⟩;have g:=hid (Z.o Y K);clear K r Z;go_wp2_with fail
 go_loopw [19] (fun x wr=>∃(i:Nat)(G:Fo)(C:List UInt8),x=(i:Int)/\g0r w0 b B T fn i G C wr) (fun x _=>fn-(intOf x).toNat)
 case atStart=>exact⟨0,F,_,rfl,g.o⟩
 case round=>
  obtain⟨i,G,C,rfl,u⟩:=hrel;have S:=U.o;cases G with
  | nil=>
   obtain⟨P,_,L,H⟩:=u;have Ac:¬(i:Int)<(fn:Int):=by simp only[Fo.len]at P;omega
   have X:C=T:=by
    rw[<-H];unfold y6r
    split<;>simp[Fo.R,cmx,y9h]
   have j:Hid (WyE w0 b T B wr):=(show WyE w0 b T B wr by rw[<-X];exact L);clear L H X P;go_wp2;refine leaves_cons (f:=96) (args:=#[.pointer b,.int .u8 (z.toNat:Int)]) (by simp) (by simp[go_sem]) ?_;refine(s.o _ j.o).mono ?_;rintro e n Ae⟨rfl,rfl,h5⟩;exact⟨_,results_none rfl _ _ _,rfl,h5⟩
  | cons y k G'=>
   obtain⟨P,hE,L,H⟩:=u;have Ad:(i:Int)<(fn:Int):=by simp only[Fo.len]at P;omega
   have Ab:i+1+G'.len=fn:=by simp only[Fo.len]at P;omega
   have a:=hid hE.1;have p:=hid hE.2;have l:(Fo.cons y k G').R=q0k y k.R::G'.R:=rfl;have V:(Fo.cons y k G').N++B=y::(k.N++(G'.N++B)):=by simp[Fo.N]
   rw[V]at L;rw[l]at H;have E:=y2z (q0k y k.R) G'.R;have Q:(q0k y k.R).tx=q2z y k.R:=rfl;rw[Q]at E;by_cases t:i=0
   ·subst t;rw[y6r,if_pos rfl,E]at H
    have M:Hid (∀W,WyE w0 b C (y::(k.N++(G'.N++B))) W->Cp 136 #[.pointer b] W fun e D=>e=.returned (.tuple #[])/\g0r w0 b B T fn 1 G' (C++q2z y k.R) D):=fun W O=>by
     refine(a.o C (G'.N++B) W (by rw[<-H]at S;simp only[length_append]at S;omega) O).mono ?_;rintro e D⟨rfl,m⟩;exact⟨rfl,by omega,p.o,m,by rw[y6r,if_neg (by omega),append_assoc];exact H⟩
    have HW:=hid L;clear L H E l V hE a P Q;go_wp2_with fail;refine(M.o _ HW.o).mono ?_;rintro e w2⟨rfl,d⟩;go_wp2;refine⟨⟨1,G',_,rfl,d⟩,?_⟩;simp[intOf];omega
   ·rw[y6r,if_neg t]at H
    have J:C++[44,32]++(q2z y k.R++y9h G'.R)=T:=by
     rw[<-H,<-E];simp[y9h]
    have Aa:0<(i:Int):=by omega
    have HC:Hid (Cp 33 #[.pointer b,.string ⟨#[44,32]⟩] wr fun e D=>(∃z,e=.returned (.tuple #[z,.nilIface]))/\WyE w0 b (C++[44,32]) (y::(k.N++(G'.N++B))) D):=by
     obtain⟨A,c,h⟩:=L;refine(q5r h ⟨#[44,32]⟩ (by rw[<-J]at S;simp only[length_append]at S;omega) (by decide)).mono ?_;rintro e D⟨rfl,h,_⟩;exact⟨⟨_,rfl⟩,_,_,h⟩
    have M:Hid (∀W,WyE w0 b (C++[44,32]) (y::(k.N++(G'.N++B))) W->Cp 136 #[.pointer b] W fun e D=>e=.returned (.tuple #[])/\g0r w0 b B T fn (i+1) G' (C++[44,32]++q2z y k.R) D):=fun W O=>by
     refine(a.o (C++[44,32]) (G'.N++B) W (by rw[<-J]at S;simp only[length_append]at S⊢;omega) O).mono ?_;rintro e D⟨rfl,m⟩;exact⟨rfl,by omega,p.o,m,by rw[y6r,if_neg (by omega),append_assoc];exact J⟩
    clear L H J E l V hE a P Q;go_wp2_with fail;refine HC.o.mono ?_;rintro e w2⟨⟨q,rfl⟩,d⟩;have v:=hid d;clear d;go_wp2_with fail;refine(M.o _ v.o).mono ?_;rintro e w3⟨rfl,h3⟩;go_wp2;refine⟨⟨i+1,G',_,by go_num,h3⟩,?_⟩;simp[intOf];omega
theorem k4r{w0:World}{b:Nat}{y:Td}{k:Fo}(hX:ExC w0 b y k)(op:Int)(E:op=5\/op=6)(s:Bool)(bs:List UInt8)(rest:List Td)(w:World)(hl:bs.length+(brx ((op-5).toNat+s.toNat) (q0k y k.R)).length<=500000)(hW:WyE w0 b bs (y::(k.N++rest)) w):
  Calls prog 201 #[.pointer b,op,.bool s] w fun e w'=>e=.returned (.tuple #[])/\WyE w0 b (bs++brx ((op-5).toNat+s.toNat) (q0k y k.R)) rest w':=by
 have B:Hid (∀W,Cp 230 #[y.op,op,.bool s] W fun e w'=>e=.returned (.bool (decide (prc y<(op-5).toNat+s.toNat)))/\w'=W):=fun W=>k3l y op E s W
 have Q:=hid hX;obtain⟨A,c,h⟩:=hW;obtain⟨m,o,rfl,M,H,_,_⟩:=h.td 0 (by simp);simp only[List.getElem_cons_zero,Nat.zero_mul,Nat.add_zero]at H;obtain⟨K,_⟩:=q0s h.bl;have l:=(K _ _ M).trans H;have Y:=h.x.cellR 0;generalize O:(y::(k.N++rest)).length=n at Y;have a:0<n:=by rw[<-O];simp
 have D:brx ((op-5).toNat+s.toNat) (q0k y k.R)=if prc y<(op-5).toNat+s.toNat then 40::(q2z y k.R++[41])else q2z y k.R:=rfl
 rw[D]at hl⊢;by_cases I:prc y<(op-5).toNat+s.toNat
 ·rw[if_pos I]at hl⊢;rw[decide_eq_true I]at B;simp only[length_cons,length_append,length_nil]at hl
  have V:Hid (Cp 96 #[.pointer b,.int .u8 40] w fun e w'=>e=.returned .nilIface/\WyE w0 b (bs++[40]) (y::(k.N++rest)) w'):=by
   refine(q8p h 40 (by omega)).mono ?_;rintro e w'⟨rfl,L⟩;exact⟨rfl,_,_,L⟩
  have C:Hid (∀W,WyE w0 b (bs++[40]) (y::(k.N++rest)) W->Cp 136 #[.pointer b] W fun e w'=>e=.returned (.tuple #[])/\WyE w0 b (bs++[40]++q2z y k.R) rest w'):=fun W hW=>Q.o (bs++[40]) rest W (by simp only[length_append,length_cons,length_nil];omega) hW
  have X:Hid (∀W:World,WyE w0 b (bs++[40]++q2z y k.R) rest W->CallsD prog 96 #[.pointer b,.int .u8 41] .returning W fun e P w'=>P=.returning/\(e=.returned .nilIface/\WyE w0 b (bs++40::(q2z y k.R++[41])) rest w')):=fun W hW=>by
   obtain⟨A,c,h⟩:=hW;refine(k4p h 41 .returning (by simp only[length_append,length_cons,length_nil];omega)).mono ?_;rintro e P w'⟨rfl,rfl,L⟩;refine⟨rfl,rfl,A,c,?_⟩;have Z:bs++40::(q2z y k.R++[41])=bs++[40]++q2z y k.R++[41]:=by simp
   rw[Z];exact L
  clear h K H D hl E O hX;go_enter_defers func201,ntmps201;go_wp2_with fail;refine(B.o _).mono ?_;rintro e i⟨rfl,rfl⟩;go_wp2_with fail;refine V.o.mono ?_;rintro e p⟨rfl,S⟩;have U:=hid S;clear S;go_wp2_with fail;refine(C.o _ U.o).mono ?_;rintro e j⟨rfl,G⟩;have J:=hid G;clear G;go_wp2;refine leaves_cons (f:=96) (args:=#[.pointer b,.int .u8 41]) (by simp) (by simp[go_sem]) ?_;refine(X.o _ J.o).mono ?_;rintro e P g⟨rfl,rfl,d⟩;exact⟨_,results_none rfl _ _ _,rfl,d⟩
 ·rw[if_neg I]at hl⊢;rw[decide_eq_false I]at B;have C:=hid (Q.o bs rest w (by omega) ⟨_,_,h⟩);clear h K H D hl E O hX;go_enter_defers func201,ntmps201;go_wp2_with fail;refine(B.o _).mono ?_;rintro e i⟨rfl,rfl⟩;go_wp2_with fail;refine C.o.mono ?_;rintro e j⟨rfl,G⟩;have J:=hid G;clear G;go_wp2;exact⟨_,results_none rfl _ _ _,rfl,J.o⟩
theorem j3v{w0:World}{b:Nat}{y z:Td}{k l:Fo}(hX:ExC w0 b y k)(hZ:ExC w0 b z l)(op:Int)(B:op=5\/op=6)(m:ByteArray)(hm:m.size=3)(bs:List UInt8)(rest:List Td)(w:World)
  (hl:bs.length+(brx (op-5).toNat (q0k y k.R)).length+(brx ((op-5).toNat+1) (q0k z l.R)).length+3<=500000) (hW:WyE w0 b bs (y::(k.N++(z::(l.N++rest)))) w):
  Calls prog 170 #[.pointer b,op,.string m] w fun e w'=>e=.returned (.tuple #[])/\WyE w0 b (bs++(brx (op-5).toNat (q0k y k.R)++btL m++brx ((op-5).toNat+1) (q0k z l.R))) rest w':=by
 have C:(btL m).length=3:=by rw[q0c,hm]
 have D:Hid (Cp 201 #[.pointer b,op,.bool false] w fun e w'=>e=.returned (.tuple #[])/\WyE w0 b (bs++brx (op-5).toNat (q0k y k.R)) (z::(l.N++rest)) w'):=k4r hX op B false bs _ w (by simp only[Bool.toNat_false,Nat.add_zero];omega) hW;generalize brx (op-5).toNat (q0k y k.R)=X at D hl⊢
 have J:Hid (∀W,WyE w0 b (bs++X) (z::(l.N++rest)) W->Cp 33 #[.pointer b,.string m] W fun e w'=>(∃z,e=.returned (.tuple #[z,.nilIface]))/\WyE w0 b (bs++X++btL m) (z::(l.N++rest)) w'):=fun W hW=>by
  obtain⟨A,c,h⟩:=hW;refine(q5r h m (by simp only[length_append];omega) (by omega)).mono ?_;rintro e w'⟨rfl,h,_⟩;exact⟨⟨_,rfl⟩,_,_,h⟩
 have K:Hid (∀W,WyE w0 b (bs++X++btL m) (z::(l.N++rest)) W->Cp 201 #[.pointer b,op,.bool true] W fun e w'=>e=.returned (.tuple #[])/\WyE w0 b (bs++X++btL m++brx ((op-5).toNat+1) (q0k z l.R)) rest w'):=fun W hW=>k4r hZ op B true _ _ W (by simp only[length_append,Bool.toNat_true];omega) hW
 clear hW hl hX hZ C hm;go_in;go_wp2_with fail;refine D.o.mono ?_;rintro e P⟨rfl,E⟩;have L:=hid E;clear E;go_wp2_with fail;refine(J.o _ L.o).mono ?_;rintro e Q⟨⟨q,rfl⟩,G⟩;have M:=hid G;clear G;go_wp2_with fail;refine(K.o _ M.o).mono ?_;rintro e S⟨rfl,H⟩;have O:=hid H;clear H;go_wp2
 go_end0
 refine⟨rfl,?_⟩;have I:=O.o;simp only[append_assoc]at I⊢;exact I
theorem v9b{w0:World}{b:Nat}{y z:Td}{k l:Fo}(hX:ExC w0 b y k)(hZ:ExC w0 b z l)(op:Int)(L:op=5\/op=6)(tx:ByteArray)(n:Int):ExC w0 b ⟨op,tx,n⟩ (.cons y k (.cons z l .nil)):=by
 intro D B w E H;obtain⟨A,c,h⟩:=H;have K:(Fo.cons y k (.cons z l .nil)).N++B=y::(k.N++(z::(l.N++B))):=by simp[Fo.N]
 rw[K]at h;have O:=hid (q5q h);have C:=hid (fun m hm W E H=>j3v hX hZ op L m hm D B W E H);clear h K hX hZ;rcases L with rfl|rfl
 ·have Q:Hid (q2z ⟨5,tx,n⟩ (Fo.cons y k (.cons z l .nil)).R=brx 0 (q0k y k.R)++32::43::32::brx 1 (q0k z l.R)):=rfl;rw[Q.o]at E⊢;simp only[length_append,length_cons]at E
  have G:Hid (∀W:World,WyE w0 b D (y::(k.N++(z::(l.N++B)))) W->Cp 170 #[.pointer b,.int .i64 5,.string ⟨#[32,43,32]⟩] W fun e M=>e=.returned (.tuple #[])/\WyE w0 b (D++(brx 0 (q0k y k.R)++32::43::32::brx 1 (q0k z l.R))) B M):=fun W H=>by
   refine(C.o ⟨#[32,43,32]⟩ rfl W (by show D.length+(brx 0 _).length+(brx 1 _).length+3<=500000;omega) H).mono ?_;rintro e M⟨rfl,V⟩;refine⟨rfl,?_⟩;have S:brx 0 (q0k y k.R)++32::43::32::brx 1 (q0k z l.R)=brx ((5:Int)-5).toNat (q0k y k.R)++btL ⟨#[32,43,32]⟩++brx (((5:Int)-5).toNat+1) (q0k z l.R):=by simp;rfl
   rw[S];exact V
  clear C E;go_in;go_wp2_with fail;refine O.o.mono ?_;rintro e I⟨rfl,X,Y,J⟩;have P:Hid (∀W:World,Below I I W->WyE w0 b D (y::(k.N++(z::(l.N++B)))) W):=fun W hb=>⟨_,_,J.grew hb⟩
  clear J O;go_wp2_with fail;refine(G.o _ (P.o _ (q1w I _))).mono ?_;rintro e Z⟨rfl,U⟩;go_wp2
  go_end0
  exact⟨rfl,U⟩
 ·have Q:Hid (q2z ⟨6,tx,n⟩ (Fo.cons y k (.cons z l .nil)).R=brx 1 (q0k y k.R)++32::42::32::brx 2 (q0k z l.R)):=rfl;rw[Q.o]at E⊢;simp only[length_append,length_cons]at E
  have G:Hid (∀W:World,WyE w0 b D (y::(k.N++(z::(l.N++B)))) W->Cp 170 #[.pointer b,.int .i64 6,.string ⟨#[32,42,32]⟩] W fun e M=>e=.returned (.tuple #[])/\WyE w0 b (D++(brx 1 (q0k y k.R)++32::42::32::brx 2 (q0k z l.R))) B M):=fun W H=>by
   refine(C.o ⟨#[32,42,32]⟩ rfl W (by show D.length+(brx 1 _).length+(brx 2 _).length+3<=500000;omega) H).mono ?_;rintro e M⟨rfl,V⟩;refine⟨rfl,?_⟩;have S:brx 1 (q0k y k.R)++32::42::32::brx 2 (q0k z l.R)=brx ((6:Int)-5).toNat (q0k y k.R)++btL ⟨#[32,42,32]⟩++brx (((6:Int)-5).toNat+1) (q0k z l.R):=by simp;rfl
   rw[S];exact V
  clear C E;go_in;go_wp2_with fail;refine O.o.mono ?_;rintro e I⟨rfl,X,Y,J⟩;have P:Hid (∀W:World,Below I I W->WyE w0 b D (y::(k.N++(z::(l.N++B)))) W):=fun W hb=>⟨_,_,J.grew hb⟩
  clear J O;go_wp2_with fail;refine(G.o _ (P.o _ (q1w I _))).mono ?_;rintro e Z⟨rfl,U⟩;go_wp2
  go_end0
  exact⟨rfl,U⟩
theorem k1c{w0:World}{b:Nat}(ht:k1h w0):∀F:Fo,F.ok->F.exs->y6h w0 b F
 | .nil,_,_=>trivial
 | .cons x k n,hok,hex=>by
  have hk:y6h w0 b k:=k1c ht k hok.2.1 fun y hy=>hex y (by simp[Fo.N,hy])
  have hn:y6h w0 b n:=k1c ht n hok.2.2 fun y hy=>hex y (by simp[Fo.N,hy])
  refine⟨?_,hn⟩;have hx:=hex x (by simp[Fo.N]);have hkl:=hok.1;obtain⟨op,tx,m⟩:=x;rcases q2c hx with⟨e1,e2,e3,e4,e5⟩|⟨e1,e2,e3,e5⟩|⟨e1,e2,e3,e4,e5⟩|⟨e1,e2,e3,e4,e5⟩|⟨e1,e2,e3,e5⟩|⟨e1,e2,e3,e5⟩
  ·rw[e5]at hkl;cases k with
   | cons=>simp[Fo.len]at hkl
   | nil=>
    dsimp only at e1 e3 e4;subst e1;exact v9a ht m e3 e4 tx
  ·rw[e5]at hkl;cases k with
   | cons=>simp[Fo.len]at hkl
   | nil=>
    dsimp only at e1;subst e1;exact v3i tx m
  ·rw[e5]at hkl;dsimp only at e1 e3 e4 hkl;subst e1
   have:m=(k.len:Int):=by omega
   subst this;exact v3g tx (k4q hk (by omega) 40 41)
  ·rw[e5]at hkl;dsimp only at e1 e3 e4 hkl;subst e1
   have:m=(k.len:Int):=by omega
   subst this;exact v3h tx (k4q hk (by omega) 91 93)
  all_goals
   rw[e5]at hkl;dsimp only at e1;cases k with
   | nil=>simp[Fo.len]at hkl
   | cons y ky r=>
    cases r with
    | nil=>simp[Fo.len]at hkl
    | cons z kz r2=>
     cases r2 with
     | cons=>simp[Fo.len]at hkl
     | nil=>exact v9b hk.1 hk.2.1 op (by omega) tx m
theorem v3l{w0:World}{b:Nat}(bs:List UInt8)(rest:List Td)(w:World)(tx:ByteArray)(hl:bs.length+tx.size<=400000)(hW:WyE w0 b bs rest w):
  Calls prog 135 #[.pointer b,.string tx] w fun e w'=>e=.returned (.tuple #[])/\WyE w0 b (bs++(if tx.size=0 then [35]else [35,32]++btL tx)) rest w':=by
 have J:Hid (Cp 96 #[.pointer b,.int .u8 35] w fun e w'=>e=.returned .nilIface/\WyE w0 b (bs++[35]) rest w'):=by
  obtain⟨A,c,h⟩:=hW;refine(q8p h 35 (by omega)).mono ?_;rintro e w'⟨rfl,P⟩;exact⟨rfl,_,_,P⟩
 by_cases B:tx.size=0
 ·rw[if_pos B]
  have H:tx=⟨#[]⟩:=by
   apply ByteArray.ext;apply Array.toList_inj.1;exact z1i.1 B
  subst H;clear hW hl B;go_in;go_wp2_with fail;refine J.o.mono ?_;rintro e V⟨rfl,D⟩;have G:=hid D;clear D;go_wp2
  go_end0
  exact⟨rfl,G.o⟩
 ·rw[if_neg B]
  have E:(tx.toList==[])=false:=by
   rw[Lib.toList_data];cases U:tx.data.toList with
   | nil=>exact absurd (z1i.2 U) B
   | cons=>rfl
  have L:¬tx.toList=[]:=by
   intro e;rw[e]at E;cases E
  have Q:(⟨#[]⟩:ByteArray).toList=[]:=by rw[Lib.toList_data]
  have R:¬9223372036854775807<1+tx.size:=by omega
  have I:(⟨#[32]⟩:ByteArray).size=1:=rfl
  have C:∀S:ByteArray,S.size<=1000000->btL S=32::btL tx->∀W,WyE w0 b (bs++[35]) rest W->Calls prog 33 #[.pointer b,.string S] W fun e w'=>(∃z,e=.returned (.tuple #[z,.nilIface]))/\WyE w0 b (bs++([35,32]++btL tx)) rest w':=fun S hS1 hS2 W hW=>by
   obtain⟨A,c,h⟩:=hW;refine(q5r h S (by simp only[length_append,length_cons,length_nil];omega) hS1).mono ?_;rintro e w'⟨rfl,h,_⟩;refine⟨⟨_,rfl⟩,A,c,?_⟩;rw[hS2]at h;have O:bs++([35,32]++btL tx)=bs++[35]++32::btL tx:=by simp
   rw[O];exact h
  have M:=hid (C (⟨#[32]⟩++tx) (by rw[ByteArray.size_append,I];omega) (by simp[btL]));clear C;clear hW B hl;go_in;go_wp2_with fail;refine J.o.mono ?_;rintro e V⟨rfl,D⟩;have G:=hid D;clear D;go_wp2_with fail;refine(M.o _ G.o).mono ?_;rintro e X⟨⟨q,rfl⟩,K⟩;have N:=hid K;clear K;go_wp2
  go_end0
  exact⟨rfl,N.o⟩
theorem v3r{w0:World}{b:Nat}(ht:k1h w0)(bs:List UInt8)(ds:List Td)(hf:q0b ds=0)(w:World)(hl:bs.length<=200000)(hW:WyE w0 b bs ds w):
  Calls prog 95 #[.pointer b] w fun e w'=>e=.returned (.tuple #[])/\WyE w0 b (bs++q2p ds) [] w':=by
 have C:=j0e hf;rcases q5y hf with⟨⟨op,B,n⟩,rfl,h9,h0,a⟩|⟨x,F,rfl,O,Y,E,d⟩
 ·dsimp only at h9 h0 a;subst h9;have H:q2p [⟨9,B,n⟩]=if B.size=0 then [35]else [35,32]++btL B:=rfl
  have Ac:=z4c a;rw[H]at C⊢;obtain⟨A,c,h⟩:=hW;have L:=hid (q5q h);have u:Hid (∀W,WyE w0 b bs [] W->Cp 135 #[.pointer b,.string B] W fun e w'=>e=.returned (.tuple #[])/\WyE w0 b (bs++(if B.size=0 then [35]else [35,32]++btL B)) [] w'):=fun W hW=>v3l bs [] W B (by omega) hW
  generalize(if B.size=0 then [35]else [35,32]++btL B)=X at u⊢
  clear h H C hf;go_in;go_wp2_with fail;refine L.o.mono ?_;rintro e J⟨rfl,s,v,E⟩;have j:Hid (∀W:World,Below J J W->WyE w0 b bs [] W):=fun W hb=>⟨_,_,E.grew hb⟩
  clear E L;go_wp2_with fail;refine(u.o _ (j.o _ (q1w J _))).mono ?_;rintro e w3⟨rfl,Q⟩;have l:=hid Q;clear Q;go_wp2;refine bodyPost_ret (results_none rfl _ _ _) rfl ?_;exact⟨rfl,l.o⟩
 ·obtain⟨y,k,rfl⟩:=j7h E;have hX:ExC w0 b y k:=(k1c ht _ O Y).1
  have Z:(Fo.cons y k .nil).len=kdT x:=by
   rw[E];rcases d with⟨e,_⟩|⟨e,_⟩<;>(unfold kdT;rw[e];rfl)
  have H:=(z5r O Z).1;have M:(Fo.cons y k .nil).N=y::k.N:=by simp[Fo.N]
  have f:hdT (Fo.cons y k .nil).R=q2z y k.R:=rfl;rw[H]at C⊢;rw[M]at hW;obtain⟨A,c,h⟩:=hW
  have i:Hid (∀bs' W,bs'.length+(q2z y k.R).length<=500000->WyE w0 b bs' (y::k.N) W->Cp 136 #[.pointer b] W fun e w'=>e=.returned (.tuple #[])/\WyE w0 b (bs'++q2z y k.R) [] w'):=fun bs' W hb hW=>by
   refine hX bs' [] W hb ?_;rw[append_nil];exact hW
  have g:Hid (∀bs' W,bs'.length<=500000->WyE w0 b bs' [] W->Cp 96 #[.pointer b,.int .u8 59] W fun e w'=>e=.returned .nilIface/\WyE w0 b (bs'++[59]) [] w'):=fun bs' W hb hW=>by
   obtain⟨A,c,h⟩:=hW;refine(q8p h 59 (by omega)).mono ?_;rintro e w'⟨rfl,E⟩;exact⟨rfl,_,_,E⟩
  clear hX H Z O Y hf;obtain⟨op,B,n⟩:=x;have L:=hid (q5q h);clear h;rcases d with⟨e,K,_⟩|⟨e,_,_⟩
  ·dsimp only at e K;subst e
   have Ad:B.size<=8:=by
    simp only[q0o,Bool.and_eq_true,decide_eq_true_eq]at K;exact K.1.1.2
   have I:stX ⟨7,B,n⟩ (Fo.cons y k .nil).R=[108,101,116,32]++btL B++[32,61,32]++q2z y k.R++[59]:=rfl;rw[I]at C⊢;simp only[length_append,length_cons,length_nil]at C;have p:(⟨#[108,101,116,32]⟩:ByteArray).size=4:=rfl;have q:(⟨#[32,61,32]⟩:ByteArray).size=3:=rfl;have Aa:¬9223372036854775807<4+B.size:=by omega
   have Ab:¬9223372036854775807<4+B.size+3:=by omega
   have r:=q0c B;go_in;go_wp2_with fail;refine L.o.mono ?_;rintro e J⟨rfl,s,v,E⟩
   have P:∀S:ByteArray,S.size<=100->btL S=[108,101,116,32]++btL B++[32,61,32]->∀W:World,Below J J W->Calls prog 33 #[.pointer b,.string S] W fun e w'=>(∃z,e=.returned (.tuple #[z,.nilIface]))/\WyE w0 b (bs++([108,101,116,32]++btL B++[32,61,32])) (y::k.N) w':=fun S hS1 hS2 W hb=>by
    refine(q5r (E.grew hb) S (by omega) (by omega)).mono ?_;rintro e w'⟨rfl,h,_⟩;rw[hS2]at h;exact⟨⟨_,rfl⟩,_,_,h⟩
   have t:=hid (P (⟨#[108,101,116,32]⟩++B++⟨#[32,61,32]⟩) (by rw[ByteArray.size_append,ByteArray.size_append,p,q];omega) (by simp[btL]));clear P;have D:Hid (∀W,WyE w0 b (bs++([108,101,116,32]++btL B++[32,61,32])) (y::k.N) W->Cp 136 #[.pointer b] W fun e w'=>e=.returned (.tuple #[])/\WyE w0 b (bs++([108,101,116,32]++btL B++[32,61,32])++q2z y k.R) [] w'):=fun W hW=>i.o _ W (by simp only[length_append,length_cons,length_nil];omega) hW
   have G:Hid (∀W,WyE w0 b (bs++([108,101,116,32]++btL B++[32,61,32])++q2z y k.R) [] W->Cp 96 #[.pointer b,.int .u8 59] W fun e w'=>e=.returned .nilIface/\WyE w0 b (bs++([108,101,116,32]++btL B++[32,61,32]++q2z y k.R++[59])) [] w'):=fun W hW=>by
    refine(g.o _ W (by simp only[length_append,length_cons,length_nil];omega) hW).mono ?_;rintro e w'⟨rfl,h⟩;refine⟨rfl,?_⟩;simp only[append_assoc]at h⊢;exact h
   clear E L i g
   generalize(bs++([108,101,116,32]++btL B++[32,61,32])++q2z y k.R)=P2 at D G
   generalize(bs++([108,101,116,32]++btL B++[32,61,32]))=P1 at t D
   clear I f M C r K;go_wp2_with fail
   go_region_with (go_at_call 33;refine(t.o _ (z3s J _)).mono ?_;rintro e w3⟨⟨z,rfl⟩,Q⟩)
   all_goals
    have l:=hid Q;clear Q;go_wp2_with fail;refine(D.o _ l.o).mono ?_;rintro e w4⟨rfl,U⟩;have m:=hid U;clear U;go_wp2_with fail;refine(G.o _ m.o).mono ?_;rintro e w5⟨rfl,V⟩;have o:=hid V;clear V;go_wp2
    go_end0
    exact⟨rfl,o.o⟩
  ·dsimp only at e;subst e;have I:stX ⟨8,B,n⟩ (Fo.cons y k .nil).R=q2z y k.R++[59]:=rfl;rw[I]at C⊢;simp only[length_append,length_cons,length_nil]at C;have D:Hid (∀W,WyE w0 b bs (y::k.N) W->Cp 136 #[.pointer b] W fun e w'=>e=.returned (.tuple #[])/\WyE w0 b (bs++q2z y k.R) [] w'):=fun W hW=>i.o _ W (by omega) hW
   have G:Hid (∀W,WyE w0 b (bs++q2z y k.R) [] W->Cp 96 #[.pointer b,.int .u8 59] W fun e w'=>e=.returned .nilIface/\WyE w0 b (bs++(q2z y k.R++[59])) [] w'):=fun W hW=>by
    refine(g.o _ W (by simp only[length_append];omega) hW).mono ?_;rintro e w'⟨rfl,h⟩;refine⟨rfl,?_⟩;rw[append_assoc]at h;exact h
   clear i g;generalize bs++q2z y k.R=P1 at D G;clear I f M C;go_in;go_wp2_with fail;refine L.o.mono ?_;rintro e J⟨rfl,s,v,E⟩;have j:Hid (∀W:World,Below J J W->WyE w0 b bs (y::k.N) W):=fun W hb=>⟨_,_,E.grew hb⟩
   clear E L;go_wp2_with fail;refine(D.o _ (j.o _ (q1w J _))).mono ?_;rintro e w4⟨rfl,U⟩;have m:=hid U;clear U;go_wp2_with fail;refine(G.o _ m.o).mono ?_;rintro e w5⟨rfl,V⟩;have o:=hid V;clear V;go_wp2
   go_end0
   exact⟨rfl,o.o⟩
structure g1l(w0:World)(b:Nat)(ps:List (List Td))(i:Nat)(w:World):Prop where
 le:i<=ps.length
 w:WyE w0 b (q2w (ps.take i)) [] w
theorem j2r{ps:List (List Td)}{i:Nat}(h:i<ps.length):q2w (ps.take (i+1))=q2w (ps.take i)++q2p ps[i]++[10]:=by
 rw[List.take_succ_eq_append_getElem h,j2q];simp
theorem v7r{ps:List (List Td)}(hP:∀t∈ps,q0b t=0)(hl:ps.length<=20)(i:Nat):(q2w (ps.take i)).length<=50000:=by
 have A:=v1f (ps.take i) fun t ht=>hP t (List.mem_of_mem_take ht)
 have B:(ps.take i).length<=ps.length:=by rw[length_take];omega
 omega
theorem k4h(ps:List (List Td))(a:Option Addr)(cap:Nat)(w:World)(hc:ps.length<=cap)(hP:Prg w a ps)(m:∀t∈ps,z8j t)(ht:k1h w):Cb 70 #[.slice a ps.length cap] w (.tuple #[.string (y6q ps),q2m (q0z ps).2]):=by
 unfold Cb;have C:Hid (Cb 50 #[.slice a ps.length cap] w (.tuple #[((q0z ps).1:Int),q2m (q0z ps).2])):=k4j ps a cap w hc hP m;by_cases H:(q0z ps).2=0
 ·obtain⟨b,h2⟩:=k0i H;have N:=k0b ps 0 h2;have G:Hid (∀t∈ps,q0b t=0):=N;have U:=(show Hid (∀i,(q2w (ps.take i)).length<=50000)from v7r N b);rw[v1h H];rw[H]at C⊢;have o:Hid (Prg w a ps):=hP;have r:Hid (k1h w):=ht
  generalize(q0z ps).1=K at C
  go_in;go_wp2_with fail;refine C.o.mono ?_;rintro e B⟨rfl,D⟩;rw[q1n];have S:Hid (Prg B a ps):=o.o.W D;have V:Hid (k1h B):=r.o.W D;have P:=hid D;have Y:Hid (g1l B B.heap.size ps 0 (B.alloc (.cells #[.pointer none,.slice none 0 0,.slice none 0 0] 191))):=⟨by omega,none,0,IsX.fresh 191 B [.slice none 0 0],le_refl _,Tds.nil _ _,q1w B _,le_refl _⟩;clear D C o r;go_wp2_with fail
  go_loopw [19] (fun x wr=>∃i:Nat,x=(i:Int)/\g1l B B.heap.size ps i wr) (fun x _=>ps.length-(intOf x).toNat)
  case atStart=>exact⟨0,rfl,Y.o⟩
  case round=>
   obtain⟨i,rfl,Aa,J⟩:=hrel;have k:=U.o i;by_cases M:i<ps.length
   ·have g:(i:Int)<(ps.length:Int):=by omega
    obtain⟨b0,o0,O,Z,rfl,j,u,L,I⟩:=S.o i M;obtain⟨A,c,h⟩:=J;obtain⟨s,_⟩:=q0s h.bl;have e0:wr.cell? (b0,o0+i)=some (.slice O ps[i].length Z):=(s _ _ j).trans u;have cR:wr.cell? (B.heap.size,2)=some (.slice A ([]:List Td).length c):=h.x.cellR 0;have fR:wr.frozen? (B.heap.size,2)=false:=h.x.frozen 2;have hz:=h.bl.size
    have q:Hid (Cp 95 #[.pointer B.heap.size] (wr.setCell (B.heap.size,2) (.slice O ps[i].length Z)) fun e w'=>e=.returned (.tuple #[])/\WyE B B.heap.size (q2w (ps.take i)++q2p ps[i]) [] w'):=by
     refine v3r V.o _ ps[i] (G.o _ (getElem_mem M)) _ (by omega) ⟨O,Z,h.x.stored 0 _,L,I,h.bl.setCell (p:=(B.heap.size,2)) Zl _,le_refl _⟩
    have l:=j0e (G.o _ (getElem_mem M))
    have y:Hid (∀W,WyE B B.heap.size (q2w (ps.take i)++q2p ps[i]) [] W->Cp 96 #[.pointer B.heap.size,.int .u8 10] W fun e w'=>e=.returned .nilIface/\g1l B B.heap.size ps (i+1) w'):=fun W J=>by
     obtain⟨A,c,h⟩:=J;refine(q8p h 10 (by rw[length_append];omega)).mono ?_;rintro e w'⟨rfl,b⟩;exact⟨rfl,M,A,c,by rw[j2r M];exact b⟩
    clear h u I s l k L;generalize ps[i].length=pn at e0 q;go_wp2_with fail;refine q.o.mono ?_;rintro e w3⟨rfl,h3⟩;have z:=hid h3;go_wp2_with fail;refine(y.o _ z.o).mono ?_;rintro e w4⟨rfl,h4⟩;have K4:=hid h4;go_wp2;refine⟨⟨i+1,by go_num,K4.o⟩,?_⟩;simp[intOf];omega
   ·have g:¬(i:Int)<(ps.length:Int):=by omega
    have f:ps.take i=ps:=List.take_of_length_le (by omega);rw[f]at J;obtain⟨A,c,h⟩:=J;have n:Hid (Cp 34 #[.pointer B.heap.size] wr fun e w'=>e=.returned (.string (wbS (q2w ps)))/\Below B wr w'):=k1d _ _ _ _ _ _ h.x;have Q:Hid (Below B B wr):=h.bl;generalize d:wbS (q2w ps)=T at n;have X:Hid (wbS (q2w ps)=T):=d;go_wp2_with fail;refine n.o.mono ?_;rintro e w3⟨rfl,b3⟩;have v:=hid (q0e P.o Zl (Q.o.trans b3));go_wp2;go_ret2;exact⟨by rw[X.o];rfl,v.o⟩
 ·rw[y5e H];have R:Hid (q2m (q0z ps).2=.iface 24 ((q0z ps).2)):=q0q H
  generalize(q0z ps).2=E at C R⊢
  generalize(q0z ps).1=K at C
  go_in;go_wp2_with fail;refine C.o.mono ?_;rintro e B⟨rfl,D⟩;rw[R.o];go_wp2;go_ret2;exact⟨by rw[R.o];rfl,D⟩
theorem k0s(ps:List (List Td))(a:Option Addr)(cap:Nat)(w:World)(hc:ps.length<=cap)(hP:Prg w a ps)(hsz:∀t∈ps,z8j t)(ht:z2c w):Calls prog 70 #[.slice a ps.length cap] w fun e w'=>e=.returned (.tuple #[.string (y6q ps),q2m (q0z ps).2])/\Below w w w':=
 k4h ps a cap w hc hP hsz ht.pow
structure k1f(wd:Nat)(ws:List ByteArray)(bL k:Nat)(w:World):Prop where
 rl:k1g w bL (ws.length+1)
 cl:∀j,k<=j->j<=ws.length->w.cell? ⟨bL,j,none⟩=some (.int .i64 ((best wd (ws.drop j):Nat):Int))
theorem k1f.kept{wd:Nat}{ws:List ByteArray}{bL k:Nat}{w w':World}(h:k1f wd ws bL k w)(h1:w'.heap[bL]?=w.heap[bL]?):k1f wd ws bL k w' where
 rl:=h.rl.kept h1
 cl:=fun j a b=>(World.cell?_of_block (w:=w) (a:=⟨bL,j,none⟩) h1).trans (h.cl j a b)
theorem k1f.made(wd:Nat)(ws:List ByteArray)(w:World):k1f wd ws w.heap.size ws.length (w.alloc (.cells (madeCells #[.int .i64 0] (ws.length+1)) 3)):=by
 have A:(w.alloc (.cells (madeCells #[.int .i64 0] (ws.length+1)) 3)).heap[w.heap.size]?=some (.cells (madeCells #[.int .i64 0] (ws.length+1)) 3 (0,0)):=heap_alloc_new w _;refine⟨⟨_,_,A,size_madeCells _ _⟩,fun j a b=>?_⟩;obtain rfl:j=ws.length:=by omega
 have:best wd (ws.drop ws.length)=0:=by rw[List.drop_length];rfl
 rw[this];simp only[World.cell?,A];exact k3f _ (by omega)
def v4e(g:Nat->Nat)(m:Nat):Int:=if m=0 then -1 else(q9p g m:Int)
structure k4y(wd:Nat)(ws:List ByteArray)(bL i m:Nat)(w:World):Prop where
 l:k1f wd ws bL (i+1) w
 c:w.cell? ⟨bL,i,none⟩=some (.int .i64 (v4e (fOf wd (ws.drop i)) m))
theorem k4y.set{wd:Nat}{ws:List ByteArray}{bL i m:Nat}{w:World}{z:Int}(h:k1f wd ws bL (i+1) w)(hi:i<ws.length)(hz:z=v4e (fOf wd (ws.drop i)) m):k4y wd ws bL i m (w.setCell (bL,i) z):=by
 obtain⟨B,A⟩:=h.rl.cell (i:=i) (by omega);refine⟨⟨h.rl.set,fun j a b=>(cso (.inr (by omega))).trans (h.cl j a b)⟩,?_⟩;rw[hz];exact css A
theorem k4y.kept{wd:Nat}{ws:List ByteArray}{bL i m:Nat}{w w':World}(h:k4y wd ws bL i m w)(h1:w'.heap[bL]?=w.heap[bL]?):k4y wd ws bL i m w' where
 l:=h.l.kept h1
 c:=(World.cell?_of_block (w:=w) (a:=⟨bL,i,none⟩) h1).trans h.c
theorem k4y.done{wd:Nat}{ws:List ByteArray}{bL i m:Nat}{w:World}(h:k4y wd ws bL i m w)(hi:i<ws.length)(hm:m=ws.length-i):k1f wd ws bL i w:=by
 have A:ws.drop i≠[]:=fun e=>by
  have:=congrArg length e
  rw[length_drop,length_nil]at this;omega
 have B:=h.c;refine⟨h.l.rl,fun j a b=>?_⟩;by_cases e:j=i
 ·subst e;rw[z4k wd A,length_drop,<-hm];rw[v4e,if_neg (by omega)]at B;exact B
 ·exact h.l.cl j (by omega) b
theorem k9g{g:Nat->Nat}{q:Nat}(hq:1<=q)(h:q=1\/g q<q9p g (q-1)):((g q:Nat):Int)=v4e g (q+1-1):=by
 obtain⟨m,rfl⟩:∃m,q=m+1:=⟨q-1,by omega⟩;simp only[Nat.add_sub_cancel]at h⊢;rw[v4e,if_neg (by omega),j8x,if_pos (by omega)]
theorem j8v{g:Nat->Nat}{q:Nat}(hq:1<=q)(h1:¬q=1)(h:¬g q<q9p g (q-1)):v4e g (q-1)=v4e g (q+1-1):=by
 obtain⟨m,rfl⟩:∃m,q=m+1:=⟨q-1,by omega⟩;simp only[Nat.add_sub_cancel]at h h1⊢;rw[v4e,if_neg (by omega),v4e,if_neg (by omega),j8x,if_neg (by omega)]
theorem y9c{ws:List ByteArray}{b0 o0 wd:Nat}{w wr:World}(hW:Wds w (some ↑(b0,o0)) ws)(hF:Few ws)(hw:wd<=100)(hb:Below w w wr)(i q c n:Nat)(h1:1<=q)(h2:i+q<=ws.length):
  Calls prog 59 #[.slice (some ↑(b0,o0+i)) q c,wd,.bool ((i:Int)+(q:Int)==(ws.length:Int))] (wr.drewN n) fun e w'=>e=.returned (.int .i64 (bd (ln ((ws.drop i).take q)) wd (q==ws.length-i)))/\w'=wr.drewN n:=by
 rw[y8b h2];exact(y5g q _ (k9h h1 h2).1 _ c wd _ _ ((hF.drop i).take q) hw (Wds.W ((z3r.drop hW i).take q) (q0f hb n))).mono fun _ _ h=>⟨h.1,h.2.symm⟩
theorem y9d{ws:List ByteArray}{b0 o0:Nat}{w wr:World}(hW:Wds w (some ↑(b0,o0)) ws)(hF:Few ws)(hb:Below w w wr)(i q c:Nat)(h1:1<=q)(h2:i+q<=ws.length):
  Cw 60 #[.slice (some ↑(b0,o0+i)) q c] wr (.string (jnS ((ws.drop i).take q))):=by
 unfold Cw;have:=q7g ((ws.drop i).take q) (some ↑(b0,o0+i)) c wr ((hF.drop i).take q) (Wds.W ((z3r.drop hW i).take q) hb)
 rw[(k9h h1 h2).1]at this;exact this
structure y6u(wd:Nat)(ws:List ByteArray)(w w1:World)(k:Nat)(done:List ByteArray)(L:Option Addr)(lc:Nat)(wx:World):Prop where
 b:Below (w.heap.size+1) w1 wx
 le:k<=ws.length
 dl:done.length<=k
 ro:q2i (w.heap.size+1) (.slice L done.length lc) done wx
 li:q1v wd ws=done++q1v wd (ws.drop k)
theorem j1q(ws:List ByteArray)(a:Option Addr)(cap wd:Nat)(w:World)(hc:ws.length<=cap)(hF:Few ws)(hw:wd<=100)(hW:Wds w a ws):
  Calls prog 36 #[.slice a ws.length cap,.int .i64 wd] w fun e w'=>(∃L c,e=.returned (.slice L (q1v wd ws).length c)/\q2i w (.slice L (q1v wd ws).length c) (q1v wd ws) w')/\Below w w w':=by
 have hl:=hF.1;have HW:Hid (Wds w a ws):=hW;have x:Hid (Few ws):=hF
 have Be:∀W:World,(Instr.makeSlice 63 (.int .i64 ((ws.length:Int)+1)) (.int .i64 ((ws.length:Int)+1))).run prog W=.ok (.slice (some ⟨W,0,none⟩) (ws.length+1) (ws.length+1)) (W.alloc (.cells (madeCells #[.int .i64 0] (ws.length+1)) 3)):=fun W=>by
  have:=run_make_row' 63 3 _ 8 Tryz.underlying63 z3f rfl .i64 .i64 (ws.length+1) (by omega) (by omega) W
  have e:((ws.length+1:Nat):Int)=(ws.length:Int)+1:=by omega
  rw[e]at this;exact this
 have HM:Hid (k1f wd ws w.heap.size ws.length (w.alloc (.cells (madeCells #[.int .i64 0] (ws.length+1)) 3))):=k1f.made wd ws w;go_in;go_wp2
 go_loopw [7] (fun i wr=>Below w w wr/\∃k:Nat,k<=ws.length/\i=.int .i64 ((k:Int)-1)/\k1f wd ws w.heap.size k wr) (fun i _=>(intOf i+1).toNat)
 case atStart=>exact⟨(Below.refl _ w).alloc Zl _,ws.length,le_refl _,by go_num,HM.o⟩
 case round=>
  obtain⟨hb,k,hk,rfl,hL⟩:=hrel;have HB:Hid (Below w w wr):=hb;have Z:Hid (k1f wd ws w.heap.size k wr):=hL;by_cases Ak:k=0
  ·subst Ak;have A9:¬((0:Int)<=((0:Nat):Int)-1):=by omega
   have Ap:w.heap.size+1<=wr.heap.size:=Z.o.rl.lt;generalize wr=w1 at HB Z Ap;go_wp2
   go_loopw [10,11] (fun l i wx=>∃(k:Nat)(A:List ByteArray)(L:Option Addr)(t:Nat),i=.int .i64 (k:Int)/\l=.slice L A.length t/\y6u wd ws w w1 k A L t wx) (fun _ i _=>ws.length-(intOf i).toNat)
   case atStart=>exact⟨0,[],none,0,rfl,rfl,{b:=Below.refl _ _,le:=zero_le _,dl:=le_refl _,ro:=World.ownsRow_nil _ _ _ _,li:=rfl}⟩
   case round=>
    obtain⟨k,A,L,t,rfl,rfl,hO⟩:=hrel;have D:Hid (y6u wd ws w w1 k A L t wr):=hO;have Bc:=hO.le;have Bd:=hO.dl;have f:=hO.b;have Ar:Hid (k1f wd ws w.heap.size 0 wr):=Z.o.kept (f.block _ (by omega));have Aa:Hid (Below w w wr):=HB.o.trans (f.mono (by omega));have Bf:=f.size;by_cases o:k<ws.length
    ·have S:(k:Int)<(ws.length:Int):=by omega
     obtain⟨y,o0,ea,Av⟩:=HW.o.some (show 0<ws.length by omega);subst ea
     have Q:ws.drop k≠[]:=fun e=>by
      have:=congrArg length e
      rw[length_drop,length_nil]at this;omega
     obtain⟨Aw,g⟩:=z2d wd Q;rw[length_drop]at g;have Ah:=j4r (fOf wd (ws.drop k)) (ws.drop k).length (by rw[length_drop];omega);rw[<-z4k wd Q]at Ah;have X:Hid (fOf wd (ws.drop k) (agF wd (ws.drop k))=best wd (ws.drop k)):=Ah
     have E:Hid (∀q,agF wd (ws.drop k)<q->q<=ws.length-k->fOf wd (ws.drop k) q≠best wd (ws.drop k)):=fun q h1 h2=>by
      rw[z4k wd Q];exact k1n _ _ q h1 (by rw[length_drop];exact h2) (by omega)
     have Y:Hid (q1v wd ws=(A++[jnS ((ws.drop k).take (agF wd (ws.drop k)))])++q1v wd (ws.drop (k+agF wd (ws.drop k)))):=by
      show q1v wd ws=_;rw[D.o.li,q3x wd Q,List.drop_drop,append_assoc];rfl
     have A2:best wd (ws.drop k)<=1300000:=j5d hw _ _ Zl (x.o.drop k);have Af:Hid (∀W:World,k1f wd ws w.heap.size 0 W->W.cell? ⟨w,k,none⟩=some (.int .i64 ((best wd (ws.drop k):Nat):Int))):=fun W h=>h.cl k (zero_le _) (by omega)
     generalize Ba:agF wd (ws.drop k)=av at X E Y Aw g;generalize best wd (ws.drop k)=tv at X E Af A2;go_wp2
     go_loopw [12] (fun v wy=>∃m q:Nat,wy=wr.drewN m/\av<=q/\q<=ws.length-k/\v=.int .i64 (q:Int)) (fun v _=>(intOf v).toNat)
     case atStart=>exact⟨0,ws.length-k,rfl,g,le_refl _,by congr 1;omega⟩
     case round=>
      rename_i wo _;obtain⟨m,q,P,O,An,rfl⟩:=hrel;have Au:=(show Hid (wr=_)from P)
      have d:Hid (k1f wd ws w.heap.size 0 wr):=by
       show k1f _ _ _ _ _;rw[P];exact Ar.o.kept rfl
      have C:Hid (Below w w wr):=by
       show Below _ _ _;rw[P];exact q0f Aa.o m
      have A1:w.heap.size+1<=wr.heap.size:=d.o.rl.lt
      have Ae:Hid (y6u wd ws w w1 k A L t wr):=by
       show y6u _ _ _ _ _ _ _ _ _;rw[P];exact⟨q0f D.o.b m,D.o.le,D.o.dl,D.o.ro,D.o.li⟩
      clear P;have c1:=Af.o wr d.o;have U:k+q<=ws.length:=by omega
      have A6:(k:Int)+(q:Int)<=(ws.length:Int):=by omega
      have A0:=v1u y o0 ws.length cap k q (by omega) (by omega);have H:wr.cell? ⟨w,k+q,none⟩=some (.int .i64 ((best wd (ws.drop (k+q)):Nat):Int)):=d.o.cl (k+q) (by omega) U
      have B:Hid (∀n,Cp 59 #[.slice (some ⟨y,o0+k,none⟩) q (cap-k),.int .i64 wd,.bool ((k:Int)+(q:Int)==(ws.length:Int))] (wr.drewN n) fun e w'=>e=.returned (.int .i64 (bd (ln ((ws.drop k).take q)) wd (q==ws.length-k)))/\w'=wr.drewN n):=fun n=>
       y9c HW.o x.o hw C.o k q (cap-k) n (by omega) U
      have HJ:Hid (∀n,Cp 60 #[.slice (some ⟨y,o0+k,none⟩) q (cap-k)] (wr.drewN n) fun e w'=>e=.returned (.string (jnS ((ws.drop k).take q)))/\wr.drewN n=w'):=fun n=>
       y9d HW.o x.o (q0f C.o n) k q (cap-k) (by omega) U
      have K:Hid (fOf wd (ws.drop k) q=bd (ln ((ws.drop k).take q)) wd (q==ws.length-k)+best wd (ws.drop (k+q))):=j6p wd ws k q;have I:=j6q hw (x.o.drop k) q;rw[K.o]at I;generalize bd (ln ((ws.drop k).take q)) wd (q==ws.length-k)=bv at B K I;generalize best wd (ws.drop (k+q))=sv at H K I;by_cases R:bv+sv=tv
      ·have Ao:q=av:=by
        rcases lt_or_ge av q with h|h
        ·exact absurd (K.o.trans R) (E.o q h An)
        ·omega
       subst Ao;have Az:((bv:Int)+(sv:Int) != (tv:Int))=false:=by simp;omega
       generalize jnS ((ws.drop k).take q)=s at HJ Y;clear R;go_wp2_with fail
       go_quiet ((go_at_call 59;exact Calls.quiet_of_same (B.o _)))
       go_wp2_with fail;refine(HJ.o nq).mono ?_;rintro e w2⟨rfl,rfl⟩;have Ad:Hid (q2i (w.heap.size+1) (.slice L A.length t) A (wr.drewN nq)):=Ae.o.ro;have Aq:Hid (Below (w.heap.size+1) w1 (wr.drewN nq)):=q0f Ae.o.b nq;obtain⟨i0,Ax,A3,A4,A5⟩:=info_parts z1l;go_wp2_with(at_builtin;refine wpList_append_lies _ rfl _ _ 51 rfl (w.heap.size+1) 9 i0 _ 1 16 Tryz.underlying51 Ax A3 A4 A5 rfl (by decide) _ _ _ rfl (World.ownsRow.alloc (w:=wr.drewN nq) Ad.o _) ⟨wr,0,none⟩ 1 1 [.string s] rfl rfl (cell_one_new (wr.drewN nq) _ _) (by intro u hu;simp at hu;subst hu;rfl) (by decide) (by unfold maxLen;omega) (by omega) (by simp;omega) (wr.heap.size+1) (by simp) ?_);intro g2 M w3 N J Ai Am;have Aj:=(Aq.o.alloc (show w.heap.size+1<=(wr.drewN nq).heap.size from A1) (.cells #[.string s] 9)).grown J (by simp;omega) (fun j hj=>(World.ownsRow.lt Ad.o j hj).1)
       have Ag:q2i (w.heap.size+1) (.slice (some ⟨g2,0,none⟩) (A++[s]).length M) (A++[s]) w3:=by
        show w3.ownsRow _ _ _ _ _ _;rw[q2f,length_append];exact N
       have At:Hid (y6u wd ws w w1 (k+q) (A++[s]) (some ⟨g2,0,none⟩) M w3):=⟨Aj,U,by simp;omega,Ag,Y.o⟩;clear N J Aj Ag Ai Am;go_wp2
       go_roundw
       case rel=>exact⟨k+q,A++[s],some ⟨g2,0,none⟩,M,by go_num,by rw[length_append];rfl,At.o⟩
       case measure=>simp[intOf];omega
      ·have Ao:av<q:=by
        rcases lt_or_ge av q with h|h
        ·exact h
        ·obtain rfl:q=av:=by omega
         exact absurd (K.o.symm.trans X.o) R
       have Az:((bv:Int)+(sv:Int) != (tv:Int))=true:=by simp;omega
       clear R;go_wp2_with fail
       go_quiet ((go_at_call 59;exact Calls.quiet_of_same (B.o _)))
       go_wp2
       go_roundw
       case rel=>exact⟨m+nq,q-1,by rw[Au.o,World.drewN_drewN],by omega,by omega,by congr 1;omega⟩
       case measure=>simp[intOf];omega
    ·have S:¬(k:Int)<(ws.length:Int):=by omega
     have HE:Hid (q1v wd ws=A):=by
      show q1v wd ws=A;rw[D.o.li,List.drop_eq_nil_of_le (by omega),q4h,append_nil]
     go_wp2;go_ret;rw[HE.o];exact⟨⟨L,t,rfl,Joins.ownsRow_le D.o.ro (by omega)⟩,Aa.o⟩
  ·obtain⟨i,rfl⟩:∃i,k=i+1:=⟨k-1,by omega⟩;have S:(((i+1:Nat):Int)-1)=(i:Int):=by omega
   rw[S];have hi:i<ws.length:=by omega
   obtain⟨y1,e1⟩:=Z.o.rl.cell (show i<ws.length+1 by omega);have f1:wr.frozen? ⟨w,i,none⟩=false:=Z.o.rl.frozen;have Bg:w.heap.size<wr.heap.size:=Z.o.rl.lt;have As:Hid (k4y wd ws w.heap.size i 0 (wr.setCell ⟨w,i,none⟩ (.int .i64 (-1)))):=k4y.set Z.o hi rfl;clear S Ak;go_wp2
   go_loopw [8] (fun n wx=>Below w w wx/\∃q:Nat,1<=q/\i+q<=ws.length+1/\n=.int .i64 (q:Int)/\k4y wd ws w.heap.size i (q-1) wx) (fun n _=>(ws.length+1-(intOf n).toNat))
   case atStart=>exact⟨HB.o.setCell (p:=⟨w,i,none⟩) Zl _,1,by omega,by omega,by go_num,As.o⟩
   case round=>
    obtain⟨hb,q,O,An,rfl,hM⟩:=hrel;have C:Hid (Below w w wr):=hb;have G:Hid (k4y wd ws w.heap.size i (q-1) wr):=hM;clear hb hM;by_cases o:i+q<=ws.length
    ·obtain⟨y,o0,ea,Av⟩:=HW.o.some (show 0<ws.length by omega);subst ea;have A7:(i:Int)+(q:Int)<=(ws.length:Int):=by omega
     have A8:(q:Int)<=(ws.length:Int)-(i:Int):=by omega
     have A0:=v1u y o0 ws.length cap i q (by omega) (by omega);have H:wr.cell? ⟨w,i+q,none⟩=some (.int .i64 ((best wd (ws.drop (i+q)):Nat):Int)):=G.o.l.cl (i+q) (by omega) o
     have B:Hid (∀n,Cp 59 #[.slice (some ⟨y,o0+i,none⟩) q (cap-i),.int .i64 wd,.bool ((i:Int)+(q:Int)==(ws.length:Int))] (wr.drewN n) fun e w'=>e=.returned (.int .i64 (bd (ln ((ws.drop i).take q)) wd (q==ws.length-i)))/\w'=wr.drewN n):=fun n=>
      y9c HW.o x.o hw C.o i q (cap-i) n O o
     have D:Hid (fOf wd (ws.drop i) q=bd (ln ((ws.drop i).take q)) wd (q==ws.length-i)+best wd (ws.drop (i+q))):=j6p wd ws i q;have I:=j6q hw (x.o.drop i) q;rw[D.o]at I;generalize bd (ln ((ws.drop i).take q)) wd (q==ws.length-i)=bv at B D I;generalize best wd (ws.drop (i+q))=sv at H D I;have f2:wr.frozen? ⟨w,i,none⟩=false:=G.o.l.rl.frozen;have Ap:w.heap.size<wr.heap.size:=G.o.l.rl.lt;have e2:=G.o.c;have Ab:Hid (k1f wd ws w.heap.size (i+1) wr):=G.o.l;by_cases z:q=1
     ·have HP:Hid (∀nq,k4y wd ws w.heap.size i (q+1-1) ((wr.drewN nq).setCell ⟨w,i,none⟩ (.int .i64 ((bv:Int)+(sv:Int))))):=fun nq=>
       k4y.set (w:=wr.drewN nq) (Ab.o.kept rfl) hi (by rw[<-k9g O (.inl z),D.o];omega)
      have e3:wr.cell? ⟨w,i,none⟩=some (.int .i64 (-1)):=by rw[e2,z];rfl
      clear z e2;go_wp2_with fail
      go_quiet ((go_at_call 59;exact Calls.quiet_of_same (B.o _)))
      go_wp2
      go_roundw
      case rel=>exact⟨(q0f C.o nq).setCell (p:=⟨w,i,none⟩) Zl _,q+1,by omega,by omega,by go_num,HP.o nq⟩
      case measure=>simp[intOf];omega
     ·generalize r:q9p (fOf wd (ws.drop i)) (q-1)=mv;have Ac:Hid (q9p (fOf wd (ws.drop i)) (q-1)=mv):=r;have e3:wr.cell? ⟨w,i,none⟩=some (.int .i64 (mv:Int)):=by rw[e2,v4e,if_neg (by omega),r]
      clear r e2;by_cases V:bv+sv<mv
      ·have HP:Hid (∀nq,k4y wd ws w.heap.size i (q+1-1) ((wr.drewN nq).setCell ⟨w,i,none⟩ (.int .i64 ((bv:Int)+(sv:Int))))):=fun nq=>
        k4y.set (w:=wr.drewN nq) (Ab.o.kept rfl) hi (by rw[<-k9g O (.inr (by rw[Ac.o,D.o];exact V)),D.o];omega)
       have Al:(bv:Int)+(sv:Int)<(mv:Int):=by omega
       have Ay:¬(mv:Int)<0:=by omega
       clear z V;go_wp2_with fail
       go_quiet ((go_at_call 59;exact Calls.quiet_of_same (B.o _)))
       go_wp2
       go_roundw
       case rel=>exact⟨(q0f C.o nq).setCell (p:=⟨w,i,none⟩) Zl _,q+1,by omega,by omega,by go_num,HP.o nq⟩
       case measure=>simp[intOf];omega
      ·have HP:Hid (∀nq,k4y wd ws w.heap.size i (q+1-1) (wr.drewN nq)):=fun nq=>by
        have h1:=G.o.kept (w':=wr.drewN nq) rfl;exact⟨h1.l,by rw[<-j8v O z (by rw[Ac.o,D.o];exact V)];exact h1.c⟩
       have Al:¬(bv:Int)+(sv:Int)<(mv:Int):=by omega
       have Ay:¬(mv:Int)<0:=by omega
       clear z V;go_wp2_with fail
       go_quiet ((go_at_call 59;exact Calls.quiet_of_same (B.o _)))
       go_wp2
       go_roundw
       case rel=>exact⟨q0f C.o nq,q+1,by omega,by omega,by go_num,HP.o nq⟩
       case measure=>simp[intOf];omega
    ·have Bb:¬(q:Int)<=(ws.length:Int)-(i:Int):=by omega
     have HD:Hid (k1f wd ws w.heap.size i wr):=G.o.done hi (by omega);go_wp2
     go_roundw
     case rel=>exact⟨C.o,i,by omega,by go_num,HD.o⟩
     case measure=>simp[intOf]
end Go.Proofs.YtchdplceopegoaaGreatDoor
namespace Go.Proofs.YtchdplceopegoaaGreatDoor
open Go Go.Lib
def ovr(wd:Int)(n:Int):Int:=max (n-wd) 0
def over(wd:Int):List Int->Int
 | []=>0
 | n::r=>ovr wd n+over wd r
def stp(wd:Int)(x:Int × Int × Int)(b:UInt8):Int × Int × Int:=
 if b=10 then(x.1,x.2.1+1,0)else(if wd<x.2.2+1 then x.1+1 else x.1,x.2.1,x.2.2+1)
def stL(wd:Int)(l:List UInt8):Int × Int × Int:=l.foldl (stp wd) (0,0,0)
theorem v8f(wd:Int)(l:List UInt8)(b:UInt8):stL wd (l++[b])=stp wd (stL wd l) b:=by simp[stL]
theorem y9m(wd:Int)(l:List UInt8):∀(x:Int × Int × Int),0<=x.1->0<=x.2.1->0<=x.2.2->
  (0<=(l.foldl (stp wd) x).1/\(l.foldl (stp wd) x).1<=x.1+l.length)/\(0<=(l.foldl (stp wd) x).2.1/\(l.foldl (stp wd) x).2.1<=x.2.1+l.length)/\(0<=(l.foldl (stp wd) x).2.2/\(l.foldl (stp wd) x).2.2<=x.2.2+l.length):=by
 induction l with
 | nil=>intro x D E G;simp;omega
 | cons b r ih=>
  intro x D E G;have e:(b::r).foldl (stp wd) x=r.foldl (stp wd) (stp wd x b):=rfl;rw[e]
  have A:0<=(stp wd x b).1/\(stp wd x b).1<=x.1+1/\0<=(stp wd x b).2.1/\(stp wd x b).2.1<=x.2.1+1/\0<=(stp wd x b).2.2/\(stp wd x b).2.2<=x.2.2+1:=by
   unfold stp;by_cases B:b=10
   ·simp only[B,if_true];omega
   ·simp only[B,if_false];by_cases C:wd<x.2.2+1
    ·simp only[C,if_true];omega
    ·simp only[C,if_false];omega
  have:=ih (stp wd x b) A.1 A.2.2.1 A.2.2.2.2.1
  simp only[length_cons];omega
theorem y9k(wd:Int)(l:List UInt8):(0<=(stL wd l).1/\(stL wd l).1<=l.length)/\(0<=(stL wd l).2.1/\(stL wd l).2.1<=l.length)/\(0<=(stL wd l).2.2/\(stL wd l).2.2<=l.length):=by
 have:=y9m wd l (0,0,0) (by simp) (by simp) (by simp)
 simpa[stL]using this
theorem v2i(s:ByteArray)(k:Nat)(h:k<s.size):s.data.toList.take (k+1)=s.data.toList.take k++[s[k]]:=by
 rw[List.take_succ_eq_append_getElem (by simpa using h)];rfl
end Go.Proofs.YtchdplceopegoaaGreatDoor
namespace Go.Proofs.YtchdplceopegoaaGreatDoor
theorem j6a(wd:Nat):∀(l:List UInt8)(o n:Int)(c:Nat),l.foldl (stp wd) (o,n,(c:Int))=(o+(q3c wd c l).1,n+(q3c wd c l).2.1,((q3c wd c l).2.2:Int))
 | [],o,n,c=>by simp[q3c]
 | b::r,o,n,c=>by
  have e3:(b::r).foldl (stp wd) (o,n,(c:Int))=r.foldl (stp wd) (stp wd (o,n,(c:Int)) b):=rfl;rw[e3];simp only[q3c];by_cases hb:b=10
  ·have e4:stp wd (o,n,(c:Int)) b=(o,n+1,((0:Nat):Int)):=by simp[stp,hb]
   rw[e4,j6a wd r,if_pos hb];simp only[Prod.mk.injEq,and_true,true_and];omega
  ·have e4:stp wd (o,n,(c:Int)) b=(o+(if wd<=c then 1 else 0:Nat),n,((c+1:Nat):Int)):=by
    by_cases h:wd<=c
    ·have A:(wd:Int)<(c:Int)+1:=by omega
     simp[stp,hb,h,A]
    ·have A:¬(wd:Int)<(c:Int)+1:=by omega
     simp[stp,hb,h,A]
   rw[e4,j6a wd r,if_neg hb];simp only[Prod.mk.injEq,and_true];omega
theorem y3b(wd:Nat)(l:List UInt8):stL wd l=(((q3c wd 0 l).1:Int),((q3c wd 0 l).2.1:Int),((q3c wd 0 l).2.2:Int)):=by
 have:=j6a wd l 0 0 0
 simpa[stL]using this
end Go.Proofs.YtchdplceopegoaaGreatDoor
namespace Go.Proofs.YtchdplceopegoaaGreatDoor
open Go Go.RowKit
set_option maxRecDepth 100000
set_option maxHeartbeats 1000000
def k6e(a b:Int × Int):Bool:=if a.1 != b.1 then decide (a.1<b.1)else decide (a.2<b.2)
theorem j2u(a b:Int × Int)(w:World):
  Cb 69 #[.agg #[.int .i64 a.1,.int .i64 a.2],.agg #[.int .i64 b.1,.int .i64 b.2]] w (.bool (k6e a b)):=by
 unfold Cb;by_cases h:a.1=b.1
 ·have A:k6e a b=decide (a.2<b.2):=by simp[k6e,h]
  rw[A];have B:(a.1 != b.1)=false:=by simp[h]
  clear h A;go_in;go_wp2;go_ret;exact⟨rfl,(Zb.alloc Zl _).alloc (by simp) _⟩
 ·have A:k6e a b=decide (a.1<b.1):=by simp[k6e,h]
  rw[A];have B:(a.1 != b.1)=true:=by simp[h]
  clear h A;go_in;go_wp2;go_ret;exact⟨rfl,(Zb.alloc Zl _).alloc (by simp) _⟩
theorem y4d(a b:Nat × Nat):k6e ((a.1:Int),(a.2:Int)) ((b.1:Int),(b.2:Int))=decide (q2x a b):=by
 rw[Bool.eq_iff_iff,decide_eq_true_eq];unfold k6e q2x;dsimp only
 split
 ·rename_i h;have A:(a.1:Int)≠b.1:=bne_iff_ne.1 h;rw[decide_eq_true_eq];omega
 ·rename_i h;have A:(a.1:Int)=b.1:=by simpa using h
  rw[decide_eq_true_eq];omega
theorem v1o(a b:Nat × Nat)(w:World):
  Cb 69 #[.agg #[.int .i64 (a.1:Int),.int .i64 (a.2:Int)],.agg #[.int .i64 (b.1:Int),.int .i64 (b.2:Int)]] w (.bool (decide (q2x a b))):=by
 unfold Cb;have:=j2u ((a.1:Int),(a.2:Int)) ((b.1:Int),(b.2:Int)) w
 rw[y4d]at this;exact this
set_option maxHeartbeats 2000000
theorem g1y{b:UInt8}(h:(((b.toNat:Nat):Int)==10)=true):b=10:=by
 have A:((b.toNat:Nat):Int)=10:=beq_iff_eq.1 h;exact UInt8.toNat_inj.1 (by simpa using(by omega:b.toNat=10))
theorem y8e{b:UInt8}(h:(((b.toNat:Nat):Int)==10)=false):¬b=10:=by
 rintro rfl;simp at h
theorem v1k(s:ByteArray)(wd:Int)(w:World)(hs:s.size<=2000000000):
  Cb 68 #[.string s,wd] w (.agg #[(stL wd s.data.toList).1,(stL wd s.data.toList).2.1]):=by
 unfold Cb;go_in;go_wp2
 go_loopw [6,7] (fun c i wr=>∃k:Nat,k<=s.size/\i=k/\c=(stL wd (s.data.toList.take k)).2.2/\Below w w wr
   /\wr.cell? ↑w.heap.size=some (.int .i64 0)/\wr.cell? ↑(w.heap.size,1)=some (.int .i64 0)/\wr.frozen? ↑w.heap.size=false/\wr.frozen? ↑(w.heap.size,1)=false
   /\wr.cell? ↑(w.heap.size+1)=some (↑(stL wd (s.data.toList.take k)).1)/\wr.cell? ↑(w.heap.size+1,1)=some (↑(stL wd (s.data.toList.take k)).2.1)/\wr.frozen? ↑(w.heap.size+1)=false/\wr.frozen? ↑(w.heap.size+1,1)=false)
  (fun _ i _=>s.size-(intOf i).toNat)
 case atStart=>
  exact⟨0,zero_le _,rfl,rfl,(Zb.alloc Zl _).alloc (by simp) _,by simp[go_sem],by simp[go_sem],by simp[go_sem],by simp[go_sem],by simp[go_sem,stL],by simp[go_sem,stL],by simp[go_sem],by simp[go_sem]⟩
 case round=>
  obtain⟨k,l,rfl,rfl,H,I,J,K,L,E,G,M,N⟩:=hrel;obtain⟨⟨Z,R⟩,⟨b,U⟩,⟨f,V⟩⟩:=y9k wd (s.data.toList.take k);have j:((s.data.toList.take k).length:Int)<=2000000000:=by have:=List.length_take_le k s.data.toList;omega
  generalize W:stL wd (s.data.toList.take k)=S at Z R b U f V E G⊢;have a:S.1<=2000000000:=by omega
  have d:S.2.1<=2000000000:=by omega
  have g:S.2.2<=2000000000:=by omega
  clear R U V j;have Q:Hid (stL wd (s.data.toList.take k)=S):=W;clear W;by_cases P:k<s.size
  ·have C:Hid (stL wd (s.data.toList.take (k+1))=stp wd S s[k]):=by
    have h:=v8f wd (s.data.toList.take k) s[k];rw[<-v2i s k P,Q.o]at h;exact h
   cases X:(((s[k].toNat:Nat):Int)==10)with
   | true=>
    have A:s[k]=10:=g1y X;have B:Hid (stL wd (s.data.toList.take (k+1))=(S.1,S.2.1+1,0)):=by rw[stp,if_pos A]at C;exact C
    clear A C;go_wp2
    go_roundw
    case rel=>
     refine⟨k+1,by omega,by go_num,by rw[B.o],H.setCell (p:=↑(w.heap.size+1,1)) (by simp) _,(cso (by omega)).trans I,(cso (by omega)).trans J,csf.trans K,csf.trans L,?_,?_,csf.trans M,csf.trans N⟩
     ·rw[B.o];exact(cso (by omega)).trans E
     ·rw[B.o];exact css G
    case measure=>simp[intOf];omega
   | false=>
    have A:¬s[k]=10:=y8e X;by_cases Y:wd<S.2.2+1
    ·have B:Hid (stL wd (s.data.toList.take (k+1))=(S.1+1,S.2.1,S.2.2+1)):=by rw[stp,if_neg A,if_pos Y]at C;exact C
     clear A C;go_wp2
     go_roundw
     case rel=>
      refine⟨k+1,by omega,by go_num,by rw[B.o],H.setCell (p:=↑(w.heap.size+1)) (by simp) _,(cso (by omega)).trans I,(cso (by omega)).trans J,csf.trans K,csf.trans L,?_,?_,csf.trans M,csf.trans N⟩
      ·rw[B.o];exact css E
      ·rw[B.o];exact(cso (by omega)).trans G
     case measure=>simp[intOf];omega
    ·have B:Hid (stL wd (s.data.toList.take (k+1))=(S.1,S.2.1,S.2.2+1)):=by rw[stp,if_neg A,if_neg Y]at C;exact C
     clear A C;go_wp2
     go_roundw
     case rel=>
      refine⟨k+1,by omega,by go_num,by rw[B.o],H,I,J,K,L,?_,?_,M,N⟩
      ·rw[B.o];exact E
      ·rw[B.o];exact G
     case measure=>simp[intOf];omega
  ·have D:s.data.toList.take k=s.data.toList:=List.take_of_length_le (by rw[<-Lib.size_eq];omega);have O:=Q.o;rw[D]at O;rw[<-O]at E G;clear O D;go_wp2;exact bodyPost_ret (v:=.agg #[↑(stL wd s.data.toList).1,↑(stL wd s.data.toList).2.1]) (by simp[results,Tryz.results68,go_sem,I,J]) rfl ⟨rfl,(H.setCell (p:=↑w.heap.size) (by simp) _).setCell (p:=↑(w.heap.size,1)) (by simp) _⟩
end Go.Proofs.YtchdplceopegoaaGreatDoor
namespace Go.Proofs.YtchdplceopegoaaGreatDoor
def q3v(l L:List (List Int)):Prop:=l.take 301=L.take 301
theorem q3v.cut(l:List (List Int)):q3v (l.take 301) l:=by
 unfold q3v;rw[List.take_take,Nat.min_self]
theorem q3v.or{l L:List (List Int)}(h:q3v l L):l=L\/(301<=l.length/\301<=L.length):=by
 unfold q3v at h;have B:=congrArg length h;rw[length_take,length_take]at B;by_cases A:301<=l.length
 ·exact .inr ⟨A,by omega⟩
 ·left;rw[List.take_of_length_le (by omega),List.take_of_length_le (by omega)]at h;exact h
theorem q3v.map{l L:List (List Int)}(h:q3v l L)(f:List Int->List Int):q3v (l.map f) (L.map f):=by
 unfold q3v at *;rw[<-List.map_take,<-List.map_take,h]
theorem q3v.app{l L m M:List (List Int)}(h:q3v l L)(k:q3v m M):q3v (l++m) (L++M):=by
 rcases h.or with rfl|⟨A,B⟩
 ·unfold q3v at *;rw[List.take_append,List.take_append]
  congr 1
  have e:∀x:List (List Int),x.take (301-l.length)=(x.take 301).take (301-l.length):=fun x=>by rw[List.take_take];congr 1;omega
  rw[e m,e M,k]
 ·unfold q3v at *;rw[List.take_append_of_le_length A,List.take_append_of_le_length B,h]
theorem q3v.flat{l L:List (List Int)}(h:q3v l L):∀us:List (List Int),q3v (us.flatMap fun u=>l.map (u++·)) (us.flatMap fun u=>L.map (u++·))
 | []=>rfl
 | u::us=>by
  rw[List.flatMap_cons,List.flatMap_cons];exact(h.map _).app (h.flat us)
def Tr.tl:Tr->List (List Int)->List (List Int)
 | .leaf _,bs=>bs
 | .one x a,bs=>if x.op=7 then a.tl bs else((if a.isFlat=true then bs.map (0::·)else [])++(a.tl bs).map (1::·)).take 301
 | .two x a b,bs=>if x.op=6 then a.tl (b.tl bs)else((a.tl bs).map (0::·)++(b.tl bs).map (1::·)).take 301
theorem q9g:∀(t:Tr)(bs:List (List Int)),q3v (t.tl bs) (t.ways.flatMap fun u=>bs.map (u++·))
 | .leaf x,bs=>by simp only[Tr.tl,Tr.ways,List.flatMap_cons,List.flatMap_nil,append_nil];simp[q3v]
 | .one x a,bs=>by
  have ih:=q9g a bs;simp only[Tr.tl,Tr.ways]
  split
  ·exact ih
  ·refine(q3v.cut _).trans ?_;rw[List.flatMap_append];refine q3v.app ?_ ?_
   ·split
    ·simp[q3v]
    ·simp[q3v]
   ·have e:(a.ways.map (1::·)).flatMap (fun u=>bs.map (u++·))=(a.ways.flatMap fun u=>bs.map (u++·)).map (1::·):=by
     rw[flatMap_map,map_flatMap]
     congr 1
     funext u
     rw[map_map];rfl
    rw[e];exact ih.map _
 | .two x a b,bs=>by
  simp only[Tr.tl,Tr.ways]
  split
  ·have e:(a.ways.flatMap fun u=>b.ways.map (u++·)).flatMap (fun u=>bs.map (u++·))=a.ways.flatMap fun u=>(b.ways.flatMap fun v=>bs.map (v++·)).map (u++·):=by
    rw[List.flatMap_assoc]
    congr 1
    funext u
    rw[flatMap_map,map_flatMap]
    congr 1
    funext v
    rw[map_map]
    congr 1
    funext z
    exact append_assoc u v z
   rw[e];exact(q9g a (b.tl bs)).trans ((q9g b bs).flat a.ways)
  ·refine(q3v.cut _).trans ?_
   have A:(a.ways.map (0::·)).flatMap (fun u=>bs.map (u++·))=(a.ways.flatMap fun u=>bs.map (u++·)).map (0::·):=by
    rw[flatMap_map,map_flatMap]
    congr 1
    funext u
    rw[map_map];rfl
   have B:(b.ways.map (1::·)).flatMap (fun u=>bs.map (u++·))=(b.ways.flatMap fun u=>bs.map (u++·)).map (1::·):=by
    rw[flatMap_map,map_flatMap]
    congr 1
    funext u
    rw[map_map];rfl
   rw[List.flatMap_append,A,B];exact((q9g a bs).map _).app ((q9g b bs).map _)
theorem y5w(t:Tr):q3v (t.tl [[]]) t.ways:=by
 have h:=q9g t [[]]
 have e:(t.ways.flatMap fun u=>[[]].map (u++·))=t.ways:=by
  simp
 rw[e]at h;exact h
theorem y9s(t:Tr):(t.ways.length<=300/\t.tl [[]]=t.ways)\/(300<t.ways.length/\300<(t.tl [[]]).length):=by
 rcases(y5w t).or with h|⟨B,C⟩
 ·by_cases A:t.ways.length<=300
  ·exact .inl ⟨A,h⟩
  ·exact .inr ⟨by omega,by rw[h];omega⟩
 ·exact .inr ⟨by omega,by omega⟩
theorem j0j:∀(t:Tr)(bs:List (List Int)),bs.length<=301->(t.tl bs).length<=301
 | .leaf x,bs,h=>h
 | .one x a,bs,h=>by
  simp only[Tr.tl]
  split
  ·exact j0j a bs h
  ·rw[length_take];omega
 | .two x a b,bs,h=>by
  simp only[Tr.tl]
  split
  ·exact j0j a _ (j0j b bs h)
  ·rw[length_take];omega
theorem v2m:∀(t:Tr)(bs:List (List Int))(m:Nat),(∀x∈bs,x.length<=m)->∀x∈t.tl bs,x.length<=m+t.N.length
 | .leaf x,bs,m,h,y,hy=>by have:=h y hy;omega
 | .one x a,bs,m,h,y,hy=>by
  have ih:=v2m a bs m h;simp only[Tr.tl]at hy;simp only[Tr.N,length_cons]
  split at hy
  ·have:=ih y hy;omega
  ·have hy:=List.mem_of_mem_take hy;rcases List.mem_append.1 hy with hy|hy
   ·split at hy
    ·obtain⟨z,hz,rfl⟩:=List.mem_map.1 hy
     have:=h z hz
     simp;omega
    ·simp at hy
   ·obtain⟨z,hz,rfl⟩:=List.mem_map.1 hy
    have:=ih z hz
    simp;omega
 | .two x a b,bs,m,h,y,hy=>by
  have ia:=v2m a bs m h;have ib:=v2m b bs m h;simp only[Tr.tl]at hy;simp only[Tr.N,length_cons,length_append]
  split at hy
  ·have:=v2m a (b.tl bs) _ ib y hy;omega
  ·have hy:=List.mem_of_mem_take hy;rcases List.mem_append.1 hy with hy|hy
   ·obtain⟨z,hz,rfl⟩:=List.mem_map.1 hy
    have:=ia z hz
    simp;omega
   ·obtain⟨z,hz,rfl⟩:=List.mem_map.1 hy
    have:=ib z hz
    simp;omega
end Go.Proofs.YtchdplceopegoaaGreatDoor
namespace Go.Proofs.YtchdplceopegoaaGreatDoor
open Go Go.RowKit
set_option maxRecDepth 100000
theorem j2v(op:Int)(w:World):Cw 167 #[.int .i64 op] w (.int .i64 (pts op)):=by
 unfold Cw;by_cases A:op=6
 ·subst A;go_in;go_wp2;go_ret;exact⟨rfl,rfl⟩
 by_cases D:op=9
 ·subst D;go_in;go_wp2;go_ret;exact⟨rfl,rfl⟩
 by_cases B:op=7
 ·subst B;go_in;go_wp2;go_ret;exact⟨rfl,rfl⟩
 by_cases C:op=8
 ·subst C;go_in;go_wp2;go_ret;exact⟨rfl,rfl⟩
 have e:pts op=0:=by simp[pts,A,B,C,D]
 rw[e];have E:(op==6)=false:=by simp[A]
 have G:(op==7)=false:=by simp[B]
 have H:(op==8)=false:=by simp[C]
 have I:(op==9)=false:=by simp[D]
 clear e A B C D;go_in;go_wp2;go_ret;exact⟨rfl,rfl⟩
def z3n(B:Nat)(w:World)(a:Option Addr)(ds:List Nd):Prop:=
 ∀i(h:i<ds.length),∃b o,a=some ⟨b,o,none⟩/\b<B/\w.cell? ⟨b,o+i*3,none⟩=some (.int .i64 ds[i].op)/\w.cell? ⟨b,o+i*3+1,none⟩=some (.string ds[i].tx)/\w.cell? ⟨b,o+i*3+2,none⟩=some (.int .i64 ds[i].n)
theorem z3n.W{B:Nat}{w w':World}{a:Option Addr}{ds:List Nd}(h:z3n B w a ds)(hb:Below B w w'):z3n B w' a ds:=by
 intro i G;obtain⟨b,o,e,A,C,D,E⟩:=h i G;exact⟨b,o,e,A,(hb.cell (p:=⟨b,_,none⟩) A).trans C,(hb.cell (p:=⟨b,_,none⟩) A).trans D,(hb.cell (p:=⟨b,_,none⟩) A).trans E⟩
theorem z3n.nods{B:Nat}{w:World}{a:Option Addr}{ds:List Nd}(h:z3n B w a ds)(hB:B<=w.heap.size):q2b w a ds:=by
 intro i E;obtain⟨b,o,e,G,A,C,D⟩:=h i E;exact⟨b,o,e,by omega,A,C,D⟩
end Go.Proofs.YtchdplceopegoaaGreatDoor
namespace Go.Proofs.YtchdplceopegoaaGreatDoor
open Go Go.RowKit Go.Extern.Stop Go.Stop Go.Extern
set_option maxRecDepth 100000
set_option maxHeartbeats 4000000
theorem Tryz.valueOfP(t:Addr)(w:World):(ReflectliteValue.unpack (.iface 89 (.pointer (some t)))).run prog w
  =.ok (.agg #[.pointer (some ⟨12,89,none⟩),.pointer (some ⟨w,0,none⟩),.int .u64 150]) (w.alloc (.cells #[.pointer (some t)] 89)):=by kernel_rfl
theorem Tryz.typeP (a : Addr) (w : World) : (ReflectliteValue.methodAny (ReflectliteValue.valueError "reflectlite.Value.Type" 0) (fun t _ _ _ => ReflectliteType.toType t) #[.agg #[.pointer (some ⟨12, 89, none⟩), .pointer (some a), .int .u64 150]]).run prog w
  =.ok (.iface 172 (.agg #[.pointer (some ⟨12,89,none⟩)])) w:=by kernel_rfl
theorem Tryz.methodKind (h : Value) (w : World) : (Go.method 496 172 (.agg #[h]) "Kind").run prog w = .ok (286, h) w := by kernel_rfl
theorem Tryz.kindP(w:World):((ReflectliteType.abiMethod fun t=>(fun a:Nat=>Value.int IntKind.u8 (a:Int)) <$> Rtype.kind t) #[.pointer (some ⟨12,89,none⟩)]).run prog w=.ok (.int .u8 22) w:=by kernel_rfl
theorem Tryz.kindE(w:World):((ReflectliteType.abiMethod fun t=>(fun a:Nat=>Value.int IntKind.u8 (a:Int)) <$> Rtype.kind t) #[.pointer (some ⟨12,24,none⟩)]).run prog w=.ok (.int .u8 2) w:=by kernel_rfl
theorem v1n(z:Sem Value)(f:TypeId->Addr->Nat->Nat->Sem Value)(v:Value):
  ∃K:Option (TypeId × Addr × Nat)->Sem Value,ReflectliteValue.method z f #[v]=(ReflectliteValue.parts v >>=K)/\∀t a fl,K (some (t,a,fl))=f t a fl (fl % 32):=⟨_,rfl,fun _ _ _=>rfl⟩
theorem z1f{P:Program}{z:Sem Value}{f:TypeId->Addr->Nat->Nat->Sem Value}{v:Value}{W:World}{t:TypeId}{a:Addr}{fl:Nat}
  (h:(ReflectliteValue.parts v).run P W=.ok (some (t,a,fl)) W):(ReflectliteValue.method z f #[v]).run P W=(f t a fl (fl % 32)).run P W:=by
 obtain⟨K,e,A⟩:=v1n z f v;rw[e];simp[Sem.run_bind,h,Result.andThen,A]
theorem y9g(v x:Value):
  ∃K:Option (TypeId × Addr × Nat)->Option (TypeId × Addr × Nat)->Sem Value,ReflectliteValue.set #[v,x]=(ReflectliteValue.parts v >>=fun p=>ReflectliteValue.parts x >>=fun q=>K p q)/\
   ∀(P:Program)(W W1:World)(dst src:TypeId)(a b:Addr)(fl g:Nat)(val:Value),(fl / ReflectliteValue.flagAddr % 2==0)=false->(loadVar src b).run P W=.ok val W->(Rtype.directlyAssignable dst src).run P W=.ok true W->
    (storeVar dst a val).run P W=.ok () W1->(K (some (dst,a,fl)) (some (src,b,g))).run P W=.ok (.tuple #[]) W1:=by
 refine⟨_,rfl,?_⟩;intro P W W1 dst src a b fl g val A B C D;simp[A,B,C,D,Sem.run_bind,Result.andThen]
theorem Tryz.partsP(a:Addr)(w:World):(ReflectliteValue.parts (.agg #[.pointer (some ⟨12,89,none⟩),.pointer (some a),.int .u64 150])).run prog w=.ok (some (89,a,150)) w:=by kernel_rfl
theorem Tryz.isNilP(a p:Addr)(W:World)(ha:W.cell? a=some (.pointer (some p))):
  (ReflectliteValue.method (ReflectliteValue.valueError "reflectlite.Value.IsNil" 0) ReflectliteValue.isNil #[.agg #[.pointer (some ⟨12, 89, none⟩), .pointer (some a), .int .u64 150]]).run prog W = .ok (.bool false) W := by
 rw[z1f (Tryz.partsP a W)];simp[ReflectliteValue.isNil,loadVar,isAgg,underlying,Tryz.underlying89,ha,Result.andThen]
theorem Tryz.methodElem (h : Value) (w : World) : (Go.method 496 172 (.agg #[h]) "Elem").run prog w = .ok (297, .agg #[h]) w := by kernel_rfl
theorem Tryz.methodImplements (h : Value) (w : World) : (Go.method 496 172 (.agg #[h]) "Implements").run prog w = .ok (298, .agg #[h]) w := by kernel_rfl
theorem Tryz.methodAssignableTo (h : Value) (w : World) : (Go.method 496 172 (.agg #[h]) "AssignableTo").run prog w = .ok (295, .agg #[h]) w := by kernel_rfl
theorem Tryz.elemP(w:World):(ReflectliteType.method ReflectliteType.elem #[.agg #[.pointer (some ⟨12,89,none⟩)]]).run prog w=.ok (.iface 172 (.agg #[.pointer (some ⟨12,24,none⟩)])) w:=by kernel_rfl
theorem Tryz.implementsE (w : World) : (ReflectliteType.relation "Implements" ReflectliteType.implements_ #[.agg #[.pointer (some ⟨12, 24, none⟩)], .iface 172 (.agg #[.pointer (some ⟨12, 27, none⟩)])]).run prog w = .ok (.bool true) w := by kernel_rfl
theorem Tryz.typeOfE(v:Value)(w:World):(ReflectliteType.typeOf #[.iface 24 v]).run prog w=.ok (.iface 172 (.agg #[.pointer (some ⟨12,24,none⟩)])) w:=by kernel_rfl
theorem Tryz.assignableE (w : World) : (ReflectliteType.relation "AssignableTo" ReflectliteType.assignableTo #[.agg #[.pointer (some ⟨12, 24, none⟩)], .iface 172 (.agg #[.pointer (some ⟨12, 24, none⟩)])]).run prog w = .ok (.bool true) w := by kernel_rfl
theorem Tryz.valueOfE(e:Int)(w:World):(ReflectliteValue.unpack (.iface 24 (.int .i64 e))).run prog w
  =.ok (.agg #[.pointer (some ⟨12,24,none⟩),.pointer (some ⟨w,0,none⟩),.int .u64 130]) (w.alloc (.cells #[.int .i64 e] 24)):=by kernel_rfl
theorem Tryz.elemOfP(w:World):(Rtype.elem? 89).run prog w=.ok (some 24) w:=by kernel_rfl
theorem Tryz.mkE(p:Addr)(w:World):(ReflectliteValue.mk 24 p ReflectliteValue.flagAddr).run prog w=.ok (.agg #[.pointer (some ⟨12,24,none⟩),.pointer (some p),.int .u64 386]) w:=by kernel_rfl
theorem Tryz.elemVP(a p:Addr)(W:World)(ha:W.cell? a=some (.pointer (some p))):
  (ReflectliteValue.method (ReflectliteValue.valueError "reflectlite.Value.Elem" 0) ReflectliteValue.elem #[.agg #[.pointer (some ⟨12, 89, none⟩), .pointer (some a), .int .u64 150]]).run prog W
   =.ok (.agg #[.pointer (some ↑(12,24)),.pointer (some p),.int .u64 386]) W:=by
 rw[z1f (Tryz.partsP a W)];simp[ReflectliteValue.elem,loadVar,isAgg,underlying,Tryz.underlying89,ha,Result.andThen,Tryz.elemOfP,Tryz.mkE]
theorem Tryz.partsEa(a:Addr)(w:World):(ReflectliteValue.parts (.agg #[.pointer (some ⟨12,24,none⟩),.pointer (some a),.int .u64 386])).run prog w=.ok (some (24,a,386)) w:=by kernel_rfl
theorem Tryz.partsE(a:Addr)(w:World):(ReflectliteValue.parts (.agg #[.pointer (some ⟨12,24,none⟩),.pointer (some a),.int .u64 130])).run prog w=.ok (some (24,a,130)) w:=by kernel_rfl
theorem Tryz.directE(w:World):(Rtype.directlyAssignable 24 24).run prog w=.ok true w:=by kernel_rfl
theorem Tryz.setE(ta b:Addr)(e:Int)(A:Value)(W:World)(hb:W.cell? b=some ↑e)(ht:W.cell? ta=some A)(hf:W.frozen? ta=false):
  (ReflectliteValue.set #[.agg #[.pointer (some ↑(12,24)),.pointer (some ta),.int .u64 386],.agg #[.pointer (some ↑(12,24)),.pointer (some b),.int .u64 130]]).run prog W
   =.ok (.tuple #[]) (W.setCell ta e):=by
 obtain⟨K,B,C⟩:=y9g (.agg #[.pointer (some ↑(12,24)),.pointer (some ta),.int .u64 386]) (.agg #[.pointer (some ↑(12,24)),.pointer (some b),.int .u64 130]);rw[B];simp only[Sem.run_bind,Tryz.partsEa,Tryz.partsE,Result.andThen];refine C prog W _ 24 24 ta b 386 130 e (by simp[ReflectliteValue.flagAddr]) ?_ (Tryz.directE W) ?_
 ·simp[loadVar,isAgg,underlying,Tryz.underlying24,hb,Result.andThen]
 ·simp[storeVar,Value.cells,storeCells,Addr.add,Result.andThen];rw[run_store prog W ta _ _ (by rfl)];simp[ht,hf]
theorem y7e(e:Int)(t:Addr)(old:Value)(w:World)(hg:w.cell? ⟨0,0,none⟩=some (.iface 172 (.agg #[.pointer (some ⟨12,27,none⟩)])))(ht0:w.cell? t=some old)(hf0:w.frozen? t=false):
  Calls prog 35 #[.iface 24 (.int .i64 e),.iface 89 (.pointer (some t))] w fun ev w'=>ev=.returned (.bool true)/\w'=((((w.alloc (.cells #[.pointer (some t)] 89)).alloc (.cells #[.pointer (some ⟨12,89,none⟩),.pointer (some ⟨w,0,none⟩),.int .u64 150] 119)).alloc (.cells #[.pointer (some ⟨12,89,none⟩),.pointer (some ⟨w,0,none⟩),.int .u64 150] 119)).alloc (.cells #[.int .i64 e] 24)).setCell t (.int .i64 e):=by
 have h6:=@run_callFunc_extern prog 55 _ (fun args=>ReflectliteValue.unpack (args.getD 0 (.tuple #[]))) func55 (by kernel_rfl) (by kernel_rfl) (by kernel_rfl) (by kernel_rfl)
 have h7 := @run_callFunc_extern prog 56 _ (ReflectliteValue.methodAny (ReflectliteValue.valueError "reflectlite.Value.Type" 0) (fun t _ _ _ => ReflectliteType.toType t)) func56 (by kernel_rfl) (by kernel_rfl) (by kernel_rfl) (by kernel_rfl)
 have h8 := @run_callFunc_extern prog 57 _ (ReflectliteValue.method (ReflectliteValue.valueError "reflectlite.Value.IsNil" 0) ReflectliteValue.isNil) func57 (by kernel_rfl) (by kernel_rfl) (by kernel_rfl) (by kernel_rfl)
 have h27:=@run_callFunc_extern prog 286 _ (ReflectliteType.abiMethod fun t=>do pure (.int .u8 (<-Rtype.kind t))) func286 (by kernel_rfl) (by kernel_rfl) (by kernel_rfl) (by kernel_rfl);have h37:=@run_callFunc_extern prog 297 _ (ReflectliteType.method ReflectliteType.elem) func297 (by kernel_rfl) (by kernel_rfl) (by kernel_rfl) (by kernel_rfl)
 have h38 := @run_callFunc_extern prog 298 _ (ReflectliteType.relation "Implements" ReflectliteType.implements_) func298 (by kernel_rfl) (by kernel_rfl) (by kernel_rfl) (by kernel_rfl)
 have h10:=@run_callFunc_extern prog 90 _ ReflectliteType.typeOf func90 (by kernel_rfl) (by kernel_rfl) (by kernel_rfl) (by kernel_rfl)
 have h35 := @run_callFunc_extern prog 295 _ (ReflectliteType.relation "AssignableTo" ReflectliteType.assignableTo) func295 (by kernel_rfl) (by kernel_rfl) (by kernel_rfl) (by kernel_rfl)
 have h11 := @run_callFunc_extern prog 91 _ (ReflectliteValue.method (ReflectliteValue.valueError "reflectlite.Value.Elem" 0) ReflectliteValue.elem) func91 (by kernel_rfl) (by kernel_rfl) (by kernel_rfl) (by kernel_rfl)
 have h12:=@run_callFunc_extern prog 92 _ ReflectliteValue.set func92 (by kernel_rfl) (by kernel_rfl) (by kernel_rfl) (by kernel_rfl);have tO:=Tryz.typeOfE;have mA:=Tryz.methodAssignableTo;have a25:=Tryz.assignableE;have v25:=Tryz.valueOfE;have f6:=Tryz.valueOfP;have f7:=Tryz.typeP;have mK:=Tryz.methodKind;have mE:=Tryz.methodElem;have mI:=Tryz.methodImplements;have k27:=Tryz.kindP;have k25:=Tryz.kindE;have e27:=Tryz.elemP;have i25:=Tryz.implementsE;have n8:=Tryz.isNilP ⟨w,0,none⟩ t ((w.alloc (.cells #[.pointer (some t)] 89)).alloc (.cells #[.pointer (some ⟨12,89,none⟩),.pointer (some ⟨w,0,none⟩),.int .u64 150] 119)) (by simp)
 have hlt:0<w.heap.size:=by
  rcases lt_or_ge 0 w.heap.size with h|h
  ·exact h
  ·simp[World.cell?,Array.getElem?_eq_none h]at hg
 have hg2:((w.alloc (.cells #[.pointer (some t)] 89)).alloc (.cells #[.pointer (some ⟨12,89,none⟩),.pointer (some ⟨w,0,none⟩),.int .u64 150] 119)).cell? ⟨0,0,none⟩=some (.iface 172 (.agg #[.pointer (some ⟨12,27,none⟩)])):=by
  rw[World.cell?_alloc_lt _ _ ⟨0,0,none⟩ (by simp only[World.size_alloc];omega),World.cell?_alloc_lt _ _ ⟨0,0,none⟩ hlt];exact hg
 have htl:t.block<w.heap.size:=by
  rcases lt_or_ge t.block w.heap.size with h|h
  ·exact h
  ·simp[World.cell?,Array.getElem?_eq_none h]at ht0
 have el:=Tryz.elemVP ⟨w,0,none⟩ t (((w.alloc (.cells #[.pointer (some t)] 89)).alloc (.cells #[.pointer (some ⟨12,89,none⟩),.pointer (some ⟨w,0,none⟩),.int .u64 150] 119)).alloc (.cells #[.pointer (some ⟨12,89,none⟩),.pointer (some ⟨w,0,none⟩),.int .u64 150] 119)) (by rw[World.cell?_alloc_lt _ _ ⟨w,0,none⟩ (by simp;omega)];simp)
 have st:=Tryz.setE t ⟨w.heap.size+1+1+1,0,none⟩ e old ((((w.alloc (.cells #[.pointer (some t)] 89)).alloc (.cells #[.pointer (some ⟨12,89,none⟩),.pointer (some ⟨w,0,none⟩),.int .u64 150] 119)).alloc (.cells #[.pointer (some ⟨12,89,none⟩),.pointer (some ⟨w,0,none⟩),.int .u64 150] 119)).alloc (.cells #[.int .i64 e] 24))
  (by rw[World.cell?_alloc_at _ _ _ _ (by simp)];rfl)
  (by rw[World.cell?_alloc_lt _ _ t (by simp;omega),World.cell?_alloc_lt _ _ t (by simp;omega),World.cell?_alloc_lt _ _ t (by simp;omega),World.cell?_alloc_lt _ _ t htl];exact ht0)
  (by rw[World.frozen?_alloc_old _ _ t (by simp;omega),World.frozen?_alloc_old _ _ t (by simp;omega),World.frozen?_alloc_old _ _ t (by simp;omega),World.frozen?_alloc_old _ _ t (Nat.ne_of_lt htl)];exact hf0)
 go_in;go_wp2;refine wp_loop_rounds 1 ?_;rw[rounds_succ];go_wp2;go_ret;exact⟨rfl,rfl⟩
end Go.Proofs.YtchdplceopegoaaGreatDoor
namespace Go.Proofs.YtchdplceopegoaaGreatDoor
open Go Go.RowKit
set_option maxRecDepth 100000
set_option maxHeartbeats 1000000
def Hnd(w:World):Prop:=w.cell? ⟨0,0,none⟩=some (.iface 172 (.agg #[.pointer (some ⟨12,27,none⟩)]))
theorem Hnd.lt{w:World}(h:Hnd w):0<w.heap.size:=by
 unfold Hnd at h;rcases lt_or_ge 0 w.heap.size with A|A
 ·exact A
 ·simp[World.cell?,Array.getElem?_eq_none A]at h
theorem Hnd.W{w w':World}(h:Hnd w)(hb:Below w w w'):Hnd w':=((q0s hb).1 _ _ h.lt).trans h
theorem Hnd.alloc{w:World}(h:Hnd w)(o:Obj):Hnd (w.alloc o):=h.W (Zb.alloc Zl _)
theorem v8w(w:World):Cb 18 #[.nilIface] w (.int .i64 0):=by
 unfold Cb;go_in;go_wp2;go_ret;exact⟨rfl,Below.refl _ _⟩
theorem v8v(n:Int)(w:World)(hg:Hnd w):Cb 18 #[.iface 24 (.int .i64 n)] w (.int .i64 n):=by
 unfold Cb;have A:Hid (Hnd w):=hg;have B:=hg.lt;clear hg;go_in;go_wp2_with fail;refine(y7e n ⟨w,0,none⟩ (.int .i64 0) _ (A.o.alloc _) (by simp[go_sem]) (by simp[go_sem])).mono ?_;rintro e C⟨rfl,rfl⟩;go_wp2;go_ret;refine⟨rfl,?_⟩
 repeat (first|exact Below.refl _ _|refine Below.setCell ?_ (by simp) _|refine Below.alloc ?_ (by simp;try omega) _)
theorem v8u(n:Int)(w:World)(hg:Hnd w):Cb 18 #[q2m n] w (.int .i64 n):=by
 unfold Cb;by_cases h:n=0
 ·subst h;exact v8w w
 ·have e:q2m n=.iface 24 (.int .i64 n):=by simp[q2m,h]
  rw[e];exact v8v n w hg
theorem q7i(n m:Int)(w:World)(hg:Hnd w):Cb 8 #[q2m n,.int .i64 m] w (.bool (n==m)):=by
 unfold Cb;have A:Hid (Hnd w):=hg;clear hg;go_in;go_wp2_with fail;refine(v8u n _ A.o).mono ?_;rintro e C⟨rfl,B⟩;go_wp2;go_ret;exact⟨rfl,B⟩
end Go.Proofs.YtchdplceopegoaaGreatDoor
namespace Go.Proofs.YtchdplceopegoaaGreatDoor
open Go.ChangeShapes Go.WideShapes Go.RowKit
theorem Tryz.own:ownKnob prog.godebug=none:=by kernel_rfl
theorem Tryz.et : prog.globalNamed "errors.errorType" = some 0 := by kernel_rfl
theorem Tryz.rt : (prog.cutTypes.find? (·.1 == "internal/reflectlite.rtype")).map (·.2) = some 172 := by kernel_rfl
theorem Tryz.oneRow:((List.range 396).filter fun t=>prog.rowNamed t [101,114,114,111,114])=[27]:=by kernel_rfl
theorem Tryz.size:prog.types.size=396:=by kernel_rfl
abbrev y3y : List (String × DataW Unit) := [("errors.errorType", Rows.laid_errors_errorType)]
theorem z6l{W:World}(h:laidMetH prog y3y W):Hnd W:=by
 have J:laidMet prog [] W/\handlesMet prog y3y W:=h;obtain⟨A,u,L,D,E,G,H,B⟩:=J.2 _ (List.mem_singleton.2 rfl);have I:A=[101,114,114,111,114]:=(Option.some.inj D).symm;subst I;obtain rfl:=Option.some.inj (Tryz.rt.symm.trans E);have C:L∈(List.range 396).filter fun t=>prog.rowNamed t [101,114,114,111,114]:=List.mem_filter.2 ⟨List.mem_range.2 (by rw[<-Tryz.size];exact G),H⟩
 rw[Tryz.oneRow]at C;obtain rfl:=List.mem_singleton.1 C;have K:typeHandle prog 27=.pointer (some ⟨12,27,none⟩):=by kernel_rfl
 rw[K]at B
 have:=World.var?_cell Tryz.et B 0
 simpa[Hnd]using this
def k2m(P:Program)(os:Os):World:=
 let w0:=World.holding P os ⟨#[],#[],[]⟩
 {w0 with heap:=w0.heap.modify 0 fun
   | .cells _ t frozen=>.cells #[.iface 172 (.agg #[.pointer (some ⟨12,27,none⟩)])] t frozen
   | o=>o}
set_option maxRecDepth 100000
def v8k : List (String × DataW Unit) := [("math/bits.deBruijn32tab", Rows.laid_math_bits_deBruijn32tab), ("math/bits.deBruijn64tab", Rows.laid_math_bits_deBruijn64tab), ("internal/strconv.uint64pow10", Rows.laid_internal_strconv_uint64pow10), ("unicode/utf8.acceptRanges", Rows.laid_unicode_utf8_acceptRanges), ("strconv.ErrRange", Rows.laid_strconv_ErrRange), ("strconv.ErrSyntax", Rows.laid_strconv_ErrSyntax), ("unicode.White_Space", Rows.laid_unicode_White_Space), ("strings.asciiSpace", Rows.laid_strings_asciiSpace), ("unicode/utf8.first", Rows.laid_unicode_utf8_first)]
abbrev y6s : List (String × DataW Unit) := [("math/bits.deBruijn32tab", Rows.laid_math_bits_deBruijn32tab), ("math/bits.deBruijn64tab", Rows.laid_math_bits_deBruijn64tab), ("internal/strconv.uint64pow10", Rows.laid_internal_strconv_uint64pow10), ("unicode/utf8.acceptRanges", Rows.laid_unicode_utf8_acceptRanges), ("errors.errorType", Rows.laid_errors_errorType), ("strconv.ErrRange", Rows.laid_strconv_ErrRange), ("strconv.ErrSyntax", Rows.laid_strconv_ErrSyntax), ("unicode.White_Space", Rows.laid_unicode_White_Space), ("strings.asciiSpace", Rows.laid_strings_asciiSpace), ("unicode/utf8.first", Rows.laid_unicode_utf8_first)]
def z1m(P:Program)(os:Os):World:=(k2m P os).layVars P v8k
theorem v8l(os:Os)(args:Array Value):laidMet prog v8k ((z1m prog os).forCall (fun _ _=>0) ⟨#[],args,[]⟩).memory:=by
 have A:(v8k.filter fun x=>(v8k.map (·.1)).contains x.1)=v8k:=List.filter_eq_self.2 fun x hx=>List.contains_iff_mem.2 (List.mem_map.2 ⟨x,hx,rfl⟩)
 have B:(v8k.filter fun x=>!(v8k.map (·.1)).contains x.1)=[]:=List.filter_eq_nil_iff.2 fun x hx=>by rw[List.contains_iff_mem.2 (List.mem_map.2 ⟨x,hx,rfl⟩)];simp
 have h:laidMet prog v8k (z1m prog os):=laidMet_layVars (w0:=k2m prog os) (v8k.map (·.1)) [] (by rw[A];rfl) (by rw[A];kernel_rfl) (by rw[A];kernel_rfl) (by rw[B];exact LaidIn.none);exact h.of_heap (by simp[World.memory,World.forCall,Input.heap])
theorem v2b(os:Os)(args:Array Value):((z1m prog os).forCall (fun _ _=>0) ⟨#[],args,[]⟩).Shaped prog:=World.shaped_of_ZipB (by kernel_rfl) (by kernel_rfl)
theorem y5o(os:Os)(args:Array Value):laidMetH prog y6s ((z1m prog os).forCall (fun _ _=>0) ⟨#[],args,[]⟩).memory:=
 laidMetH_of_parts (v8l os args) (by kernel_rfl)
theorem j3j{W:World}(h:laidMetH prog y6s W):Hnd W:=by
 have h1 := h.filter (fun x => x.1 == "errors.errorType")
 have e : (y6s.filter fun x => x.1 == "errors.errorType") = y3y := by rfl
 rw[e]at h1;exact z6l h1
theorem v8m{W:World}(h:laidMetH prog y6s W):z2c W:=by
 have h0:=(laidMetH_iff.1 h).1;refine⟨?_,?_⟩
 ·have h1 := h0.filter (fun x => x.1 == "internal/strconv.uint64pow10")
  have e : ((y6s.filter fun x => x.2.handleName?.isNone).filter fun x => x.1 == "internal/strconv.uint64pow10") = [("internal/strconv.uint64pow10", Lib.tabData .u64 Lib.pow10Tab)] := by kernel_rfl
  rw[e]at h1;exact Lib.tabIs_of_head (g:=6) (t:=356) (e:=336) (n:=20) (by kernel_rfl) (by kernel_rfl) (by kernel_rfl) (by kernel_rfl) (by kernel_rfl) (by kernel_rfl) h1
 ·have h1 := h0.filter (fun x => x.1 == "strings.asciiSpace")
  have e : ((y6s.filter fun x => x.2.handleName?.isNone).filter fun x => x.1 == "strings.asciiSpace") = [("strings.asciiSpace", Lib.tabData .u8 Lib.asciiSpaceTab)] := by kernel_rfl
  rw[e]at h1;exact Lib.tabIs_of_head (g:=1) (t:=237) (e:=5) (n:=256) (by kernel_rfl) (by kernel_rfl) (by kernel_rfl) (by kernel_rfl) (by kernel_rfl) (by kernel_rfl) h1
end Go.Proofs.YtchdplceopegoaaGreatDoor
namespace Go.Proofs.YtchdplceopegoaaGreatDoor
open Go Go.ChangeShapes Go.WideShapes Go.RowKit
theorem v6g:laidOutB prog=true:=by kernel_rfl
theorem y2x:prog.cellsOf 3=1:=by kernel_rfl
theorem y2y:prog.cellsOf 9=1:=by kernel_rfl
theorem j4o(b o n:Nat):(⟨b,o,none⟩:Addr).add n=⟨b,o+n,none⟩:=by
 unfold Addr.add
 split
 ·rename_i h;subst h;rfl
 ·rfl
theorem y1t{α:Type}{l:List α}(h:l.length=3):∃a b c,l=[a,b,c]:=by
 match l,h with
 | [a,b,c],_=>exact⟨a,b,c,rfl⟩
section
variable {H:Type} {enc:TypeId × Value→H} {W:World}
end
end Go.Proofs.YtchdplceopegoaaGreatDoor
