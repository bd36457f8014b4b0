import Derived.Test.YthcpdohdppkmkaaGreatDoorPl33
import Derived.Test.YthcpdohdppkmkaaGreatDoorPl31
open Go.Proofs.Tryz
namespace Go.Proofs.YthcpdohdppkmkaaGreatDoor
open Go Go.RowKit
set_option maxRecDepth 100000
set_option maxHeartbeats 4000000
theorem k2p(a:Addr)(n cap:Nat)(op:Int)(w:World)(hn:0<n){b o:Nat}(ha:a=⟨b,o,none⟩)(hc:w.cell? ⟨b,o,none⟩=some (.int .i64 op)):Calls prog 95 #[.slice (some a) n cap] w fun e w'=>e=.returned (.bool (op==9))/\w=w':=by
 subst ha;have A:(0:Int)<(n:Int):=by omega
 go_in;go_wp2;go_ret;exact⟨rfl,rfl⟩
theorem j9z(ps:List (List Td))(a:Option Addr)(cap:Nat)(w:World)(_hc:ps.length<=cap)(hP:Prg w a ps)(Ae:∀t∈ps,j1k t):Calls prog 53 #[.slice a ps.length cap] w fun e w'=>e=.returned (.tuple #[.int .i64 ((q0r ps).1:Int),q1r (q0r ps).2])/\Below w w w':=by
 have HP:Hid (Prg w a ps):=hP;have Ah:Hid (∀t∈ps,j1k t):=Ae;clear hP Ae;by_cases An:20<(ps.length:Int)
 ·have m:Hid (q0r ps=(0,3)):=by show q0r ps=_;rw[q0r,if_pos (by omega)]
  go_in;go_wp2;go_ret2;exact⟨by rw[m.o];rfl,Below.refl _ _⟩
 have HF:Hid (q0r ps=q3z 0 0 ps):=by show q0r ps=_;rw[q0r,if_neg (by omega)]
 go_in;go_wp2
 go_loopw [13] (fun i wr=>Below w w wr/\∃k:Nat,k<=ps.length/\i=.int .i64 k/\q0r ps=q3z (q2v ps k) k (ps.drop k)/\∀j(h:j<ps.length),j<k->q0c ps[j]=0) (fun i _=>ps.length-(intOf i).toNat)
 case atStart=>exact⟨Below.refl _ _,0,Nat.zero_le _,rfl,HF.o,fun j _ h=>by omega⟩
 case round=>
  obtain⟨Ab,k,hk,rfl,hF,f⟩:=hrel;have K:Hid (Below w w wr):=Ab;have HG:Hid (q0r ps=q3z (q2v ps k) k (ps.drop k)):=hF;have HA:Hid (∀j(h:j<ps.length),j<k->q0c ps[j]=0):=f;clear Ab hF f;by_cases S:k<ps.length
  ·obtain⟨b,o,a',u,ea,hb,d,c2,hT⟩:=(HP.o.W K.o) k S;subst ea;have Ac:(k:Int)<(ps.length:Int):=by omega
   have c:Calls prog 56 #[.slice a' ps[k].length u] wr fun e w'=>e=.returned (q1r (q0c ps[k]))/\Below wr wr w':=q7c ps[k] a' u wr c2 hT (Ah.o _ (List.getElem_mem S))
   have V:Hid (q0c ps[k]=0->∀j(h:j<ps.length),j<k+1->q0c ps[j]=0):=fun h0 j h hj=>by
    by_cases Ai:j=k
    ·subst Ai;exact h0
    ·exact HA.o j h (by omega)
   have L:Hid (q0c ps[k]=0->0<ps[k].length/\∃U Y,a'=some ⟨U,Y,none⟩/\U<wr.heap.size/\wr.cell? ⟨U,Y,none⟩=some (.int .i64 (opT ps[k]))):=fun h0=>by
    have A:=z0x h0;obtain⟨U,Y,e1,p,d1,_,_⟩:=hT 0 A;exact⟨A,U,Y,e1,p,by rw[z4n A];simpa using d1⟩
   have J:Hid (q0c ps[k]≠0->q0r ps=(k,q0c ps[k])):=fun h=>HG.o.trans (k2f S h)
   have D:Hid (q0c ps[k]=0->opT ps[k]=9/\q2v ps k=9->q0r ps=(k,2)):=fun h h2=>HG.o.trans (k2g S h h2)
   have C:Hid (q0c ps[k]=0->¬(opT ps[k]=9/\q2v ps k=9)->q0r ps=q3z (q2v ps (k+1)) (k+1) (ps.drop (k+1))):=fun h h2=>HG.o.trans (z6t S h h2)
   have O:Hid (∀j,k=j+1->∃a1 v Q,wr.cell? ⟨b,o+j,none⟩=some (.slice a1 v Q)/\0<v/\∃H Z,a1=some ⟨H,Z,none⟩/\H<wr.heap.size/\wr.cell? ⟨H,Z,none⟩=some (.int .i64 (q2v ps k))):=fun j hj=>by
    have r:j<ps.length:=by omega
    obtain⟨bj,oj,aj,cj,ej,_,q1,_,qT⟩:=(HP.o.W K.o) j r;simp only[Option.some.injEq,Addr.mk.injEq,and_true]at ej;obtain⟨rfl,rfl⟩:=ej;have A:=z0x (HA.o j r (by omega));obtain⟨H,Z,e2,q,d2,_,_⟩:=qT 0 A;refine⟨aj,ps[j].length,cj,q1,A,H,Z,e2,q,?_⟩;rw[hj,z2b r,z4n A];simpa using d2
   have P:Hid (Calls prog 56 #[.slice a' ps[k].length u] wr fun e w'=>e=.returned (q1r (q0c ps[k]))/\Below wr wr w'):=c;clear hT c c2;generalize ps[k].length=nl at d P L;generalize opT ps[k]=op0 at L D C;generalize q0c ps[k]=E at P V L J D C;by_cases he:E=0
   ·subst he;obtain⟨Al,U,Y,rfl,p,d1⟩:=L.o rfl;have g:=hid (V.o rfl);have M:Hid (op0=9/\q2v ps k=9->q0r ps=(k,2)):=D.o rfl;have B:Hid (¬(op0=9/\q2v ps k=9)->q0r ps=q3z (q2v ps (k+1)) (k+1) (ps.drop (k+1))):=C.o rfl;clear D C;have Am:(0:Int)<(nl:Int):=by omega
    have l:=hid d;have Af:=hid d1;clear L J V d d1;by_cases s:k=0
    ·have z:Hid (q0r ps=q3z (q2v ps (k+1)) (k+1) (ps.drop (k+1))):=B.o (by simp[q2v,s]);have Aj:¬(0:Int)<(k:Int):=by omega
     have d:=l.o;clear M B s;go_wp2_with fail;refine P.o.mono ?_;rintro e N⟨rfl,H⟩;rw[q0z];have I:Hid (Below w w N):=q0e K.o Zl H;clear H d;go_wp2
     go_roundw
     case rel=>exact⟨I.o,k+1,by omega,by go_num,z.o,g.o⟩
     case measure=>simp[intOf];omega
    ·obtain⟨j,rfl⟩:∃j,k=j+1:=⟨k-1,by omega⟩;obtain⟨a1,v,Q,q1,Ak,H,Z,rfl,q,d2⟩:=O.o j rfl;have R:((j+1:Nat):Int)=(j:Int)+1:=by omega
     have Aj:(0:Int)<(j:Int)+1:=by omega
     have Ao:(j:Int)<(ps.length:Int):=by omega
     have Ap:(j:Int)+1<(ps.length:Int):=by omega
     have x:Hid (∀W:World,Below wr wr W->W.cell? ⟨b,o+(j+1),none⟩=some (.slice (some ⟨U,Y,none⟩) nl u)/\W.cell? ⟨U,Y,none⟩=some (.int .i64 op0)/\W.cell? ⟨b,o+j,none⟩=some (.slice (some ⟨H,Z,none⟩) v Q)/\W.cell? ⟨H,Z,none⟩=some (.int .i64 (q2v ps (j+1)))):=fun W hW=>
      ⟨((q1z hW).1 _ _ hb).trans l.o,((q1z hW).1 _ _ p).trans Af.o,((q1z hW).1 _ _ hb).trans q1,((q1z hW).1 _ _ q).trans d2⟩
     have d:=l.o;generalize q2v ps (j+1)=pv at M B x;rw[R]at Ac⊢;clear q1 d2 O R s;go_wp2_with fail;refine P.o.mono ?_;rintro e N⟨rfl,n⟩;rw[q0z];have I:Hid (Below w w N):=q0e K.o Zl n;obtain⟨k1,k2,k3,k4⟩:=x.o N n;clear n d;have Ag:Hid (Calls prog 95 #[.slice (some ⟨U,Y,none⟩) nl u] N fun e w'=>e=.returned (.bool (op0==9))/\N=w'):=k2p ⟨U,Y,none⟩ nl u op0 N Al rfl k2;have Aa:Hid (Calls prog 95 #[.slice (some ⟨H,Z,none⟩) v Q] N fun e w'=>e=.returned (.bool (pv==9))/\N=w'):=k2p ⟨H,Z,none⟩ v Q pv N Ak rfl k4;clear k2 k4;go_wp2_with fail;refine Ag.o.mono ?_;rintro e w3⟨rfl,rfl⟩;by_cases h9:op0=9
     ·subst h9;have G:((9:Int)==9)=true:=rfl;rw[G];clear G;go_wp2_with fail;refine Aa.o.mono ?_;rintro e w3⟨rfl,rfl⟩;by_cases X:pv=9
      ·subst X;have m:Hid (q0r ps=(j+1,2)):=M.o (by simp);have G:((9:Int)==9)=true:=rfl;rw[G];clear M B G;go_wp2;go_ret2;exact⟨by rw[m.o];rfl,I.o⟩
      ·have z:Hid (q0r ps=q3z (q2v ps (j+1+1)) (j+1+1) (ps.drop (j+1+1))):=B.o (fun h=>X h.2);have Ad:(pv==9)=false:=by simp[X]
       rw[Ad];clear M B X Ad;go_wp2
       go_roundw
       case rel=>exact⟨I.o,j+1+1,by omega,by go_num,z.o,g.o⟩
       case measure=>simp[intOf];omega
     ·have z:Hid (q0r ps=q3z (q2v ps (j+1+1)) (j+1+1) (ps.drop (j+1+1))):=B.o (fun h=>h9 h.1);have G:(op0==9)=false:=by simp[h9]
      rw[G];clear M B h9 G;go_wp2
      go_roundw
      case rel=>exact⟨I.o,j+1+1,by omega,by go_num,z.o,g.o⟩
      case measure=>simp[intOf];omega
   ·have m:Hid (q0r ps=(k,E)):=J.o he;have y:Hid (q1r E=.iface 22 (.int .i64 E)):=q0l he;clear L J V D C he;go_wp2_with fail;refine P.o.mono ?_;rintro e N⟨rfl,H⟩;rw[y.o];have I:Hid (Below w w N):=q0e K.o Zl H;clear H d;go_wp2;go_ret2;exact⟨by rw[m.o,y.o];rfl,I.o⟩
  ·have m:Hid (q0r ps=(0,0)):=by
    show q0r ps=_;rw[HG.o,List.drop_eq_nil_of_le (by omega)];rfl
   have Ac:¬(k:Int)<(ps.length:Int):=by omega
   go_wp2;go_ret2;exact⟨by rw[m.o];rfl,K.o⟩
theorem j1y(a b:Wd):(q6n a b).length<=a.length+b.length+1:=by
 unfold q6n
 split
 ·simp only[List.length_append,List.length_cons,List.length_nil];omega
 ·simp only[List.length_append];omega
theorem k6p:∀(ws:List Wd)(t:Wd),(ws.foldl q6n t).length<=t.length+szW ws
 | [],t=>by simp[szW]
 | x::r,t=>by
  have h1:=k6p r (q6n t x);have h2:=j1y t x;rw[List.foldl_cons,q2i];omega
theorem v9g:∀s:Wd,szW (q5l s)=s.length+1
 | []=>rfl
 | c::r=>by
  have ih:=v9g r;by_cases hc:c=32
  ·subst hc;rw[q6j,q2i,ih];simp;omega
  ·cases hs:q5l r with
   | nil=>exact absurd hs (q9n r)
   | cons x y=>
    rw[q4y hc hs,q2i];rw[hs,q2i]at ih;simp only[List.length_cons];omega
theorem j7y{x:Wd}(h:x≠[]):(q0y x).length<=x.length:=by
 unfold q0y ntx;have A:=k6p (q0f (x.drop 1)) []
 have B:szW (q0f (x.drop 1))<=(x.drop 1).length+1:=by
  unfold q0f
  split
  ·exact Nat.zero_le _
  ·rw[v9g];exact Nat.le_refl _
 rw[List.length_drop]at B;have C:0<x.length:=List.length_pos_iff.2 h;simp only[List.length_nil]at A;omega
theorem j9x{u ts:List Wd}(h:u <:+ ts):szW u<=szW ts:=by
 obtain⟨t,rfl⟩:=h;rw[k5g];omega
theorem v0r(x:Wd):(wbS x).size=x.length:=by rw[<-q0b];rfl
theorem y2g{x:Wd}(h:nmW x=true):(wbS x).size<=8:=by
 simp only[nmW,q0p,Bool.and_eq_true,decide_eq_true_eq]at h;exact h.1.1.2
theorem j5c{A:List (List Td)}{N:Nat}(h:∀t∈A,∀x∈t,x.tx.size<=N):(q5m A).length<=N:=by
 unfold q5m
 split
 ·rename_i x r hx;have B:(x::r)∈A:=List.mem_of_getLast? hx
  have:=h _ B x (by simp)
  rw[q0b];exact this
 ·exact Nat.zero_le _
theorem y9e{pv:Bool}{C:List (List Td)}{ts:List Wd}{r:Rp}(h:PG pv C ts r):∀N,8<=N->(∀t∈C,∀x∈t,x.tx.size<=N)->∀qs,r=.ok qs->∀t∈qs,∀x∈t,x.tx.size<=N+szW ts:=by
 induction h with
 | done=>
  intro N _ D qs e t A x B;cases e
  have:=D t A x B
  omega
 | @note pv C wd ts r h0 _ ih=>
  intro N E D qs e t A x B;have H:wd≠[]:=fun e=>by rw[e]at h0;simp at h0
  have I:=j7y H
  have:=ih (N+(wd.length+1)) (by omega) (fun t A x B=>by
   unfold k0d at A
   split at A
   ·rcases List.mem_append.1 A with A|A
    ·have:=D t ((List.dropLast_sublist C).subset A) x B
     omega
    ·rw[List.mem_singleton]at A;subst A;rw[List.mem_singleton]at B;subst B
     show(wbS _).size<=_
     rw[v0r];have J:=j1y (q5m C) (q0y wd);have K:=j5c D;omega
   ·rcases List.mem_append.1 A with A|A
    ·have:=D t A x B
     omega
    ·rw[List.mem_singleton]at A;subst A;rw[List.mem_singleton]at B;subst B
     show(wbS _).size<=_
     rw[v0r]
     omega) qs e t A x B
  rw[q2i];omega
 | letN=>intro N _ _ qs e;cases e
 | letE=>intro N _ _ qs e;cases e
 | letB=>intro N _ _ qs e;cases e
 | letX=>intro N _ _ qs e;cases e
 | @letO pv C nm ts m ns u r hn hpr _ ih=>
  intro N E D qs e t A x B;have G:=j9x (q5h hpr).1;simp only[Rs.rest]at G;rw[q2i]at G
  have:=ih N E (fun t A x B=>by
   rcases List.mem_append.1 A with A|A
   ·exact D t A x B
   ·rw[List.mem_singleton]at A;subst A;rcases List.mem_cons.1 B with rfl|B
    ·exact Nat.le_trans (y2g hn) E
    ·exact Nat.le_trans (y2p hpr (fun x B=>by cases B) _ _ _ rfl x B) E) qs e t A x B
  rw[q2i,q2i,q2i];omega
 | doB=>intro N _ _ qs e;cases e
 | doX=>intro N _ _ qs e;cases e
 | @doO pv C wd ts m ns u r h0 I hpr _ ih=>
  intro N E D qs e t A x B;have G:=j9x (q5h hpr).1;simp only[Rs.rest]at G;rw[q2i]at G
  have:=ih N E (fun t A x B=>by
   rcases List.mem_append.1 A with A|A
   ·exact D t A x B
   ·rw[List.mem_singleton]at A;subst A;rcases List.mem_cons.1 B with rfl|B
    ·exact Nat.zero_le _
    ·exact Nat.le_trans (y2p hpr (fun x B=>by cases B) _ _ _ rfl x B) E) qs e t A x B
  omega
theorem y2w(ws:List Wd):szW ws=(ws.map List.length).sum+ws.length:=by
 induction ws with
 | nil=>rfl
 | cons x r ih=>rw[q2i,ih,List.map_cons,List.sum_cons,List.length_cons];omega
theorem z2o(s:ByteArray)(w:World)(ht:z2t w):Calls prog 20 #[.string s] w fun e w'=>z3i s w e w':=by
 have f:Hid (Calls prog 19 #[.string s] w fun e w'=>z7o s w e w'/\Below w w w'):=v1c s w;by_cases J:q5o (btL s)=0
 ·have y:=q7v J;have S:=j5o J;have d:=v0x (btL s);have Y:Hid (∀x∈q2m (btL s),q3a x):=y3p (btL s);have o:Hid (z2t w):=ht;have r:s.size<=60000:=by rw[<-q0b];exact y.1
  have V:Hid (∀A P I M C,q1x w (.slice A (q2m (btL s)).length I) ((q2m (btL s)).map wbS) C->z1g w.heap.size (.slice P (q2m (btL s)).length M) (z1z (btL s)) C->Below w w C->Calls prog 52 #[.slice A (q2m (btL s)).length I,.slice P (q2m (btL s)).length M,.int .i64 (s.size:Int)] C fun e w'=>k0b (q2m (btL s)) (plE (z1z (btL s)) s.size) w.heap.size C e w'):=fun A P I M C a l B=>v1n Y.o (by omega) S (z2p _).symm B.size a l (fun w' hb'=>o.o.W (B.trans hb'))
  have D:Hid (Calls prog 19 #[.string s] w fun e w'=>∃A P I M,e=.returned (.tuple #[.slice A (q2m (btL s)).length I,.slice P (q2m (btL s)).length M,.int .i64 0,.nilIface])/\(q1x w (.slice A (q2m (btL s)).length I) ((q2m (btL s)).map wbS) w'/\z1g w.heap.size (.slice P (q2m (btL s)).length M) (z1z (btL s)) w'/\Below w w w')):=by
   refine f.o.mono ?_;rintro e w'⟨n,B⟩;rcases n with⟨m,_⟩|⟨_,A,P,I,M,rfl,a,l⟩
   ·exact absurd J m
   ·exact⟨A,P,I,M,rfl,a,l,B⟩
  have k:Hid (∀qs,PG false [] (q2m (btL s)) (.ok qs)->∀t∈qs,j1k t):=fun qs hpg t ht x hx=>by
   have a:=y9e hpg 8 Zl (fun t ht=>by cases ht) qs rfl t ht x hx;rw[y2w]at a;omega
  have h:Hid (∀u C w',Below w w C->PG false [] (q2m (btL s)) (.bad u)->Below w C w'->z3i s w (.returned (.tuple #[.slice none 0 0,.int .i64 (plE (z1z (btL s)) s.size ((q2m (btL s)).length-u.length):Int),.iface 22 (.int .i64 5)])) w'):=fun u C w' hb1 hpg B=>⟨[],_,5,none,0,rfl,q4l.bad J hpg,Prg.nil _ _,Nat.le_refl _,hb1.trans B⟩
  have j:Hid (∀qs A c w',PG false [] (q2m (btL s)) (.ok qs)->(q0r qs).2=0->Prg w' A qs->qs.length<=c->Below w w w'->z3i s w (.returned (.tuple #[.slice A qs.length c,.int .i64 0,.nilIface])) w'):=fun qs A c w' hpg L hP hc B=>⟨qs,0,0,A,c,rfl,q4l.ok J hpg L,hP,hc,B⟩
  have i:Hid (∀qs w',PG false [] (q2m (btL s)) (.ok qs)->(q0r qs).2≠0->Below w w w'->z3i s w (.returned (.tuple #[.slice none 0 0,.int .i64 0,.iface 22 (.int .i64 (q0r qs).2)])) w'):=fun qs w' hpg L B=>⟨[],0,(q0r qs).2,none,0,by rw[q0l L];rfl,q4l.full J hpg L,Prg.nil _ _,Nat.le_refl _,B⟩
  clear f y d S ht J Y o
  generalize(q2m (btL s)).length=nl at V D
  go_in;go_wp2_with fail;refine D.o.mono ?_;rintro e C⟨A,P,I,M,rfl,b⟩;have p:=hid b;have O:Hid (Calls prog 52 #[.slice A nl I,.slice P nl M,.int .i64 (s.size:Int)] C fun e w'=>k0b (q2m (btL s)) (plE (z1z (btL s)) s.size) w.heap.size C e w'):=V.o A P I M C b.1 b.2.1 b.2.2;clear b D V;go_wp2_with fail;refine O.o.mono ?_;intro e N z;cases z with
  | @bad u _ pg B=>
   have H:=hid (h.o u C N p.o.2.2 pg B);clear pg B O;generalize plE (z1z (btL s)) s.size ((q2m (btL s)).length-u.length)=pp at H⊢;go_wp2;refine bodyPost_ret (v:=.tuple #[.slice none 0 0,.int .i64 (pp:Int),.iface 22 (.int .i64 5)]) (by simp[results,Tryz.results20,go_sem]) rfl ?_;exact H.o
  | @ok qs A2 c2 _ pg hp hc B=>
   have Q:Below w w N:=p.o.2.2.trans B;have R:Hid (Calls prog 53 #[.slice A2 qs.length c2] N fun e w'=>e=.returned (.tuple #[.int .i64 ((q0r qs).1:Int),q1r (q0r qs).2])/\Below N N w'):=j9z qs A2 c2 N hc hp (k.o qs pg);by_cases L:(q0r qs).2=0
   ·have H:Hid (∀G,Below N N G->z3i s w (.returned (.tuple #[.slice A2 qs.length c2,.int .i64 0,.nilIface])) G):=fun G hb3=>j.o qs A2 c2 G pg L (hp.W hb3) hc (q0e Q Zl hb3)
    rw[L]at R
    generalize(q0r qs).1=K at R
    clear pg hp hc B Q L O;generalize qs.length=ql at R H⊢;go_wp2_with fail;refine R.o.mono ?_;rintro e G⟨rfl,Z⟩;have U:=hid (H.o G Z);clear Z;rw[q0z];go_wp2;refine bodyPost_ret (v:=.tuple #[.slice A2 ql c2,.int .i64 0,.nilIface]) (by simp[results,Tryz.results20,go_sem]) rfl ?_;exact U.o
   ·have H:Hid (∀G,Below N N G->z3i s w (.returned (.tuple #[.slice none 0 0,.int .i64 0,.iface 22 (.int .i64 (q0r qs).2)])) G):=fun G hb3=>i.o qs G pg L (q0e Q Zl hb3)
    have X:Hid (q1r (q0r qs).2=.iface 22 (.int .i64 (q0r qs).2)):=q0l L
    generalize(q0r qs).2=E at R X H
    generalize(q0r qs).1=K at R
    clear pg hp hc B Q L O;generalize qs.length=ql at R⊢;go_wp2_with fail;refine R.o.mono ?_;rintro e G⟨rfl,Z⟩;have U:=hid (H.o G Z);clear Z;rw[X.o];go_wp2;refine bodyPost_ret (v:=.tuple #[.slice none 0 0,.int .i64 0,.iface 22 (.int .i64 E)]) (by simp[results,Tryz.results20,go_sem]) rfl ?_;exact U.o
 ·have D:Hid (Calls prog 19 #[.string s] w fun e w'=>e=.returned (.tuple #[.slice none 0 0,.slice none 0 0,.int .i64 ((z3c (btL s):Nat):Int),q1r (q5o (btL s))])/\Below w w w'):=by
   refine f.o.mono ?_;rintro e w'⟨n,B⟩;rcases n with⟨_,rfl⟩|⟨m,_⟩
   ·exact⟨rfl,B⟩
   ·exact absurd m J
  have X:Hid (q1r (q5o (btL s))=.iface 22 (.int .i64 (q5o (btL s)))):=q0l J;have H:Hid (∀w',Below w w w'->z3i s w (.returned (.tuple #[.slice none 0 0,.int .i64 ((z3c (btL s):Nat):Int),.iface 22 (.int .i64 (q5o (btL s)))])) w'):=fun w' B=>⟨[],_,_,none,0,by rw[X.o];rfl,q4l.lex J,Prg.nil _ _,Nat.le_refl _,B⟩
  generalize q5o (btL s)=E at D X H
  generalize((z3c (btL s):Nat):Int)=LK at D H
  clear f J ht;go_in;go_wp2_with fail;refine D.o.mono ?_;rintro e C⟨rfl,q⟩;have g:=hid (H.o C q);clear q;rw[X.o];go_wp2;refine bodyPost_ret (v:=.tuple #[.slice none 0 0,.int .i64 LK,.iface 22 (.int .i64 E)]) (by simp[results,Tryz.results20,go_sem]) rfl ?_;exact g.o
end Go.Proofs.YthcpdohdppkmkaaGreatDoor
