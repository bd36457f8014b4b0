import Derived.Test.YtfdppahhbpfnoaaGreatDoorPb35
import Derived.Test.YtfdppahhbpfnoaaGreatDoorPb38
open Go.Proofs.Tryz
namespace Go.Proofs.YtfdppahhbpfnoaaGreatDoor
open Go Go.RowKit
set_option maxRecDepth 100000
set_option maxHeartbeats 2000000
theorem j2n(a b:Wd):(z0w a b).length<=a.length+b.length+1:=by
 unfold z0w
 split
 ·simp only[List.length_append,List.length_cons,List.length_nil];omega
 ·simp only[List.length_append];omega
theorem k7w:∀(ws:List Wd)(t:Wd),(ws.foldl z0w t).length<=t.length+szW ws
 | [],t=>by simp[szW]
 | x::r,t=>by
  have h1:=k7w r (z0w t x);have h2:=j2n t x;rw[List.foldl_cons,q1v];omega
theorem v9h:∀s:Wd,szW (q4h s)=s.length+1
 | []=>rfl
 | c::r=>by
  have ih:=v9h r;by_cases hc:c=32
  ·subst hc;rw[q5t,q1v,ih];simp;omega
  ·cases hs:q4h r with
   | nil=>exact absurd hs (q6o r)
   | cons x y=>
    rw[q5u hc hs,q1v];rw[hs,q1v]at ih;simp only[List.length_cons];omega
theorem j7u{x:Wd}(h:x≠[]):(q4x x).length<=x.length:=by
 unfold q4x ntx;have A:=k7w (q0e (x.drop 1)) []
 have B:szW (q0e (x.drop 1))<=(x.drop 1).length+1:=by
  unfold q0e
  split
  ·exact Nat.zero_le _
  ·rw[v9h];exact Nat.le_refl _
 rw[List.length_drop]at B;have C:0<x.length:=List.length_pos_iff.2 h;simp only[List.length_nil]at A;omega
theorem j9t{u ts:List Wd}(h:u <:+ ts):szW u<=szW ts:=by
 obtain⟨t,rfl⟩:=h;rw[k6o];omega
theorem v0o(x:Wd):(wbS x).size=x.length:=by rw[<-q0c];rfl
theorem y3g{x:Wd}(h:nmW x=true):(wbS x).size<=8:=by
 simp only[nmW,q0o,Bool.and_eq_true,decide_eq_true_eq]at h;exact h.1.1.2
theorem j5u{A:List (List Td)}{N:Nat}(h:∀t∈A,∀x∈t,x.tx.size<=N):(q4u A).length<=N:=by
 unfold q4u
 split
 ·rename_i x r hx;have B:(x::r)∈A:=List.mem_of_getLast? hx
  have:=h _ B x (by simp)
  rw[q0c];exact this
 ·exact Nat.zero_le _
theorem g0x{pv:Bool}{C:List (List Td)}{ts:List Wd}{r:Rp}(h:PG pv C ts r):∀N,8<=N->(∀t∈C,∀x∈t,x.tx.size<=N)->∀qs,r=.ok qs->∀t∈qs,∀x∈t,x.tx.size<=N+szW ts:=by
 induction h with
 | done=>
  intro N _ D qs e t A x B;cases e
  have:=D t A x B
  omega
 | @note pv C wd ts r h0 _ ih=>
  intro N E D qs e t A x B;have H:wd≠[]:=fun e=>by rw[e]at h0;simp at h0
  have I:=j7u H
  have:=ih (N+(wd.length+1)) (by omega) (fun t A x B=>by
   unfold k7a at A
   split at A
   ·rcases List.mem_append.1 A with A|A
    ·have:=D t ((List.dropLast_sublist C).subset A) x B
     omega
    ·rw[List.mem_singleton]at A;subst A;rw[List.mem_singleton]at B;subst B
     show(wbS _).size<=_
     rw[v0o];have J:=j2n (q4u C) (q4x wd);have K:=j5u D;omega
   ·rcases List.mem_append.1 A with A|A
    ·have:=D t A x B
     omega
    ·rw[List.mem_singleton]at A;subst A;rw[List.mem_singleton]at B;subst B
     show(wbS _).size<=_
     rw[v0o]
     omega) qs e t A x B
  rw[q1v];omega
 | letN=>intro N _ _ qs e;cases e
 | letE=>intro N _ _ qs e;cases e
 | letB=>intro N _ _ qs e;cases e
 | letX=>intro N _ _ qs e;cases e
 | @letO pv C nm ts m ns u r hn hpr _ ih=>
  intro N E D qs e t A x B;have G:=j9t (z0g hpr).1;simp only[Rs.rest]at G;rw[q1v]at G
  have:=ih N E (fun t A x B=>by
   rcases List.mem_append.1 A with A|A
   ·exact D t A x B
   ·rw[List.mem_singleton]at A;subst A;rcases List.mem_cons.1 B with rfl|B
    ·exact Nat.le_trans (y3g hn) E
    ·exact Nat.le_trans (y7m hpr (fun x B=>by cases B) _ _ _ rfl x B) E) qs e t A x B
  rw[q1v,q1v,q1v];omega
 | doB=>intro N _ _ qs e;cases e
 | doX=>intro N _ _ qs e;cases e
 | @doO pv C wd ts m ns u r h0 I hpr _ ih=>
  intro N E D qs e t A x B;have G:=j9t (z0g hpr).1;simp only[Rs.rest]at G;rw[q1v]at G
  have:=ih N E (fun t A x B=>by
   rcases List.mem_append.1 A with A|A
   ·exact D t A x B
   ·rw[List.mem_singleton]at A;subst A;rcases List.mem_cons.1 B with rfl|B
    ·exact Nat.zero_le _
    ·exact Nat.le_trans (y7m hpr (fun x B=>by cases B) _ _ _ rfl x B) E) qs e t A x B
  omega
theorem y3w(ws:List Wd):szW ws=(ws.map List.length).sum+ws.length:=by
 induction ws with
 | nil=>rfl
 | cons x r ih=>rw[q1v,ih,List.map_cons,List.sum_cons,List.length_cons];omega
theorem z2h(s:ByteArray)(w:World)(ht:z1a w):Calls prog 14 #[.string s] w fun e w'=>z3e s w e w':=by
 have f:Hid (Calls prog 40 #[.string s] w fun e w'=>z7o s w e w'/\Below w w w'):=v1b s w;by_cases J:q7a (btL s)=0
 ·have y:=z4e J;have S:=y2k J;have d:=v0s (btL s);have Y:Hid (∀x∈q2p (btL s),q3u x):=y4j (btL s);have o:Hid (z1a w):=ht;have r:s.size<=60000:=by rw[<-q0c];exact y.1
  have V:Hid (∀A P I M C,q2r w (.slice A (q2p (btL s)).length I) ((q2p (btL s)).map wbS) C->z3d w.heap.size (.slice P (q2p (btL s)).length M) (z9u (btL s)) C->Below w w C->Calls prog 41 #[.slice A (q2p (btL s)).length I,.slice P (q2p (btL s)).length M,.int .i64 (s.size:Int)] C fun e w'=>k0n (q2p (btL s)) (plE (z9u (btL s)) s.size) w.heap.size C e w'):=fun A P I M C a l B=>v1n Y.o (by omega) S (v1c _).symm B.size a l (fun w' hb'=>o.o.W (B.trans hb'))
  have D:Hid (Calls prog 40 #[.string s] w fun e w'=>∃A P I M,e=.returned (.tuple #[.slice A (q2p (btL s)).length I,.slice P (q2p (btL s)).length M,.int .i64 0,.nilIface])/\(q2r w (.slice A (q2p (btL s)).length I) ((q2p (btL s)).map wbS) w'/\z3d w.heap.size (.slice P (q2p (btL s)).length M) (z9u (btL s)) w'/\Below w w w')):=by
   refine f.o.mono ?_;rintro e w'⟨n,B⟩;rcases n with⟨m,_⟩|⟨_,A,P,I,M,rfl,a,l⟩
   ·exact absurd J m
   ·exact⟨A,P,I,M,rfl,a,l,B⟩
  have k:Hid (∀qs,PG false [] (q2p (btL s)) (.ok qs)->∀t∈qs,k6z t):=fun qs hpg t ht x hx=>by
   have a:=g0x hpg 8 Zl (fun t ht=>by cases ht) qs rfl t ht x hx;rw[y3w]at a;omega
  have h:Hid (∀u C w',Below w w C->PG false [] (q2p (btL s)) (.bad u)->Below w C w'->z3e s w (.returned (.tuple #[.slice none 0 0,.int .i64 (plE (z9u (btL s)) s.size ((q2p (btL s)).length-u.length):Int),.iface 23 (.int .i64 5)])) w'):=fun u C w' hb1 hpg B=>⟨[],_,5,none,0,rfl,q8o.bad J hpg,Prg.nil _ _,Nat.le_refl _,hb1.trans B⟩
  have j:Hid (∀qs A c w',PG false [] (q2p (btL s)) (.ok qs)->(q0t qs).2=0->Prg w' A qs->qs.length<=c->Below w w w'->z3e s w (.returned (.tuple #[.slice A qs.length c,.int .i64 0,.nilIface])) w'):=fun qs A c w' hpg L hP hc B=>⟨qs,0,0,A,c,rfl,q8o.ok J hpg L,hP,hc,B⟩
  have i:Hid (∀qs w',PG false [] (q2p (btL s)) (.ok qs)->(q0t qs).2≠0->Below w w w'->z3e s w (.returned (.tuple #[.slice none 0 0,.int .i64 0,.iface 23 (.int .i64 (q0t qs).2)])) w'):=fun qs w' hpg L B=>⟨[],0,(q0t qs).2,none,0,by rw[q0k L];rfl,q8o.full J hpg L,Prg.nil _ _,Nat.le_refl _,B⟩
  clear f y d S ht J Y o
  generalize(q2p (btL s)).length=nl at V D
  go_in;go_wp2_with fail;refine D.o.mono ?_;rintro e C⟨A,P,I,M,rfl,b⟩;have p:=hid b;have O:Hid (Calls prog 41 #[.slice A nl I,.slice P nl M,.int .i64 (s.size:Int)] C fun e w'=>k0n (q2p (btL s)) (plE (z9u (btL s)) s.size) w.heap.size C e w'):=V.o A P I M C b.1 b.2.1 b.2.2;clear b D V;go_wp2_with fail;refine O.o.mono ?_;intro e N z;cases z with
  | @bad u _ pg B=>
   have H:=hid (h.o u C N p.o.2.2 pg B);clear pg B O;generalize plE (z9u (btL s)) s.size ((q2p (btL s)).length-u.length)=pp at H⊢;go_wp2;refine bodyPost_ret (v:=.tuple #[.slice none 0 0,.int .i64 (pp:Int),.iface 23 (.int .i64 5)]) (by simp[results,Tryz.results14,go_sem]) rfl ?_;exact H.o
  | @ok qs A2 c2 _ pg hp hc B=>
   have Q:Below w w N:=p.o.2.2.trans B;have R:Hid (Calls prog 42 #[.slice A2 qs.length c2] N fun e w'=>e=.returned (.tuple #[.int .i64 ((q0t qs).1:Int),q1m (q0t qs).2])/\Below N N w'):=k3g qs A2 c2 N hc hp (k.o qs pg);by_cases L:(q0t qs).2=0
   ·have H:Hid (∀G,Below N N G->z3e s w (.returned (.tuple #[.slice A2 qs.length c2,.int .i64 0,.nilIface])) G):=fun G hb3=>j.o qs A2 c2 G pg L (hp.W hb3) hc (q0d Q Zl hb3)
    rw[L]at R
    generalize(q0t qs).1=K at R
    clear pg hp hc B Q L O;generalize qs.length=ql at R H⊢;go_wp2_with fail;refine R.o.mono ?_;rintro e G⟨rfl,Z⟩;have U:=hid (H.o G Z);clear Z;rw[q0n];go_wp2;refine bodyPost_ret (v:=.tuple #[.slice A2 ql c2,.int .i64 0,.nilIface]) (by simp[results,Tryz.results14,go_sem]) rfl ?_;exact U.o
   ·have H:Hid (∀G,Below N N G->z3e s w (.returned (.tuple #[.slice none 0 0,.int .i64 0,.iface 23 (.int .i64 (q0t qs).2)])) G):=fun G hb3=>i.o qs G pg L (q0d Q Zl hb3)
    have X:Hid (q1m (q0t qs).2=.iface 23 (.int .i64 (q0t qs).2)):=q0k L
    generalize(q0t qs).2=E at R X H
    generalize(q0t qs).1=K at R
    clear pg hp hc B Q L O;generalize qs.length=ql at R⊢;go_wp2_with fail;refine R.o.mono ?_;rintro e G⟨rfl,Z⟩;have U:=hid (H.o G Z);clear Z;rw[X.o];go_wp2;refine bodyPost_ret (v:=.tuple #[.slice none 0 0,.int .i64 0,.iface 23 (.int .i64 E)]) (by simp[results,Tryz.results14,go_sem]) rfl ?_;exact U.o
 ·have D:Hid (Calls prog 40 #[.string s] w fun e w'=>e=.returned (.tuple #[.slice none 0 0,.slice none 0 0,.int .i64 ((k2a (btL s):Nat):Int),q1m (q7a (btL s))])/\Below w w w'):=by
   refine f.o.mono ?_;rintro e w'⟨n,B⟩;rcases n with⟨_,rfl⟩|⟨m,_⟩
   ·exact⟨rfl,B⟩
   ·exact absurd m J
  have X:Hid (q1m (q7a (btL s))=.iface 23 (.int .i64 (q7a (btL s)))):=q0k J;have H:Hid (∀w',Below w w w'->z3e s w (.returned (.tuple #[.slice none 0 0,.int .i64 ((k2a (btL s):Nat):Int),.iface 23 (.int .i64 (q7a (btL s)))])) w'):=fun w' B=>⟨[],_,_,none,0,by rw[X.o];rfl,q8o.lex J,Prg.nil _ _,Nat.le_refl _,B⟩
  generalize q7a (btL s)=E at D X H
  generalize((k2a (btL s):Nat):Int)=LK at D H
  clear f J ht;go_in;go_wp2_with fail;refine D.o.mono ?_;rintro e C⟨rfl,q⟩;have g:=hid (H.o C q);clear q;rw[X.o];go_wp2;refine bodyPost_ret (v:=.tuple #[.slice none 0 0,.int .i64 LK,.iface 23 (.int .i64 E)]) (by simp[results,Tryz.results14,go_sem]) rfl ?_;exact g.o
end Go.Proofs.YtfdppahhbpfnoaaGreatDoor
