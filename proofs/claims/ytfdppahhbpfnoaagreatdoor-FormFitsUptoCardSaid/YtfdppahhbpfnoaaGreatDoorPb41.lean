import Derived.Test.YtfdppahhbpfnoaaGreatDoorPb39
import Derived.Test.YtfdppahhbpfnoaaGreatDoorPb40
open Go.Proofs.Tryz
namespace Go.Proofs.YtfdppahhbpfnoaaGreatDoor
open Go Go.RowKit
def z3c(G:Nat)(w:World)(a:Option Addr)(ws:List Int):Prop:=
 ∀i(h:i<ws.length),∃b o,a=some ⟨b,o,none⟩/\b<w.heap.size/\G<=b/\w.cell? ⟨b,o+i,none⟩=some (.int .i64 ws[i])
theorem z3c.ints{G:Nat}{w:World}{a:Option Addr}{ws:List Int}(h:z3c G w a ws):q7w w a ws:=by
 intro i B;obtain⟨b,o,e,A,_,c⟩:=h i B;exact⟨b,o,e,A,c⟩
theorem z3c.W{G:Nat}{w w':World}{a:Option Addr}{ws:List Int}(h:z3c G w a ws)(hb:Below w w w'):z3c G w' a ws:=by
 intro i C;obtain⟨b,o,e,A,B,c⟩:=h i C;exact⟨b,o,e,Nat.lt_of_lt_of_le A hb.size,B,(hb.cell (p:=⟨b,o+i,none⟩) A).trans c⟩
theorem z3c.drew{G:Nat}{w:World}{a:Option Addr}{ws:List Int}(h:z3c G w a ws):z3c G w.drew a ws:=h
theorem z3c.down{G G':Nat}{w:World}{a:Option Addr}{ws:List Int}(h:z3c G w a ws)(hg:G'<=G):z3c G' w a ws:=by
 intro i C;obtain⟨b,o,e,A,B,c⟩:=h i C;exact⟨b,o,e,A,Nat.le_trans hg B,c⟩
set_option maxRecDepth 100000
theorem j9d(wd:Int)(w:World):Calls prog 6 #[.int .i64 wd] w fun e w'=>e=.returned (.bool (decide (¬(wd<10\/100<wd))))/\w=w':=by
 by_cases B:wd<10
 ·rw[show decide (¬(wd<10\/100<wd))=false by simp;omega];have A:¬10<=wd:=by omega
  go_in;go_wp2;go_ret;exact⟨rfl,rfl⟩
 ·have A:10<=wd:=by omega
  by_cases C:wd<=100
  ·rw[show decide (¬(wd<10\/100<wd))=true by simp;omega];go_in;go_wp2;go_ret;exact⟨rfl,rfl⟩
  ·rw[show decide (¬(wd<10\/100<wd))=false by simp;omega];go_in;go_wp2;go_ret;exact⟨rfl,rfl⟩
theorem y1g{ps:List (List Td)}{i:Nat}(h:i<ps.length):ps.drop i=ps[i]::ps.drop (i+1):=List.drop_eq_getElem_cons h
theorem j2x{t:List Td}(h:q7f t=0)(n:Nat)(hn:n<=100)(A:Option Addr)(c:Nat)(w:World)(hc:(q4v t).length<=c)(hN:q2e w A (q4v t)):
  Calls prog 71 #[.slice A (q4v t).length c,.int .i64 (n:Int)] w fun e w'=>(∃s wa wl wc,∃q1 q2:Int,e=.returned (.tuple #[.string (wbS s),.slice wa wl wc,.agg #[.int .i64 q1,.int .i64 q2],.nilIface])/\dcL n t=s++[10]/\s.length<=2000000)/\Below w w w':=by
 obtain⟨I,J,E,L⟩:=k1x h;obtain⟨D,G⟩:=j2q (wd:=n) (q7h I J).w E (by rw[E];exact L) hn;have K:(q0j t).best n=some (bs n 0 [(0,q0j t)]):=by rw[q9l,q3c]
 obtain⟨_,C,_⟩:=q7x K
 have H:bT (q4v t) (n:Int)=wbS ((q0j t).txt (bs n 0 [(0,q0j t)]).2):=by
  rw[bT,if_pos D,G,z8t h,C];rfl
 refine(j2t (q4v t) (n:Int) A c hc w hN).mono ?_;rintro e w'⟨⟨wa,wc,rfl,_⟩,B⟩;refine⟨⟨_,wa,_,wc,_,_,by rw[H,D,q0n],rfl,?_⟩,B⟩;exact v8a h C
theorem j4n{tx:ByteArray}(h:q1x tx=0)(n:Nat)(h1:10<=n)(h2:n<=100)(A:Option Addr)(c:Nat)(w:World)(hc:(q0e (btL tx)).length<=c)(hW:Wds w A ((q0e (btL tx)).map wbS)):
  Calls prog 69 #[.slice A (q0e (btL tx)).length c,.int .i64 ((n:Int)-2)] w fun e w'=>(∃L c,e=.returned (.tuple #[.slice L (q2y (n-2) ((q0e (btL tx)).map wbS)).length c,.nilIface])/\q2r w (.slice L (q2y (n-2) ((q0e (btL tx)).map wbS)).length c) (q2y (n-2) ((q0e (btL tx)).map wbS)) w')/\Below w w w':=by
 have e:((n:Int)-2)=((n-2:Nat):Int):=by omega
 have C:q6b ((q0e (btL tx)).map wbS) ((n-2:Nat):Int)=0:=by
  have D:q0s ((q0e (btL tx)).map wbS)=0:=h;rw[q6b,if_neg (by simp[D]),if_neg (by omega)]
 have B:=v6s ((q0e (btL tx)).map wbS) A c (n-2) w (by rw[List.length_map];exact hc) hW C;rw[List.length_map]at B;rw[e];exact B
theorem j7z:∀(ls:List ByteArray),ls≠[]->[35,32]++Lib.join (ls.map fun x=>x.data.toList) [10,35,32]++[10]=ls.flatMap ntF
 | [],h=>absurd rfl h
 | [l],_=>by simp[Lib.join_one,ntF,btL]
 | l::u::r,_=>by
  have ih:=j7z (u::r) (by simp);rw[List.flatMap_cons,<-ih];simp[Lib.join_cons,Lib.joinTail,ntF,btL]
theorem k8n{tx:ByteArray}(n:Nat)(h0:q0e (btL tx)≠[]):ntL n tx=[35,32]++Lib.join ((q2y (n-2) ((q0e (btL tx)).map wbS)).map fun x=>x.data.toList) [10,35,32]++[10]:=by
 have A:q2y (n-2) ((q0e (btL tx)).map wbS)≠[]:=by
  rw[q5m _ (by simpa using h0)];simp
 rw[j7z _ A,ntL,if_neg h0];rfl
set_option maxHeartbeats 4000000
structure y8w(ps:List (List Td))(w:World)(i:Nat)(wr:World):Prop where
 le:i<=ps.length
 z:fmE (ps.drop i)=fmE ps
 b:Below w w wr
theorem z4b{ps:List (List Td)}(J:∀t∈ps,q0b t=0)(c:ps.length<=1000000)(wd:Int)(a:Option Addr)(cap:Nat)(w:World)(hP:Prg w a ps):
  Calls prog 15 #[.slice a ps.length cap,.int .i64 wd] w fun e w'=>e=.returned (.bool (decide (fmE ps=0/\¬(wd<10\/100<wd))))/\Below w w w':=by
 have HP:Hid (Prg w a ps):=hP;have HA:Hid (∀t∈ps,q0b t=0):=J;have y:Hid (Calls prog 6 #[.int .i64 wd] w fun e w'=>e=.returned (.bool (decide (¬(wd<10\/100<wd))))/\w=w'):=j9d wd w;have S:Hid (fmE ps≠0->decide (fmE ps=0/\¬(wd<10\/100<wd))=false):=fun h=>by simp[h]
 have K:Hid (fmE ps=0->decide (fmE ps=0/\¬(wd<10\/100<wd))=decide (¬(wd<10\/100<wd))):=fun h=>by simp[h]
 generalize decide (fmE ps=0/\¬(wd<10\/100<wd))=R at S K⊢;generalize decide (¬(wd<10\/100<wd))=B at y K;clear hP J;generalize hn:ps.length=n at c⊢;have HN:Hid (ps.length=n):=hn;clear hn;have k:Hid (y8w ps w 0 w):=⟨Nat.zero_le _,rfl,Below.refl _ _⟩;go_in;go_wp2_with fail;refine y.o.mono ?_;rintro e w1⟨rfl,rfl⟩;go_wp2_with fail
 go_loopw [6] (fun x wr=>∃i:Nat,x=.int .i64 (i:Int)/\y8w ps w i wr) (fun x _=>n-(intOf x).toNat)
 case atStart=>exact⟨0,rfl,k.o⟩
 case round=>
  obtain⟨i,rfl,H⟩:=hrel;have Ad:=HN.o;have Ac:=H.le;by_cases Ae:i<n
  ·have s:(i:Int)<(n:Int):=by omega
   have Z:i<ps.length:=by omega
   obtain⟨b0,o0,A0,c0,rfl,Aa,p,L,D⟩:=(HP.o.W H.b) i Z;have A:=HA.o ps[i] (List.getElem_mem _);obtain⟨E,b2,o2,rfl,Ab,o,_⟩:=z9p A D;have M:(0:Int)<(ps[i].length:Int):=by omega
   have I:=y1g Z;have G:=H.z;rw[I]at G;have P:=(show Hid (_=_)from G);have Q:Hid (Below w w wr):=H.b;by_cases C:opT ps[i]=9
   ·rw[C]at o;have l:Hid (y8w ps w (i+1) wr):=⟨by omega,(by have:=P.o;rw[z8e (z9t C)]at this;exact this),Q.o⟩;clear H I G A D C P L;generalize ps[i].length=tn at p M E;go_wp2;refine⟨⟨i+1,by go_num,l.o⟩,?_⟩;simp[intOf];omega
   ·have V:(opT ps[i]==9)=false:=by simp[C]
    have X:(opT ps[i] != 9)=true:=by simp[C]
    have O:Hid (Calls prog 26 #[.slice (some ⟨b2,o2,none⟩) ps[i].length c0,.int .i64 0] wr fun e w'=>NdR wr (q0j ps[i]).N e w'):=y7u A C wr D;have d:=(q7h A C).n;by_cases f:400<(q0j ps[i]).N.length
    ·have q:pgE ps[i]≠0:=by rw[pgE,if_neg C,if_pos f];decide
     have j:Hid (R=false):=S.o (by have:=P.o;rw[k4t q]at this;rw[<-this];exact q);clear H I G A D C P L q
     generalize(q0j ps[i]).N=xs at O f d
     generalize opT ps[i]=op0 at o V X;generalize ps[i].length=tn at p M E O;have u:(400:Int)<(xs.length:Int):=by omega
     go_wp2_with fail;refine O.o.mono ?_;rintro e v⟨A3,k3,rfl,_,U⟩;have g:Hid (Below w w v):=q0d Q.o Zl U;clear U;go_wp2;go_ret;exact⟨by rw[j.o];rfl,g.o⟩
    ·have e0:pgE ps[i]=0:=by rw[pgE,if_neg C,if_neg f]
     have m:Hid (fmE (ps.drop (i+1))=fmE ps):=(show _=_ by have:=P.o;rw[z8e e0]at this;exact this);clear H I G A D C P L e0
     generalize(q0j ps[i]).N=xs at O f d
     generalize opT ps[i]=op0 at o V X;generalize ps[i].length=tn at p M E O;have u:¬(400:Int)<(xs.length:Int):=by omega
     go_wp2_with fail;refine O.o.mono ?_;rintro e v⟨A3,k3,rfl,_,U⟩;have l:Hid (y8w ps w (i+1) v):=⟨by omega,m.o,q0d Q.o Zl U⟩;clear U;go_wp2;refine⟨⟨i+1,by go_num,l.o⟩,?_⟩;simp[intOf];omega
  ·have s:¬(i:Int)<(n:Int):=by omega
   have Y:ps.drop i=[]:=List.drop_eq_nil_of_le (by omega);have r:=H.z;rw[Y]at r;have j:Hid (R=B):=K.o r.symm;have Q:Hid (Below w w wr):=H.b;clear H Y r;go_wp2;go_ret;exact⟨by rw[j.o];rfl,Q.o⟩
set_option maxHeartbeats 8000000
theorem v9b{n:Nat}(h1:10<=n)(h2:n<=100)(w:World):Calls prog 28 #[.int .i64 (n:Int)] w fun e w'=>e=.returned .nilIface/\w=w':=by
 have A:¬(n:Int)<10:=by omega
 have B:¬100<(n:Int):=by omega
 go_in;go_wp2;go_ret;exact⟨rfl,rfl⟩
theorem y7o{wd:Int}(h:wd<10\/100<wd)(w:World):Calls prog 28 #[.int .i64 wd] w fun e w'=>e=.returned (.iface 23 (.int .i64 1))/\w=w':=by
 by_cases A:wd<10
 ·go_in;go_wp2;go_ret;exact⟨rfl,rfl⟩
 ·have B:100<wd:=by omega
  go_in;go_wp2;go_ret;exact⟨rfl,rfl⟩
theorem j8v{t:List Td}(h:q0b t=0)(h9:opT t=9)(n:Nat)(Aa:10<=n)(Ab:n<=100)(a:Option Addr)(cap:Nat)(w:World)(hc:t.length<=cap)(hN:Tds w a t)(U:k6z t)(ht:z1a w):
  Calls prog 30 #[.slice a t.length cap,.int .i64 (n:Int)] w fun e w'=>e=.returned (.tuple #[.string (wbS (q6y n t)),.nilIface])/\Below w w w':=by
 obtain⟨_,_,v,o⟩:=z8s h h9;have I:=j7x h h9;rw[k2u h h9]
 have D:Hid (Calls prog 68 #[.slice a t.length cap] w fun e w'=>(∃A c,e=.returned (.tuple #[.slice A (q0e (btL (txT t))).length c,.nilIface])/\Wds w' A ((q0e (btL (txT t))).map wbS)/\(q0e (btL (txT t))).length<=c)/\Below w w w'):=by
  refine(k5u t a cap w ht hc hN U).mono ?_;rintro e w'⟨⟨A,c,he,hW,z⟩,hb⟩;rw[o]at hW z;rw[List.length_map]at z;exact⟨⟨A,c,by rw[he,v,o,q0n,List.length_map],hW,z⟩,hb⟩
 have C:Hid (∀(W:World)(A:Option Addr)(c:Nat),(q0e (btL (txT t))).length<=c->Wds W A ((q0e (btL (txT t))).map wbS)->Calls prog 69 #[.slice A (q0e (btL (txT t))).length c,.int .i64 ((n:Int)-2)] W fun e w'=>(∃L c,e=.returned (.tuple #[.slice L (q2y (n-2) ((q0e (btL (txT t))).map wbS)).length c,.nilIface])/\q2r W (.slice L (q2y (n-2) ((q0e (btL (txT t))).map wbS)).length c) (q2y (n-2) ((q0e (btL (txT t))).map wbS)) w')/\Below W W w'):=fun W A c q1 q2=>j4n I n Aa Ab A c W q1 q2
 have y:=k8k I;by_cases N:q0e (btL (txT t))=[]
 ·have Q:Hid (ntL n (txT t)=[35,10]):=(show _=_ by rw[ntL,if_pos N]);generalize ntL n (txT t)=L at Q⊢;rw[N]at D C;simp only[List.map_nil,q5n,List.length_nil]at D C;clear hN U ht v o I h h9 y N;go_in;go_wp2_with fail;refine D.o.mono ?_;rintro e E⟨⟨X,R,rfl,G,H⟩,Z⟩;have O:Hid (Below w w E):=Z;have K:Hid (Calls prog 69 #[.slice X 0 R,.int .i64 ((n:Int)-2)] E fun e w'=>(∃L c,e=.returned (.tuple #[.slice L 0 c,.nilIface])/\q2r E (.slice L 0 c) [] w')/\Below E E w'):=C.o E X R H G;clear Z G H C D;go_wp2_with fail;refine K.o.mono ?_;rintro e V⟨⟨p,u,rfl,_⟩,b⟩;have P:Hid (Below w w V):=q0d O.o Zl b;clear b;go_wp2;go_ret2;exact⟨by rw[Q.o];rfl,P.o⟩
 ·have k:=q9t (n-2) _ ((q0e (btL (txT t))).map wbS) Zl;have i:=y.1
  have M:q2y (n-2) ((q0e (btL (txT t))).map wbS)≠[]:=by
   rw[q5m _ (by simpa using N)];simp
  have Q:Hid (wbS (ntL n (txT t))=(⟨#[35,32]⟩:ByteArray)++wbS (Lib.join ((q2y (n-2) ((q0e (btL (txT t))).map wbS)).map fun x=>x.data.toList) [10,35,32])++(⟨#[10]⟩:ByteArray)):=by
   show _=_;rw[k8n n N,<-q2l,<-q2l];rfl
  have d:=j7y I n
  have S:(wbS (Lib.join ((q2y (n-2) ((q0e (btL (txT t))).map wbS)).map fun x=>x.data.toList) [10,35,32])).size<=100000:=by
   rw[k8n n N,List.length_append,List.length_append]at d;rw[q7s];omega
  have l:0<(q0e (btL (txT t))).length:=List.length_pos_iff.2 N;generalize ntL n (txT t)=L at Q⊢;generalize q2y (n-2) ((q0e (btL (txT t))).map wbS)=ls at C Q k S M
  have s:Hid (∀(W:World)(A:Option Addr)(c B:Nat),q2r B (.slice A ls.length c) ls W->Calls prog 70 #[.slice A ls.length c,.string ⟨#[10,35,32]⟩] W fun e w'=>e=.returned (.string (wbS (Lib.join (ls.map fun x=>x.data.toList) [10,35,32])))/\Below W W w'):=fun W A c B hS=>by
   obtain⟨_,q2,hA⟩:=k3c hS;have Ac:=List.length_pos_iff.2 M;rcases hA with⟨_,q,_⟩|⟨g,rfl,hg⟩
   ·omega
   ·refine join_sh g 0 c ls ⟨#[10,35,32]⟩ W ?_ hg (by omega) q2 ?_
    ·intro j x hx;obtain⟨hj,rfl⟩:=List.getElem?_eq_some_iff.1 hx;obtain⟨b',o',e,_,R⟩:=z0m hS j hj;simp only[Option.some.injEq,Addr.mk.injEq,and_true]at e;obtain⟨rfl,rfl⟩:=e;exact R
    ·rw[q7s]at S
     show(Lib.join (ls.map fun x=>x.data.toList) [10,35,32]).length<=_
     omega
  generalize wbS (Lib.join (ls.map fun x=>x.data.toList) [10,35,32])=J at s Q S
  generalize(q0e (btL (txT t))).map wbS=ws at D C
  generalize(q0e (btL (txT t))).length=nw at D C l
  have m:((ls.length:Int)==0)=false:=by
   have:=List.length_pos_iff.2 M
   simp;omega
  have g1:¬9223372036854775807<2+J.size:=by omega
  have g2:¬9223372036854775807<2+J.size+1:=by omega
  clear hN U ht v o I h h9 y N d k i M;go_in;go_wp2_with fail;refine D.o.mono ?_;rintro e E⟨⟨X,R,rfl,G,H⟩,Z⟩;have O:Hid (Below w w E):=Z;have K:Hid (Calls prog 69 #[.slice X nw R,.int .i64 ((n:Int)-2)] E fun e w'=>(∃L c,e=.returned (.tuple #[.slice L ls.length c,.nilIface])/\q2r E (.slice L ls.length c) ls w')/\Below E E w'):=C.o E X R H G;clear Z G H C D;go_wp2_with fail;refine K.o.mono ?_;rintro e V⟨⟨p,u,rfl,f⟩,b⟩;have P:Hid (Below w w V):=q0d O.o Zl b;have Y:Hid (Calls prog 70 #[.slice p ls.length u,.string ⟨#[10,35,32]⟩] V fun e w'=>e=.returned (.string J)/\Below V V w'):=s.o V p u _ f;clear b f s K;generalize ls.length=nl at Y m⊢;go_wp2_with fail;refine Y.o.mono ?_;rintro e w3⟨rfl,b3⟩;have r:Hid (Below w w w3):=q0d P.o Zl b3;clear b3;go_wp2;go_ret2;exact⟨by rw[Q.o];rfl,r.o⟩
theorem j1f{t:List Td}(h:q0b t=0)(h9:opT t≠9)(n:Nat)(f:n<=100)(a:Option Addr)(cap:Nat)(w:World)(hc:t.length<=cap)(hN:Tds w a t)(H:k6z t)(ht:z1a w):
  Calls prog 31 #[.slice a t.length cap,.int .i64 (n:Int)] w fun e w'=>e=.returned (.tuple #[.string (if pgE t=0 then wbS (q6y n t)else⟨#[]⟩),q1m (pgE t)])/\Below w w w':=by
 have B:Hid (Calls prog 18 #[.slice a t.length cap] w fun e w'=>(∃A c,e=.returned (.tuple #[.slice A (q4v t).length c,q1m (q7f t)])/\q2e w' A (q4v t)/\(q4v t).length<=c)/\Below w w w'):=z6h t a cap w ht.pow hc hN H;rw[j8q h h9,z9k h h9];by_cases D:q7f t=0
 ·have C:Hid (∀(W:World)(A:Option Addr)(c:Nat),(q4v t).length<=c->q2e W A (q4v t)->Calls prog 71 #[.slice A (q4v t).length c,.int .i64 (n:Int)] W fun e w'=>(∃s V X wc,∃I J:Int,e=.returned (.tuple #[.string (wbS s),.slice V X wc,.agg #[.int .i64 I,.int .i64 J],.nilIface])/\dcL n t=s++[10]/\s.length<=2000000)/\Below W W w'):=fun W A c I J=>j2x D n f A c W I J
  rw[if_pos D,D,q0n];rw[D,q0n]at B;generalize dcL n t=L at C⊢;generalize q4v t=xs at B C;clear hN H ht h h9 D;go_in;go_wp2_with fail;refine B.o.mono ?_;rintro e K⟨⟨Y,b,rfl,O,P⟩,U⟩;have Z:Hid (Below w w K):=U;have G:Hid (Calls prog 71 #[.slice Y xs.length b,.int .i64 (n:Int)] K fun e w'=>(∃s V X wc,∃I J:Int,e=.returned (.tuple #[.string (wbS s),.slice V X wc,.agg #[.int .i64 I,.int .i64 J],.nilIface])/\L=s++[10]/\s.length<=2000000)/\Below K K w'):=C.o K Y b P O;clear U O P C B;generalize xs.length=nx at G⊢;go_wp2_with fail;refine G.o.mono ?_;rintro e j⟨⟨s,V,X,wc,I,J,rfl,i,Q⟩,g⟩;have M:Hid (Below w w j):=q0d Z.o Zl g;have N:Hid (wbS L=wbS s++(⟨#[10]⟩:ByteArray)):=(show _=_ by rw[i,<-q2l];rfl);have d:(wbS s).size<=2000000:=by rw[q7s];exact Q
  clear g i Q G;generalize wbS s=S at N d⊢;have k:¬9223372036854775807<S.size+1:=by omega
  go_wp2;go_ret2;exact⟨by rw[N.o];rfl,by first|exact M.o|exact q0d M.o Zl (q2m j _)⟩
 ·rw[if_neg D];have R:=(show Hid (_=_)from q0k D);generalize q1m (q7f t)=E at B R⊢;generalize q4v t=xs at B;generalize q7f t=z at R;clear hN H ht h h9 D;go_in;go_wp2_with fail;refine B.o.mono ?_;rintro e K⟨⟨Y,b,rfl,_,_⟩,U⟩;rw[R.o];generalize xs.length=nx;go_wp2;go_ret2;exact⟨by rw[R.o];rfl,U⟩
theorem j8h:y8z:=by
 intro t a D U w g L A Q;by_cases M:U<10\/100<U
 ·have X:Hid (Calls prog 28 #[.int .i64 U] w fun e w'=>e=.returned (.iface 23 (.int .i64 1))/\w=w'):=y7o M w;have B:z2e t U=1:=by rw[z2e,if_pos M]
  rw[z9l (by rw[B];decide),B];clear L A Q B M;go_in;go_wp2_with fail;refine X.o.mono ?_;rintro e i⟨rfl,rfl⟩;go_wp2;go_ret2;exact⟨rfl,Below.refl _ _⟩
 ·obtain⟨n,rfl⟩:∃n:Nat,U=(n:Int):=⟨U.toNat,by omega⟩;have Z:10<=n:=by omega
  have O:n<=100:=by omega
  have X:Hid (Calls prog 28 #[.int .i64 (n:Int)] w fun e w'=>e=.returned .nilIface/\w=w'):=v9b Z O w;have V:Hid (Calls prog 29 #[.slice a t.length D] w fun e w'=>e=.returned (q1m (q0b t))/\Below w w w'):=q6q t a D w g L A;by_cases H:q0b t=0
  ·obtain⟨l,b,o,rfl,p,d,P⟩:=z9p H L;have I:Hid (∀W:World,Below w w W->W.cell? ⟨b,o,none⟩=some (.int .i64 (opT t))):=fun W h=>((q1o h).1 _ _ p).trans d
   have q:(0:Int)<(t.length:Int):=by omega
   have B:z2e t (n:Int)=pgE t:=z9j M H;rw[H]at V;by_cases K:opT t=9
   ·have C:Hid (∀W:World,Below w w W->Calls prog 30 #[.slice (some ⟨b,o,none⟩) t.length D,.int .i64 (n:Int)] W fun e w'=>e=.returned (.tuple #[.string (wbS (q6y n t)),.nilIface])/\Below W W w'):=fun W h=>j8v H K n Z O _ D W g (L.W h) A (Q.W h)
    rw[K]at I;rw[z9m (by rw[B];exact z9t K),B,z9t K,q0n];clear L A Q B M d P H K;generalize wbS (q6y n t)=S at C⊢;go_in;go_wp2_with fail;refine X.o.mono ?_;rintro e i⟨rfl,rfl⟩;go_wp2_with fail;refine V.o.mono ?_;rintro e R⟨rfl,J⟩;rw[q0n];have P:=I.o R J;have G:Hid (Below w w R):=J;clear J;go_wp2_with fail;refine(C.o _ G.o).mono ?_;rintro e j⟨rfl,Y⟩;have N:Hid (Below w w j):=q0d G.o Zl Y;clear Y P;go_wp2;go_ret2;exact⟨rfl,N.o⟩
   ·have C:Hid (∀W:World,Below w w W->Calls prog 31 #[.slice (some ⟨b,o,none⟩) t.length D,.int .i64 (n:Int)] W fun e w'=>e=.returned (.tuple #[.string (j8g t (n:Int)),q1m (z2e t (n:Int))])/\Below W W w'):=fun W h=>by
     have k:=j1f H K n O (some ⟨b,o,none⟩) D W g (L.W h) A (Q.W h);have m:(if pgE t=0 then wbS (q6y n t)else⟨#[]⟩)=j8g t (n:Int):=by rw[j8g,B];rfl
     rw[m,<-B]at k;exact k
    have f:(opT t==9)=false:=by simp[K]
    clear L A Q B M d P H K;generalize opT t=op0 at I f;generalize j8g t (n:Int)=S at C⊢;generalize q1m (z2e t (n:Int))=E at C⊢;go_in;go_wp2_with fail;refine X.o.mono ?_;rintro e i⟨rfl,rfl⟩;go_wp2_with fail;refine V.o.mono ?_;rintro e R⟨rfl,J⟩;rw[q0n];have P:=I.o R J;have G:Hid (Below w w R):=J;clear J;go_wp2_with fail;refine(C.o _ G.o).mono ?_;rintro e j⟨rfl,Y⟩;have N:Hid (Below w w j):=q0d G.o Zl Y;clear Y P;go_wp2;go_ret2;exact⟨rfl,N.o⟩
  ·have B:z2e t (n:Int)=q0b t:=by rw[z2e,if_neg M,if_pos H]
   rw[z9l (by rw[B];exact H),B];have c:Hid (q1m (q0b t)=.iface 23 (.int .i64 (q0b t))):=q0k H;generalize q1m (q0b t)=E at V c⊢;generalize q0b t=z at c;clear L A Q B M H;go_in;go_wp2_with fail;refine X.o.mono ?_;rintro e i⟨rfl,rfl⟩;go_wp2_with fail;refine V.o.mono ?_;rintro e R⟨rfl,J⟩;rw[c.o];go_wp2;go_ret2;exact⟨by rw[c.o];rfl,J⟩
structure y4r(ps:List (List Td))(n:Nat)(w0:World)(i:Nat)(wr:World):Prop where
 le:i<=ps.length
 z:fmE (ps.drop i)=fmE ps
 x:IsX 81 w0.heap.size w0.heap.size (Lib.byteCells (k1j n (ps.take i))) [] wr
 bl:Below w0 w0 wr
 ln:(k1j n (ps.take i)).length<=i*2000001
theorem g0m:z0y 81 2:=by unfold z0y;kernel_rfl
theorem g1v:81≠5:=by decide
theorem v5g{s:ByteArray}{ps:List (List Td)}{k:Int}(h:q8o s ps k 0):∀t∈ps,k6z t:=fun t ht x hx=>Nat.le_trans (j8y (z2x h).2.1 t ht x hx) (by decide)
theorem v5c{ps:List (List Td)}{i:Nat}(h:i<ps.length):ps.drop i=ps[i]::ps.drop (i+1):=List.drop_eq_getElem_cons h
theorem v5d{ps:List (List Td)}{i:Nat}(wd:Nat)(h:i<ps.length):k1j wd (ps.take (i+1))=k1j wd (ps.take i)++q6y wd ps[i]:=by
 rw[k1j,List.take_succ_eq_append_getElem h,List.flatMap_append];simp[k1j]
theorem y1m:g1j:=by
 intro s b w ht;by_cases u:b<10\/100<b
 ·have HW:Hid (Calls prog 28 #[.int .i64 b] w fun e H=>e=.returned (.iface 23 (.int .i64 1))/\w=H):=y7o u w;have I:Hid (z3b s b w (.returned (.tuple #[.string ⟨#[]⟩,.int .i64 0,q1m 1])) w):=⟨_,_,_,rfl,.range u,Below.refl _ _⟩;clear ht u;go_in;go_wp2_with fail;refine HW.o.mono ?_;rintro e w1⟨rfl,rfl⟩;go_wp2;go_ret3;exact I.o
 ·obtain⟨n,rfl⟩:∃n:Nat,b=(n:Int):=⟨b.toNat,by omega⟩;have Aj:10<=n:=by omega
  have Ak:n<=100:=by omega
  have K:Hid (¬((n:Int)<10\/100<(n:Int))):=u;have HW:Hid (Calls prog 28 #[.int .i64 (n:Int)] w fun e H=>e=.returned .nilIface/\w=H):=v9b Aj Ak w;have Ae:Hid (Calls prog 14 #[.string s] w fun e H=>∃ps k f A c,e=.returned (.tuple #[.slice A ps.length c,.int .i64 k,q1m f])/\q8o s ps k f/\Prg H A ps/\ps.length<=c/\Below w w H):=z2h s w ht;have HT:Hid (z1a w):=ht;clear ht u;go_in;go_wp2_with fail;refine HW.o.mono ?_;rintro e w1⟨rfl,rfl⟩;go_wp2_with fail;refine Ae.o.mono ?_;rintro e B⟨ps,k,f,A,c,rfl,a,hP,_,l⟩;have g:Hid (Below w w B):=l;by_cases y:f=0
  ·subst y;obtain⟨rfl,_,p,P⟩:=z2x a;have Ab:=(show Hid (∀t∈ps,k6z t)from v5g a);have d:Hid (∀t∈ps,q0b t=0):=P;have j:Hid (q8o s ps 0 0):=a;have HP:Hid (Prg B A ps):=hP;have Af:Hid (z1a B):=HT.o.W l;have Ad:Hid (y4r ps n B 0 (B.alloc (.cells #[.pointer none,.slice none 0 0] 81))):=⟨Nat.zero_le _,rfl,IsX.fresh 81 B [],q2m B _,by simp[k1j]⟩;rw[q0n];clear a hP l P;generalize r:ps.length=np at p⊢;have Ac:Hid (ps.length=np):=r;clear r;go_wp2_with fail
   go_loopw [31] (fun x wr=>∃i:Nat,x=.int .i64 (i:Int)/\y4r ps n B i wr) (fun x _=>np-(intOf x).toNat)
   case atStart=>exact⟨0,rfl,Ad.o⟩
   case round=>
    obtain⟨i,rfl,D⟩:=hrel;have An:=Ac.o;have Am:=D.le;have Ao:=D.ln;by_cases Ap:i<np
    ·have Ah:(i:Int)<(np:Int):=by omega
     have X:i<ps.length:=by omega
     obtain⟨b0,o0,A0,c0,rfl,Al,d0,U,R⟩:=(HP.o.W D.bl) i X;have L:=d.o ps[i] (List.getElem_mem _);have C:Hid (Calls prog 9 #[.slice A0 ps[i].length c0,.int .i64 (n:Int)] wr fun e H=>e=.returned (.tuple #[.string (j8g ps[i] (n:Int)),q1m (z2e ps[i] (n:Int))])/\Below wr wr H):=j8h ps[i] A0 c0 (n:Int) wr U R (Ab.o ps[i] (List.getElem_mem _)) (Af.o.W D.bl);have Z:z2e ps[i] (n:Int)=pgE ps[i]:=z9j K.o L;have V:=v5c X;have M:=D.z;rw[V]at M;have v:=(show Hid (_=_)from M);have J:=(show Hid (_=_)from v5d (ps:=ps) n X);have HV:Hid (y4r ps n B i wr):=D;by_cases G:pgE ps[i]=0
     ·have Ai:=j8i L G n;rw[z9m (by rw[Z];exact G),Z,G,q0n]at C
      have h:Hid (∀W,Below wr wr W->Calls prog 38 #[.pointer (some ⟨B,0,none⟩),.string (wbS (q6y n ps[i]))] W fun e H=>(∃z,e=.returned (.tuple #[z,.nilIface]))/\y4r ps n B (i+1) H):=fun W hb=>by
       have Aq:=D.bl.size;refine(q9h 81 B.heap.size B.heap.size (Lib.byteCells (k1j n (ps.take i))) [] (wbS (q6y n ps[i])) W g0m g1v (D.x.grew hb) (by rw[Lib.byteCells_length,q7s];omega) (by have:=hb.size;omega)).mono ?_;rintro e H⟨rfl,q1,q2,_⟩;refine⟨⟨_,rfl⟩,by omega,?_,?_,?_,?_⟩
       ·have:=v.o
        rw[z8e G]at this;exact this
       ·rw[J.o,q3z];exact q1
       ·exact(q0d D.bl Zl hb).trans (q2.W Zl)
       ·rw[J.o,List.length_append];omega
      clear D V M L R U Z G Ai v J;generalize wbS (q6y n ps[i])=S at C h;generalize ps[i].length=tn at d0 C;go_wp2_with fail;refine C.o.mono ?_;rintro e Y⟨rfl,O⟩;have Aa:Hid (Below wr wr Y):=O;clear O;go_wp2_with fail;refine(h.o _ Aa.o).mono ?_;rintro e w4⟨⟨q,rfl⟩,h4⟩;have Ag:Hid (y4r ps n B (i+1) w4):=h4;clear h4;go_wp2;refine⟨⟨i+1,by go_num,Ag.o⟩,?_⟩;simp[intOf];omega
     ·have I:Hid (∀W,Below wr wr W->z3b s (n:Int) w (.returned (.tuple #[.string ⟨#[]⟩,.int .i64 0,q1m (pgE ps[i])])) W):=fun W hb=>by
       have q:=v.o;rw[k4t G]at q;have q2:=k0m.full K.o j.o (by rw[<-q];exact G);rw[<-q]at q2;exact⟨_,_,_,rfl,q2,q0d g.o Zl (q0d D.bl Zl hb)⟩
      have N:=(show Hid (_=_)from q0k G);rw[z9l (by rw[Z];exact G),Z]at C;clear D V M L R U Z G v J;generalize q1m (pgE ps[i])=E at C I N;generalize pgE ps[i]=z at N;generalize ps[i].length=tn at d0 C;go_wp2_with fail;refine C.o.mono ?_;rintro e Y⟨rfl,O⟩;have Q:Hid (z3b s (n:Int) w (.returned (.tuple #[.string ⟨#[]⟩,.int .i64 0,E])) Y):=I.o Y O;clear O;rw[N.o];go_wp2;go_ret3;rw[<-N.o];exact Q.o
    ·have Ah:¬(i:Int)<(np:Int):=by omega
     have o:ps.take i=ps:=List.take_of_length_le (by omega);have m:ps.drop i=[]:=List.drop_eq_nil_of_le (by omega);have G:=D.z;rw[m]at G;have hx:=D.x;rw[o]at hx;have HO:Hid (Calls prog 39 #[.pointer (some ⟨B,0,none⟩)] wr fun e H=>e=.returned (.string (wbS (k1j n ps)))/\Below B wr H):=k0h _ _ _ _ _ _ hx;have I:Hid (∀W,Below B wr W->z3b s (n:Int) w (.returned (.tuple #[.string (wbS (k1j n ps)),.int .i64 0,q1m 0])) W):=fun W hb=>⟨_,_,_,rfl,.ok K.o j.o G.symm,q0d g.o Zl (D.bl.trans hb)⟩
     clear D o m G hx;generalize wbS (k1j n ps)=S at HO I;go_wp2_with fail;refine HO.o.mono ?_;rintro e Y⟨rfl,O⟩;have Q:Hid (z3b s (n:Int) w (.returned (.tuple #[.string S,.int .i64 0,q1m 0])) Y):=I.o Y O;clear O;go_wp2;go_ret3;exact Q.o
  ·have I:Hid (z3b s (n:Int) w (.returned (.tuple #[.string ⟨#[]⟩,.int .i64 k,q1m f])) B):=⟨_,_,_,rfl,.bad K.o a y,l⟩;have N:=(show Hid (_=_)from q0k y);generalize q1m f=E at I N⊢;clear a hP l y;rw[N.o];generalize ps.length=np;go_wp2;go_ret3;rw[<-N.o];exact I.o
def fxF:List Td:=[⟨7,⟨#[97]⟩,0⟩,⟨3,⟨#[102]⟩,2⟩,⟨1,⟨#[]⟩,1⟩,⟨1,⟨#[]⟩,2⟩]
abbrev y9d:ByteArray:=⟨#[108,101,116,32,97,61,102,40,49,44,50,41,59]⟩
abbrev y9e:ByteArray:=⟨#[108,101,116,32,97,32,61,32,102,40,49,44,32,50,41,59,10]⟩
theorem j5i:(q0t [fxF]).2=0:=by decide +kernel
theorem v7s:q5i fxF=[108,101,116,32,97,32,61,32,102,40,49,44,32,50,41,59]:=by decide +kernel
theorem g0d:fmE [fxF]=0:=by decide +kernel
theorem y1p:q8o y9d [fxF] 0 0:=by
 refine .ok (by decide +kernel) ?_ j5i;have h:=k8z [fxF] 0 false [] (q6j j5i).2 (fun h=>by cases h);have e:[fxF].flatMap q8p=q2p (btL y9d):=by decide +kernel
 rw[e]at h;exact h
theorem y1o{T:ByteArray}{k f:Int}(h:k0m y9d 40 T k f):T=y9e/\k=0/\f=0:=by
 have A:=k0m.ok (s:=y9d) (wd:=40) (by decide) y1p g0d
 have C:wbS (k1j (40:Int).toNat [fxF])=y9e:=by
  have B:k1j (40:Int).toNat [fxF]=q6y 40 fxF:=by simp[k1j]
  rw[B,z9o (z1t _ _ (q6j j5i).2 fxF (by simp)) (by rw[v7s];decide),v7s];rfl
 rw[C]at A;exact v3m h A
theorem k1l(hF:g1j)(s:ByteArray)(wd I:Int)(w:World)(ht:z1a w):
  Calls prog 4 #[.string s,.int .i64 wd,.int .i64 I] w fun e w'=>e=.returned (.bool true)/\Below w w w':=by
 have H:Hid (∀(W:World)(s:ByteArray)(wd:Int),Below w w W->Calls prog 13 #[.string s,.int .i64 wd] W fun e w'=>∃T k f,e=.returned (.tuple #[.string T,.int .i64 k,q1m f])/\k0m s wd T k f/\Below W W w'):=fun W s wd h=>hF s wd W (ht.W h)
 have Z:Hid (∀(W:World)(s:ByteArray),Below w w W->Calls prog 14 #[.string s] W fun e w'=>∃B k f A c,e=.returned (.tuple #[.slice A B.length c,.int .i64 k,q1m f])/\q8o s B k f/\Prg w' A B/\B.length<=c/\Below W W w'):=fun W s h=>z2h s W (ht.W h)
 have Ai:(y9e.toList==y9e.toList)=true:=by simp
 clear hF ht;go_in;go_wp2_with fail;refine(H.o _ _ _ Zb).mono ?_;rintro e w1⟨T0,k0,f0,rfl,x,b1⟩;obtain⟨rfl,rfl,rfl⟩:=y1o x;rw[q0n];have Q:Hid (Below w w w1):=b1;clear b1 x;go_wp2_with fail;refine(H.o _ _ _ Q.o).mono ?_;rintro e w2⟨T,k,f,rfl,v,b2⟩;have G:Hid (Below w w w2):=q0d Q.o Zl b2;clear b2 Q;by_cases hf:f=0
 ·subst hf;obtain⟨B,M,Ae⟩:=j5c v;obtain⟨_,_,Ac,_⟩:=z2x M;have O:=(v5b M).2;have K:Hid (q8o s B 0 0):=M;have L:Hid (q8o T B 0 0):=Ae;have o:Hid (k0m s wd T k 0):=v;have p:Hid (∀(W:World)(A A2:Option Addr)(c c2:Nat),Prg W A B->Prg W A2 B->Calls prog 16 #[.slice A B.length c,.slice A2 B.length c2] W fun e w'=>e=.returned (.bool true)/\∃q,w'=W.drewN q):=fun W A A2 c c2 h1 h2=>j1s B B A A2 c c2 (by omega) (fun t ht=>by have:=O t ht;omega) true (by simp) W h1 h2
  rw[q0n];clear M Ae v O;go_wp2_with fail;refine(Z.o _ _ G.o).mono ?_;rintro e P⟨i,k3,f3,b,r,rfl,C,E,_,d⟩;obtain⟨rfl,rfl,rfl⟩:=q1r K.o C;rw[q0n];have D:Hid (Below w w P):=q0d G.o Zl d;have m:Hid (Prg P b B):=E;clear d G C E;go_wp2_with fail;refine(Z.o _ _ D.o).mono ?_;rintro e a⟨i,k4,f4,A4,c4,rfl,y,u,_,g⟩;obtain⟨rfl,rfl,rfl⟩:=q1r L.o y;rw[q0n];have J:Hid (Below w w a):=q0d D.o Zl g;have Y:Hid (Calls prog 16 #[.slice b B.length r,.slice A4 B.length c4] a fun e w'=>e=.returned (.bool true)/\∃q,w'=a.drewN q):=p.o a b A4 r c4 (m.o.W g) u;clear g D y u m p;generalize B.length=np at Y⊢;go_wp2_with fail;refine Y.o.mono ?_;rintro e w5⟨rfl,q5,rfl⟩;have R:Hid (Below w w (a.drewN q5)):=q3b J.o q5;clear Y J;go_wp2_with fail;refine(H.o _ _ _ R.o).mono ?_;rintro e w6⟨U,k6,f6,rfl,z,b6⟩;obtain⟨rfl,_,rfl⟩:=z8g K.o L.o o.o z;rw[q0n];have S:Hid (Below w w w6):=q0d R.o Zl b6;have Ag:(T.toList==T.toList)=true:=by simp
  have Af:(T.toList != T.toList)=false:=by simp
  clear b6 R z o;go_wp2_with fail;refine(H.o _ _ _ S.o).mono ?_;rintro e w7⟨U7,k7,f7,rfl,Aa,b7⟩;have n:Hid (k0m s I U7 k7 f7):=Aa;have V:Hid (Below w w w7):=q0d S.o Zl b7;clear b7 S Aa;go_wp2_with fail;refine(H.o _ _ _ V.o).mono ?_;rintro e w8⟨U8,k8,f8,rfl,Ab,b8⟩;obtain⟨rfl,rfl,rfl⟩:=z8g K.o L.o n.o Ab;have j:Hid (Below w w w8):=q0d V.o Zl b8;have Ah:(U7.toList==U7.toList)=true:=by simp
  clear b8 V Ab n K L;by_cases h7:f7=0
  ·subst h7;rw[q0n];go_wp2
   go_quiet (fail)
   go_wp2;go_ret;exact⟨rfl,q3b j.o _⟩
  ·rw[q0k h7];clear h7;go_wp2
   go_quiet (fail)
   go_wp2;go_ret;exact⟨rfl,q3b j.o _⟩
 ·have X:Hid (∀B k',q8o s B k' 0->¬(fmE B=0/\¬(wd<10\/100<wd))):=fun B k' hp=>v3n v hf hp
  rw[q0k hf];clear hf v;go_wp2_with fail;refine(Z.o _ _ G.o).mono ?_;rintro e P⟨i,k3,f3,b,r,rfl,C,E,_,d⟩;have D:Hid (Below w w P):=q0d G.o Zl d;by_cases h3:f3=0
  ·subst h3;obtain⟨_,_,Ac,N⟩:=z2x C;have Ad:=X.o i k3 C
   have l:Hid (Calls prog 15 #[.slice b i.length r,.int .i64 wd] P fun e w'=>e=.returned (.bool false)/\Below P P w'):=by
    have h9:=z4b N (by omega) wd b r P E;rw[decide_eq_false Ad]at h9;exact h9
   rw[q0n];clear C E d N Ad X;generalize i.length=nq at l⊢;go_wp2_with fail;refine l.o.mono ?_;rintro e a⟨rfl,g⟩;have J:Hid (Below w w a):=q0d D.o Zl g;clear g;go_wp2;go_ret;exact⟨rfl,J.o⟩
  ·rw[q0k h3];clear h3 C E d X;generalize i.length=nq;go_wp2;go_ret;exact⟨rfl,D.o⟩
end Go.Proofs.YtfdppahhbpfnoaaGreatDoor
