import Derived.Test.YtchdplceopegoaaGreatDoorPi11
import Derived.Test.YtchdplceopegoaaGreatDoorPi20
import Derived.KernelRfl
import Derived.Laws.Cover3
open Go.Proofs.Tryz
open List (append_assoc getElem_map getElem_mem length_append length_cons length_map length_take mem_of_mem_take)
open Nat (le_refl lt_succ_self zero_le)
namespace Go.Proofs.YtchdplceopegoaaGreatDoor
open Go Go.RowKit
theorem j5e{t:List Td}(h:q9m t=0)(n:Nat)(hn:n<=100)(A:Option Addr)(c:Nat)(w:World)(hc:(q8x t).length<=c)(hN:q2b w A (q8x t)):
  Calls prog 88 #[.slice A (q8x t).length c,.int .i64 (n:Int)] w fun e w'=>(∃s wa wl wc,∃q1 q2:Int,e=.returned (.tuple #[.string (wbS s),.slice wa wl wc,.agg #[.int .i64 q1,.int .i64 q2],.nilIface])/\dcL n t=s++[10]/\s.length<=2000000)/\Below w w w':=by
 obtain⟨I,J,E,L⟩:=j8a h;obtain⟨D,G⟩:=j4t (wd:=n) (z6x I J).w E (by rw[E];exact L) hn;have K:(q0w t).best n=some (bs n 0 [(0,q0w t)]):=by rw[z0m,q3q]
 obtain⟨_,C,_⟩:=q6k K
 have H:bT (q8x t) (n:Int)=wbS ((q0w t).txt (bs n 0 [(0,q0w t)]).2):=by
  rw[bT,if_pos D,G,v6i h,C];rfl
 refine(j4v (q8x t) (n:Int) A c hc w hN).mono ?_;rintro e w'⟨⟨wa,wc,rfl,_⟩,B⟩;refine⟨⟨_,wa,_,wc,_,_,by rw[H,D,q1n],rfl,?_⟩,B⟩;exact j7z h C
theorem j6t{tx:ByteArray}(h:q2t tx=0)(n:Nat)(h1:10<=n)(h2:n<=100)(A:Option Addr)(c:Nat)(w:World)(hc:(q0d (btL tx)).length<=c)(hW:Wds w A ((q0d (btL tx)).map wbS)):
  Calls prog 85 #[.slice A (q0d (btL tx)).length c,.int .i64 ((n:Int)-2)] w fun e w'=>(∃L c,e=.returned (.tuple #[.slice L (q1v (n-2) ((q0d (btL tx)).map wbS)).length c,.nilIface])/\q2i w (.slice L (q1v (n-2) ((q0d (btL tx)).map wbS)).length c) (q1v (n-2) ((q0d (btL tx)).map wbS)) w')/\Below w w w':=by
 have e:((n:Int)-2)=((n-2:Nat):Int):=by omega
 have C:q6w ((q0d (btL tx)).map wbS) ((n-2:Nat):Int)=0:=by
  have D:q1f ((q0d (btL tx)).map wbS)=0:=h;rw[q6w,if_neg (by simp[D]),if_neg (by omega)]
 have B:=v9k ((q0d (btL tx)).map wbS) A c (n-2) w (by rw[length_map];exact hc) hW C;rw[length_map]at B;rw[e];exact B
theorem v0g:∀(ls:List ByteArray),ls≠[]->[35,32]++Lib.join (ls.map fun x=>x.data.toList) [10,35,32]++[10]=ls.flatMap ntF
 | [],h=>absurd rfl h
 | [l],_=>by simp[Lib.join_one,ntF,btL]
 | l::u::r,_=>by
  have ih:=v0g (u::r) (by simp);rw[List.flatMap_cons,<-ih];simp[Lib.join_cons,Lib.joinTail,ntF,btL]
theorem k9j{tx:ByteArray}(n:Nat)(h0:q0d (btL tx)≠[]):ntL n tx=[35,32]++Lib.join ((q1v (n-2) ((q0d (btL tx)).map wbS)).map fun x=>x.data.toList) [10,35,32]++[10]:=by
 have A:q1v (n-2) ((q0d (btL tx)).map wbS)≠[]:=by
  rw[q3x _ (by simpa using h0)];simp
 rw[v0g _ A,ntL,if_neg h0];rfl
set_option maxRecDepth 100000
set_option maxHeartbeats 4000000
theorem v1j{n:Nat}(h1:10<=n)(h2:n<=100)(w:World):Cw 17 #[.int .i64 (n:Int)] w .nilIface:=by
 unfold Cw;have A:¬(n:Int)<10:=by omega
 have B:¬100<(n:Int):=by omega
 go_in;go_wp2;go_ret;exact⟨rfl,rfl⟩
theorem y5f{wd:Int}(h:wd<10\/100<wd)(w:World):Cw 17 #[.int .i64 wd] w (.iface 24 (.int .i64 1)):=by
 unfold Cw;by_cases A:wd<10
 ·go_in;go_wp2;go_ret;exact⟨rfl,rfl⟩
 ·have B:100<wd:=by omega
  go_in;go_wp2;go_ret;exact⟨rfl,rfl⟩
theorem v1e{t:List Td}(h:q0b t=0)(h9:opT t=9)(n:Nat)(m:10<=n)(o:n<=100)(a:Option Addr)(cap:Nat)(w:World)(hc:t.length<=cap)(hN:Tds w a t)(l:z8j t)(ht:z2c w):
  Cb 52 #[.slice a t.length cap,.int .i64 (n:Int)] w (.tuple #[.string (wbS (q7c n t)),.nilIface]):=by
 unfold Cb;obtain⟨_,_,e1,y⟩:=z9p h h9;have P:=k6r h h9;rw[z5i h h9]
 have D:Hid (Cp 84 #[.slice a t.length cap] w fun e w'=>(∃A c,e=.returned (.tuple #[.slice A (q0d (btL (txT t))).length c,.nilIface])/\Wds w' A ((q0d (btL (txT t))).map wbS)/\(q0d (btL (txT t))).length<=c)/\Below w w w'):=by
  refine(k6c t a cap w ht hc hN l).mono ?_;rintro e w'⟨⟨A,c,he,z,i⟩,hb⟩;rw[y]at z i;rw[length_map]at i;exact⟨⟨A,c,by rw[he,e1,y,q1n,length_map],z,i⟩,hb⟩
 have C:Hid (∀(W:World)(A:Option Addr)(c:Nat),(q0d (btL (txT t))).length<=c->Wds W A ((q0d (btL (txT t))).map wbS)->Cp 85 #[.slice A (q0d (btL (txT t))).length c,.int .i64 ((n:Int)-2)] W fun e w'=>(∃L c,e=.returned (.tuple #[.slice L (q1v (n-2) ((q0d (btL (txT t))).map wbS)).length c,.nilIface])/\q2i W (.slice L (q1v (n-2) ((q0d (btL (txT t))).map wbS)).length c) (q1v (n-2) ((q0d (btL (txT t))).map wbS)) w')/\Below W W w'):=fun W A c q1 p=>j6t P n m o A c W q1 p
 have hF:=z9y P;by_cases Q:q0d (btL (txT t))=[]
 ·have I:Hid (ntL n (txT t)=[35,10]):=(show _=_ by rw[ntL,if_pos Q]);generalize ntL n (txT t)=L at I⊢;rw[Q]at D C;simp only[List.map_nil,q4h,List.length_nil]at D C;go_in;go_wp2_with fail;refine D.o.mono ?_;rintro e r⟨⟨X,S,rfl,K,M⟩,Z⟩;have E:=hid Z;have H:=hid (C.o r X S M K);go_wp2_with fail;refine H.o.mono ?_;rintro e w2⟨⟨s,v,rfl,_⟩,b⟩;have G:=hid (q0e E.o Zl b);go_wp2;go_ret2;exact⟨by rw[I.o];rfl,G.o⟩
 ·have k:=q8a (n-2) _ ((q0d (btL (txT t))).map wbS) Zl;have Aa:=hF.1
  have O:q1v (n-2) ((q0d (btL (txT t))).map wbS)≠[]:=by
   rw[q3x _ (by simpa using Q)];simp
  have I:Hid (wbS (ntL n (txT t))=(⟨#[35,32]⟩:ByteArray)++wbS (Lib.join ((q1v (n-2) ((q0d (btL (txT t))).map wbS)).map fun x=>x.data.toList) [10,35,32])++(⟨#[10]⟩:ByteArray)):=by
   show _=_;rw[k9j n Q,<-q0l,<-q0l];rfl
  have d:=v0f P n
  have N:(wbS (Lib.join ((q1v (n-2) ((q0d (btL (txT t))).map wbS)).map fun x=>x.data.toList) [10,35,32])).size<=100000:=by
   rw[k9j n Q,length_append,length_append]at d;rw[z3l];omega
  have U:=List.length_pos_iff.2 Q;generalize ntL n (txT t)=L at I⊢;generalize q1v (n-2) ((q0d (btL (txT t))).map wbS)=ls at C I k N O
  have u:Hid (∀(W:World)(A:Option Addr)(c B:Nat),q2i B (.slice A ls.length c) ls W->Cb 86 #[.slice A ls.length c,.string ⟨#[10,35,32]⟩] W (.string (wbS (Lib.join (ls.map fun x=>x.data.toList) [10,35,32])))):=fun W A c B hS=>by
   obtain⟨_,p,hA⟩:=z5s hS;have Ab:=List.length_pos_iff.2 O;rcases hA with⟨_,q,_⟩|⟨g,rfl,hg⟩
   ·omega
   ·refine join_sh g 0 c ls ⟨#[10,35,32]⟩ W ?_ hg (by omega) p ?_
    ·intro j x hx;obtain⟨hj,rfl⟩:=List.getElem?_eq_some_iff.1 hx;obtain⟨b',o',e,_,S⟩:=q3t hS j hj;simp only[Option.some.injEq,Addr.mk.injEq,and_true]at e;obtain⟨rfl,rfl⟩:=e;exact S
    ·rw[z3l]at N
     show(Lib.join (ls.map fun x=>x.data.toList) [10,35,32]).length<=_
     omega
  generalize wbS (Lib.join (ls.map fun x=>x.data.toList) [10,35,32])=J at u I N
  generalize(q0d (btL (txT t))).map wbS=ws at D C
  generalize(q0d (btL (txT t))).length=nw at D C U
  have V:((ls.length:Int)==0)=false:=by
   have:=List.length_pos_iff.2 O
   simp;omega
  have g1:¬9223372036854775807<2+J.size:=by omega
  have g2:¬9223372036854775807<2+J.size+1:=by omega
  go_in;go_wp2_with fail;refine D.o.mono ?_;rintro e r⟨⟨X,S,rfl,K,M⟩,Z⟩;have E:=hid Z;have H:=hid (C.o r X S M K);go_wp2_with fail;refine H.o.mono ?_;rintro e w2⟨⟨s,v,rfl,f⟩,b⟩;have G:=hid (q0e E.o Zl b);have R:=hid (u.o w2 s v _ f);generalize ls.length=nl at R V⊢;go_wp2_with fail;refine R.o.mono ?_;rintro e w3⟨rfl,b3⟩;have Y:=hid (q0e G.o Zl b3);go_wp2;go_ret2;exact⟨by rw[I.o];rfl,Y.o⟩
theorem j2p{t:List Td}(h:q0b t=0)(h9:opT t≠9)(n:Nat)(f:n<=100)(a:Option Addr)(cap:Nat)(w:World)(hc:t.length<=cap)(hN:Tds w a t)(d:z8j t)(ht:z2c w):
  Cb 53 #[.slice a t.length cap,.int .i64 (n:Int)] w (.tuple #[.string (if pgE t=0 then wbS (q7c n t)else⟨#[]⟩),q2m (pgE t)]):=by
 unfold Cb;have B:Hid (Cp 87 #[.slice a t.length cap] w fun e w'=>(∃A c,e=.returned (.tuple #[.slice A (q8x t).length c,q2m (q9m t)])/\q2b w' A (q8x t)/\(q8x t).length<=c)/\Below w w w'):=j1z t a cap w ht.pow hc hN d;rw[k6z h h9,k0c h h9];by_cases D:q9m t=0
 ·have C:Hid (∀(W:World)(A:Option Addr)(c:Nat),(q8x t).length<=c->q2b W A (q8x t)->Cp 88 #[.slice A (q8x t).length c,.int .i64 (n:Int)] W fun e w'=>(∃s O P wc,∃G H:Int,e=.returned (.tuple #[.string (wbS s),.slice O P wc,.agg #[.int .i64 G,.int .i64 H],.nilIface])/\dcL n t=s++[10]/\s.length<=2000000)/\Below W W w'):=fun W A c G H=>j5e D n f A c W G H
  rw[if_pos D,D,q1n];rw[D,q1n]at B;generalize dcL n t=L at C⊢;generalize q8x t=xs at B C;go_in;go_wp2_with fail;refine B.o.mono ?_;rintro e M⟨⟨Q,V,rfl,X,Y⟩,U⟩;have R:=hid U;have K:Hid (Cp 88 #[.slice Q xs.length V,.int .i64 (n:Int)] M fun e w'=>(∃s O P wc,∃G H:Int,e=.returned (.tuple #[.string (wbS s),.slice O P wc,.agg #[.int .i64 G,.int .i64 H],.nilIface])/\L=s++[10]/\s.length<=2000000)/\Below M M w'):=C.o M Q V Y X;generalize xs.length=nx at K⊢;go_wp2_with fail;refine K.o.mono ?_;rintro e g⟨⟨s,O,P,wc,G,H,rfl,j,Z⟩,i⟩;have I:Hid (Below w w g):=q0e R.o Zl i;have J:Hid (wbS L=wbS s++(⟨#[10]⟩:ByteArray)):=(show _=_ by rw[j,<-q0l];rfl);have b:(wbS s).size<=2000000:=by rw[z3l];exact Z
  generalize wbS s=S at J b⊢;have k:¬9223372036854775807<S.size+1:=by omega
  go_wp2;go_ret2;exact⟨by rw[J.o];rfl,by first|exact I.o|exact q0e I.o Zl (q1w g _)⟩
 ·rw[if_neg D];have N:=(show Hid (_=_)from q0q D);generalize q2m (q9m t)=E at B N⊢;generalize q8x t=xs at B;generalize q9m t=z at N;go_in;go_wp2_with fail;refine B.o.mono ?_;rintro e M⟨⟨Q,V,rfl,_,_⟩,U⟩;rw[N.o];generalize xs.length=nx;go_wp2;go_ret2;exact⟨by rw[N.o];rfl,U⟩
theorem v0q:g3g:=by
 intro t a C Q w c U K j;by_cases V:Q<10\/100<Q
 ·have O:=hid (y5f V w);have D:k9n t Q=1:=by rw[k9n,if_pos V]
  rw[k6u (by rw[D];decide),D];go_in;go_wp2_with fail;refine O.o.mono ?_;rintro e d⟨rfl,rfl⟩;go_wp2;go_ret2;exact⟨rfl,Below.refl _ _⟩
 ·obtain⟨n,rfl⟩:∃n:Nat,Q=(n:Int):=⟨Q.toNat,by omega⟩;have P:10<=n:=by omega
  have L:n<=100:=by omega
  have O:=hid (v1j P L w);have N:=hid (q7k t a C w c U K);by_cases H:q0b t=0
  ·obtain⟨i,b,o,rfl,m,k,f⟩:=z5k H U;have G:Hid (∀W:World,Below w w W->W.cell? ⟨b,o,none⟩=some (.int .i64 (opT t))):=fun W h=>((q0s h).1 _ _ m).trans k
   have p:(0:Int)<(t.length:Int):=by omega
   have D:=k6t V H;rw[H]at N;by_cases M:opT t=9
   ·have A:Hid (∀W:World,Below w w W->Cb 52 #[.slice (some ⟨b,o,none⟩) t.length C,.int .i64 (n:Int)] W (.tuple #[.string (wbS (q7c n t)),.nilIface])):=fun W h=>v1e H M n P L _ C W c (U.W h) K (j.W h)
    rw[M]at G;rw[v0p (by rw[D];exact k0g M),D,k0g M,q1n];generalize wbS (q7c n t)=S at A⊢;go_in;go_wp2_with fail;refine O.o.mono ?_;rintro e d⟨rfl,rfl⟩;go_wp2_with fail;refine N.o.mono ?_;rintro e X⟨rfl,J⟩;rw[q1n];have f:=G.o X J;have B:=hid J;go_wp2_with fail;refine(A.o _ B.o).mono ?_;rintro e q⟨rfl,Y⟩;have I:=hid (q0e B.o Zl Y);go_wp2;go_ret2;exact⟨rfl,I.o⟩
   ·have A:Hid (∀W:World,Below w w W->Cb 53 #[.slice (some ⟨b,o,none⟩) t.length C,.int .i64 (n:Int)] W (.tuple #[.string (v7g t (n:Int)),q2m (k9n t (n:Int))])):=fun W h=>by
     have g:=j2p H M n L (some ⟨b,o,none⟩) C W c (U.W h) K (j.W h);have l:(if pgE t=0 then wbS (q7c n t)else⟨#[]⟩)=v7g t (n:Int):=by rw[v7g,D];rfl
     rw[l,<-D]at g;exact g
    have Z:(opT t==9)=false:=by simp[M]
    generalize opT t=op0 at G Z;generalize v7g t (n:Int)=S at A⊢;generalize q2m (k9n t (n:Int))=E at A⊢;go_in;go_wp2_with fail;refine O.o.mono ?_;rintro e d⟨rfl,rfl⟩;go_wp2_with fail;refine N.o.mono ?_;rintro e X⟨rfl,J⟩;rw[q1n];have f:=G.o X J;have B:=hid J;go_wp2_with fail;refine(A.o _ B.o).mono ?_;rintro e q⟨rfl,Y⟩;have I:=hid (q0e B.o Zl Y);go_wp2;go_ret2;exact⟨rfl,I.o⟩
  ·have D:k9n t (n:Int)=q0b t:=by rw[k9n,if_neg V,if_pos H]
   rw[k6u (by rw[D];exact H),D];have R:=hid (q0q H);generalize q2m (q0b t)=E at N R⊢;generalize q0b t=z at R;go_in;go_wp2_with fail;refine O.o.mono ?_;rintro e d⟨rfl,rfl⟩;go_wp2_with fail;refine N.o.mono ?_;rintro e X⟨rfl,J⟩;rw[R.o];go_wp2;go_ret2;exact⟨by rw[R.o];rfl,J⟩
structure g0p(ps:List (List Td))(n:Nat)(w0:World)(i:Nat)(wr:World):Prop where
 le:i<=ps.length
 z:fmE (ps.drop i)=fmE ps
 x:IsX 83 w0.heap.size w0.heap.size (Lib.byteCells (q9j n (ps.take i))) [] wr
 bl:Below w0 w0 wr
 ln:(q9j n (ps.take i)).length<=i*2000001
theorem g2g:z2a 83 2:=by unfold z2a;kernel_rfl
theorem g3i:83≠5:=by decide
theorem v7q{s:ByteArray}{ps:List (List Td)}{k:Int}(h:z0i s ps k 0):∀t∈ps,z8j t:=fun t ht x hx=>Nat.le_trans (v1g (k0f h).2.1 t ht x hx) (by decide)
theorem v7m{ps:List (List Td)}{i:Nat}(h:i<ps.length):ps.drop i=ps[i]::ps.drop (i+1):=List.drop_eq_getElem_cons h
theorem v7n{ps:List (List Td)}{i:Nat}(wd:Nat)(h:i<ps.length):q9j wd (ps.take (i+1))=q9j wd (ps.take i)++q7c wd ps[i]:=by
 rw[q9j,List.take_succ_eq_append_getElem h,List.flatMap_append];simp[q9j]
end Go.Proofs.YtchdplceopegoaaGreatDoor
namespace Go.Proofs.YtchdplceopegoaaGreatDoor
open Go Go.RowKit Go.Maps
set_option maxRecDepth 100000
set_option maxHeartbeats 4000000
theorem v5d{t:List Td}(h0:q0b t=0)(hf:z8j t)(A:Option Addr)(c:Nat)(hc:t.length<=c)(w:World)(hT:Tds w A t)(ht:z2c w):
  Cb 39 #[.slice A t.length c] w (.tuple #[.string (kyB t),.nilIface]):=by
 unfold Cb;have B:Hid (Cp 70 #[.slice w.heap.size 1 1] (w.alloc (.cells #[.slice A t.length c] 59)) fun e w'=>e=.returned (.tuple #[.string (kyB t),.nilIface])/\Below w w w'):=by
  have C:=k0s [t] w.heap.size 1 (w.alloc (.cells #[.slice A t.length c] 59)) (by simp) (y5i hc hT) (fun u hu=>by simp at hu;rw[hu];exact hf) (ht.W (q1w w _));rw[v1h (by rw[y1n h0]),y1n h0]at C;exact C.mono fun e w' hh=>⟨hh.1,(q1w w _).trans (hh.2.mono (by rw[World.size_alloc];omega))⟩
 clear h0 hf hT ht hc;generalize kyB t=K at B⊢;generalize t.length=nt at B⊢;go_in;go_wp2_with fail;refine B.o.mono ?_;rintro e E⟨rfl,D⟩;go_wp2;go_ret2;exact⟨rfl,D⟩
theorem y3g{t:List Td}(h0:q0b t=0)(hf:z8j t)(hp:pgE t=0){n:Nat}(E:10<=n)(G:n<=100)(A:Option Addr)(c:Nat)(hc:t.length<=c)(w:World)(hT:Tds w A t)(ht:z2c w):
  Cb 40 #[.slice A t.length c,(n:Int)] w (.tuple #[enV A t.length c (wbS (q7c n t)),.nilIface]):=by
 unfold Cb;have D:Hid (∀W,Below w w W->Cb 32 #[.slice A t.length c,(n:Int)] W (.tuple #[.string (wbS (q7c n t)),.nilIface])):=fun W hb=>by
  have I:=v0q t A c (n:Int) W hc (hT.W hb) hf (ht.W hb);have H:k9n t (n:Int)=0:=(k6t (k9i E G) h0).trans hp;rw[v0p H,H,q1n]at I;exact I
 clear h0 hf hT ht hc hp;generalize wbS (q7c n t)=S at D⊢;generalize t.length=nt at D⊢;go_in;go_wp2_with fail;refine(D.o _ (q1w w _)).mono ?_;rintro e C⟨rfl,B⟩;have K:=B.size;rw[World.size_alloc]at K;have L:C.cell? w.heap.size=some (.slice none 0 0):=((q0s B).1 _ _ (by simp)).trans (by simp[go_sem]);have M:C.cell? (w.heap.size,1)=some (.string ⟨#[]⟩):=((q0s B).1 _ _ (by simp)).trans (by simp[go_sem]);have N:C.frozen? w.heap.size=false:=((q0s B).2 _ _ (by simp)).trans (by simp[go_sem]);have O:C.frozen? (w.heap.size,1)=false:=((q0s B).2 _ _ (by simp)).trans (by simp[go_sem]);have J:Hid (Below w w C):=q7x Zb Zl B;clear B;go_wp2;exact bodyPost_ret (v:=.tuple #[enV A nt c S,.nilIface]) (by simp[results,Tryz.results40,go_sem,L,M]) rfl ⟨rfl,(J.o.setCell (p:=w.heap.size) Zl _).setCell (p:=(w.heap.size,1)) Zl _⟩
theorem y3f{t:List Td}(h0:q0b t=0)(hf:z8j t)(hp:pgE t≠0){n:Nat}(E:10<=n)(G:n<=100)(A:Option Addr)(c:Nat)(hc:t.length<=c)(w:World)(hT:Tds w A t)(ht:z2c w):
  Cb 40 #[.slice A t.length c,(n:Int)] w (.tuple #[zEn,.iface 24 (pgE t)]):=by
 unfold Cb;have D:Hid (∀W,Below w w W->Cb 32 #[.slice A t.length c,(n:Int)] W (.tuple #[.string ⟨#[]⟩,.iface 24 (pgE t)])):=fun W hb=>by
  have I:=v0q t A c (n:Int) W hc (hT.W hb) hf (ht.W hb);have H:k9n t (n:Int)=pgE t:=k6t (k9i E G) h0;rw[k6u (by rw[H];exact hp),H,q0q hp]at I;exact I
 clear h0 hf hT ht hc hp;generalize pgE t=S at D⊢;generalize t.length=nt at D⊢;go_in;go_wp2_with fail;refine(D.o _ (q1w w _)).mono ?_;rintro e C⟨rfl,B⟩;have K:=B.size;rw[World.size_alloc]at K;have L:C.cell? w.heap.size=some (.slice none 0 0):=((q0s B).1 _ _ (by simp)).trans (by simp[go_sem]);have M:C.cell? (w.heap.size,1)=some (.string ⟨#[]⟩):=((q0s B).1 _ _ (by simp)).trans (by simp[go_sem]);have N:C.frozen? w.heap.size=false:=((q0s B).2 _ _ (by simp)).trans (by simp[go_sem]);have O:C.frozen? (w.heap.size,1)=false:=((q0s B).2 _ _ (by simp)).trans (by simp[go_sem]);have J:Hid (Below w w C):=q7x Zb Zl B;clear B;go_wp2;exact bodyPost_ret (v:=.tuple #[zEn,.iface 24 S]) (by simp[results,Tryz.results40,go_sem,L,M]) rfl ⟨rfl,(J.o.setCell (p:=w.heap.size) Zl _).setCell (p:=(w.heap.size,1)) Zl _⟩
structure q8s(ps old:List (List Td))(n:Nat)(w:World)(j i k:Nat)(wr:World):Prop where
 le:j<=ps.length
 cnt:k+frs (old.map q2p++(ps.map q2p).take i) ((ps.map q2p).drop i)=frP ps old
 z:fmE (ps.drop i)=fmE ps
 pg:∀t∈ps.take i,pgE t=0
 nx:∃A c,wr.heap[w.heap.size]?=some (.cells #[.int .i64 (n:Int),.slice A j c,.map (some (w.heap.size+1))] 54 (0,0))/\q2i (w.heap.size+2) (.slice A j c) ((ps.take j).map kyB) wr
 kn:KnM w wr (w.heap.size+1) (ps.take i) n
 bl:Below w w wr
theorem y1k{B e A n:Nat}{v:Value}{xs:List Value}{w:World}(h:w.ownsRow B e A v n xs){k:Nat}(hk:v.ownBlock=some k):B<=k:=by
 rcases h.2 with⟨rfl,_⟩|⟨g,c,C,rfl,D,_⟩
 ·cases hk
 ·have:g=k:=by simpa[Value.ownBlock]using hk
  omega
section
variable {ps old:List (List Td)} {n j i k:Nat} {w wr w':World}
theorem q8s.sz(h:q8s ps old n w j i k wr):w.heap.size+2<=wr.heap.size:=h.kn.lt
theorem q8s.grow(h:q8s ps old n w j i k wr)(hb:Below wr wr w'):q8s ps old n w j i k w':=by
 have D:=h.sz;obtain⟨A,c,B,C⟩:=h.nx;exact⟨h.le,h.cnt,h.z,h.pg,⟨A,c,(hb.block _ (by omega)).trans B,q2r C hb⟩,h.kn.kept (hb.block _ (by omega)),q0e h.bl Zl hb⟩
theorem q8s.key{A A':Option Addr}{c c':Nat}{O:Obj}(h:q8s ps old n w i i k wr)(hi:i<ps.length)(hq:wr.heap[w.heap.size]?=some (.cells #[(n:Int),.slice A i c,.map (some (w.heap.size+1))] 54 (0,0)))(C:q2i (w.heap.size+2) (.slice A i c) ((ps.take i).map kyB) wr)
  (hg:(wr.alloc O).grownBy w' (Value.slice A i c).ownBlock) (hS:q2i (w.heap.size+2) (.slice A' (i+1) c') ((ps.take i).map kyB++[kyB ps[i]]) w'):
  q8s ps old n w (i+1) i k (w'.setCell (w.heap.size,1) (.slice A' (i+1) c'))/\w'.heap[w.heap.size]?=some (.cells #[(n:Int),.slice A i c,.map (some (w.heap.size+1))] 54 (0,0)):=by
 have S:=h.sz
 have I:∀x,x<w.heap.size+2->some x≠(Value.slice A i c).ownBlock:=fun x hx e=>by
  have:=y1k C e.symm
  omega
 have H:∀x,x<w.heap.size+2->w'.heap[x]?=wr.heap[x]?:=fun x hx=>by
  have Q:=hg.block x (by rw[World.size_alloc];omega) (I x hx);have R:=(q1w wr O).block x (by omega);exact Q.trans R
 have B:=(H w.heap.size (by omega)).trans hq;have K:(ps.take i).map kyB++[kyB ps[i]]=(ps.take (i+1)).map kyB:=by rw[List.take_succ_eq_append_getElem hi,List.map_append];rfl
 rw[K]at hS;refine⟨⟨by omega,h.cnt,h.z,h.pg,⟨A',c',?_,?_⟩,?_,?_⟩,B⟩
 ·simp[World.setCell,Array.getElem?_modify,B]
 ·refine⟨hS.1,?_⟩;rcases hS.2 with L|⟨g,J,E,N,M,G,D⟩
  ·exact .inl L
  ·exact .inr ⟨g,J,E,N,M,(Below.heap_setCell _ _ _ _ (by simp;omega)).trans G,D⟩
 ·exact h.kn.kept ((Below.heap_setCell _ _ _ _ (by simp)).trans (H _ (by omega)))
 ·refine Below.setCell (p:=(w.heap.size,1)) ?_ Zl _;have P:=hg.size;rw[World.size_alloc]at P;exact h.bl.trans ⟨hg.os,hg.tape,hg.output,by omega,fun x hx=>H x (by omega)⟩
theorem y0r{t:List Td}{qs:List (List Td)}(ht:q0b t=0)(hq:∀u∈qs,q0b u=0):q2p t∈qs.map q2p↔t∈qs:=by
 constructor
 ·intro h;obtain⟨u,A,e⟩:=List.mem_map.1 h;rw[<-k0o (hq u A) ht e];exact A
 ·intro h;exact List.mem_map.2 ⟨t,h,rfl⟩
theorem z9a(hi:i<ps.length)(A:∀t∈ps,q0b t=0)(B:∀t∈old,q0b t=0)(h:k+frs (old.map q2p++(ps.map q2p).take i) ((ps.map q2p).drop i)=frP ps old):
  (ps[i]∈old\/ps[i]∈ps.take i->k+frs (old.map q2p++(ps.map q2p).take (i+1)) ((ps.map q2p).drop (i+1))=frP ps old)/\(¬(ps[i]∈old\/ps[i]∈ps.take i)->(k+1)+frs (old.map q2p++(ps.map q2p).take (i+1)) ((ps.map q2p).drop (i+1))=frP ps old):=by
 have G:i<(ps.map q2p).length:=by simpa using hi
 rw[y8a G]at h;have E:=A _ (getElem_mem hi)
 have D:((ps.map q2p)[i]∈old.map q2p\/(ps.map q2p)[i]∈(ps.map q2p).take i)↔(ps[i]∈old\/ps[i]∈ps.take i):=by
  rw[getElem_map,<-List.map_take,y0r E B,y0r E fun u hu=>A u (mem_of_mem_take hu)]
 constructor
 ·intro C;rw[if_pos (D.2 C)]at h;omega
 ·intro C;rw[if_neg fun q=>C (D.1 q)]at h;omega
theorem q8s.same(h:q8s ps old n w (i+1) i k wr)(C:∀t∈ps,q0b t=0)(A:∀t∈old,q0b t=0)(hm:ps[i]'(h.le)∈ps.take i):q8s ps old n w (i+1) (i+1) k wr:=by
 have B:=h.le;have D:=h.pg _ hm;refine⟨h.le,(z9a B C A h.cnt).1 (.inr hm),?_,fun t ht=>?_,h.nx,?_,h.bl⟩
 ·have E:=h.z;rw[List.drop_eq_getElem_cons B,z0v D]at E;exact E
 ·rw[List.take_succ_eq_append_getElem B]at ht;rcases List.mem_append.1 ht with q|q
  ·exact h.pg t q
  ·simp at q;rw[q];exact D
 ·rw[List.take_succ_eq_append_getElem B];exact h.kn.again hm
theorem q8s.put(h:q8s ps old n w (i+1) i k wr){k':Nat}(hp:pgE (ps[i]'(h.le))=0)(hc:k'+frs (old.map q2p++(ps.map q2p).take (i+1)) ((ps.map q2p).drop (i+1))=frP ps old)(hk:KnM w w' (w.heap.size+1) (ps.take i++[ps[i]'(h.le)]) n)(hg:wr.grownBy w' (some (w.heap.size+1))):q8s ps old n w (i+1) (i+1) k' w':=by
 have G:=h.le;have O:=h.sz;have B:∀x,x<wr.heap.size->x≠w.heap.size+1->w'.heap[x]?=wr.heap[x]?:=fun x h1 h2=>hg.block x h1 (by simpa using h2)
 obtain⟨A,c,N,I⟩:=h.nx;refine⟨h.le,hc,?_,fun t ht=>?_,⟨A,c,(B _ (by omega) (by omega)).trans N,?_⟩,?_,?_⟩
 ·have H:=h.z;rw[List.drop_eq_getElem_cons G,z0v hp]at H;exact H
 ·rw[List.take_succ_eq_append_getElem G]at ht;rcases List.mem_append.1 ht with q|q
  ·exact h.pg t q
  ·simp at q;rw[q];exact hp
 ·refine⟨I.1,?_⟩;rcases I.2 with K|⟨g,J,E,M,L,C,D⟩
  ·exact .inl K
  ·exact .inr ⟨g,J,E,M,L,(B g (Array.getElem?_eq_some_iff.1 C).1 (by omega)).trans C,D⟩
 ·rw[List.take_succ_eq_append_getElem G];exact hk
 ·exact h.bl.trans ⟨hg.os,hg.tape,hg.output,hg.size,fun x hx=>B x (by omega) (by omega)⟩
theorem q8s.sheet(h:q8s ps old n w ps.length ps.length k wr)(C:∀t∈ps,q0b t=0)(B:∀t∈ps,z8j t)(hl:ps.length<=20)(E:10<=n)(G:n<=100):fmE ps=0/\k=frP ps old/\∃A c,wr.heap[w.heap.size]?=some (.cells #[(n:Int),.slice A ps.length c,.map (some (w.heap.size+1))] 54 (0,0))/\ShM wr (.slice A ps.length c) (.map (some (w.heap.size+1))) ps n:=by
 have J:=h.cnt;have D:=h.pg;have H:=h.kn;obtain⟨A,c,K,I⟩:=h.nx;rw[List.drop_eq_nil_of_le (by simp),frs]at J;rw[List.take_length]at D H I;exact⟨z9l ps D,by omega,A,c,K,C,D,B,hl,E,G,⟨A,c,rfl,q3t I⟩,.inr ⟨_,rfl,H.up fun _ _ q=>q.W h.bl⟩⟩
end
set_option maxHeartbeats 8000000
def j4e(ps old:List (List Td))(n:Nat)(w:World)(e:Ending)(w':World):Prop:=Below w w w'/\
 ((fmE ps=0/\∃ov mv,e=.returned (.tuple #[.agg #[.int .i64 (n:Int),ov,mv],.int .i64 (frP ps old:Nat),.nilIface])/\ShM w' ov mv ps n)\/
  (fmE ps≠0/\e=.returned (.tuple #[.agg #[.int .i64 0,.slice none 0 0,.map none],.int .i64 0,q2m (fmE ps)])))
theorem g3c(h:Array Obj)(a b:Obj):((h.push a).push b)[h.size+1]?=some b:=by
 have e:(h.push a).size=h.size+1:=Array.size_push ..;rw[<-e];exact Array.getElem?_push_size
theorem q8s.cells{ps C:List (List Td)}{n j i k:Nat}{w wr:World}(h:q8s ps C n w j i k wr):∃A c,wr.cell? ⟨w,0,none⟩=some (.int .i64 (n:Int))/\wr.cell? ⟨w,1,none⟩=some (.slice A j c)/\wr.cell? ⟨w,2,none⟩=some (.map (some (w.heap.size+1)))/\(∀o,wr.frozen? ⟨w,o,none⟩=false)/\
  wr.heap[w.heap.size]?=some (.cells #[(n:Int),.slice A j c,.map (some (w.heap.size+1))] 54 (0,0))/\q2i (w.heap.size+2) (.slice A j c) ((ps.take j).map kyB) wr:=by
 obtain⟨A,c,B,D⟩:=h.nx;exact⟨A,c,by simp[World.cell?,B],by simp[World.cell?,B],by simp[World.cell?,B],fun o=>by simp[World.frozen?,B],B,D⟩
theorem q8s.start{ps A:List (List Td)}{n:Nat}{w:World}{w1:World}(h1:w1.heap[w.heap.size]?=some (.cells #[(n:Int),.slice none 0 0,.map (some (w.heap.size+1))] 54 (0,0)))(h2:w1.heap[w.heap.size+1]?=some (.map #[] 0))(hb:Below w w w1):q8s ps A n w 0 0 0 w1:=by
 refine⟨zero_le _,?_,rfl,fun t ht=>by simp at ht,⟨none,0,h1,⟨rfl,.inl ⟨rfl,rfl⟩⟩⟩,?_,hb⟩
 ·simp[frP]
 ·have B:=KnM.made w (w.alloc (.map #[] 0)) n;rw[World.size_alloc]at B;refine B.kept (h2.trans ?_);exact(g3c w.heap _ _).symm
theorem z7c{T:TypeId}(B ps:List (List Td))(n b:Nat)(A:Option Addr)(c:Nat)(w:World)(hS:q4p T w b B n)(hP:Prg w A ps)(A1:∀t∈ps,q0b t=0)(Ay:∀t∈ps,z8j t)(hl:ps.length<=20)(ht:z2c w):
  Calls prog 20 #[.pointer b,.slice A ps.length c] w fun e w'=>j4e ps B n w e w':=by
 obtain⟨oA,oc,m,s0,s1,s2,sf,_,A7⟩:=hS.cell;have P:=hS.lt;obtain⟨Bl,Bk,Bf,Y⟩:=hS;have Ah:=Y.ok;have Ab:=Y.w1;have Ac:=Y.w2;have HP:Hid (Prg w A ps):=hP;have G:Hid (∀t∈ps,q0b t=0):=A1;have U:Hid (∀t∈ps,z8j t):=Ay;have J:Hid (∀t∈B,q0b t=0):=Ah;have Ak:Hid (∀t∈B,pgE t=0):=Y.pg;have HT:Hid (z2c w):=ht;have Ae:Hid ((m=none/\B=[])\/∃b,m=some b/\KnM w w b B n):=A7;have Ad:Hid (∀W,Below w w W->W.cell? b=some ↑(n:Int)/\W.cell? (b,2)=some (.map m)):=fun W h=>⟨((q0s h).1 _ _ P).trans s0,((q0s h).1 _ _ P).trans s2⟩
 have Bm:(w.alloc (.cells #[.int .i64 0,.slice none 0 0,.map none] 54)).cell? b=some ↑(n:Int):=((q0s (q1w w _)).1 _ _ P).trans s0;generalize Az:ps.length=np at hl⊢;have Aj:Hid (ps.length=np):=Az;go_in;have Bj:=@run_makeMap prog
 have Al:Hid (q8s ps B n w 0 0 0 ((w.alloc (.cells #[(n:Int),.slice none 0 0,.map (some (w.heap.size+1))] 54)).alloc (.map #[] 0))):=by
  refine q8s.start ?_ ?_ (j4z w _ _)
  ·show((w.heap.push _).push _)[w.heap.size]?=_
   simp[Array.getElem?_push]
  ·exact g3c w.heap _ _
 go_wp2_with fail
 go_loopw [5,23] (fun q x wr=>∃i k:Nat,q=(k:Int)/\x=(i:Int)/\q8s ps B n w i i k wr) (fun _ x _=>np-(intOf x).toNat)
 case atStart=>exact⟨0,0,rfl,rfl,Al.o⟩
 case round=>
  obtain⟨i,k,rfl,rfl,d⟩:=hrel;have Ax:=Aj.o;have Bh:=d.le;by_cases Bi:i<np
  ·have Av:(i:Int)<(np:Int):=by omega
   have I:i<ps.length:=by omega
   obtain⟨b0,o0,S,X,rfl,Ar,An,Z,Ag⟩:=HP.o i I;have d0:=((q0s d.bl).1 _ _ Ar).trans An;have Aa:=G.o ps[i] (getElem_mem _);have HK:Hid (Cb 39 #[.slice S ps[i].length X] wr (.tuple #[.string (kyB ps[i]),.nilIface])):=v5d Aa (U.o _ (getElem_mem _)) S X Z wr (Ag.W d.bl) (HT.o.W d.bl);have HV:Hid (q8s ps B n w i i k wr):=d;have Bg:=k6b Aa;have g:Hid (Tds w S ps[i]):=Ag;have H:Hid (q0b ps[i]=0):=Aa;have Bd:Hid (kyB ps[i]=kyB ps[i]):=rfl;go_wp2_with fail;refine HK.o.mono ?_;rintro e w3⟨rfl,b3⟩;have l:Hid (q8s ps B n w i i k w3):=HV.o.grow b3;obtain⟨A3,c3,x0,x1,f,xf,xh,xo⟩:=l.o.cells;have Am:=(show Hid (_=_)from xh);have Af:Hid (q2i (w.heap.size+2) (.slice A3 i c3) ((ps.take i).map kyB) w3):=xo;go_wp2_with(at_builtin;refine z8r rfl _ _ rfl (w.heap.size+2) _ ((ps.take i).map kyB) rfl ?c1 w3.heap.size 1 [kyB ps[i]] rfl 1 rfl ?c2 (fun h=>by cases h) (i+1) ?c3 ?c4 ?c5 ?_)
   case c1=>exact q2r Af.o (q1w _ _)
   case c2=>
    intro j hj;have Aw:j=0:=by simp at hj;exact hj
    subst Aw;exact⟨w3.heap.size,0,rfl,by simp,by simp[go_sem]⟩
   case c3=>simp;omega
   case c4=>omega
   case c5=>
    have:=l.o.sz
    simp;omega
   intro A4 c4 w4 Ap At;obtain⟨Ao,r⟩:=l.o.key I Am.o Af.o At (by rw[List.map_take];exact Ap);have K:Hid (q8s ps B n w (i+1) i k (w4.setCell (w.heap.size,1) (.slice A4 (i+1) c4))):=Ao;have z1:w4.cell? (w.heap.size,1)=some (.slice A3 i c3):=by simp[World.cell?,r]
   have z2:w4.cell? (w.heap.size,2)=some (.map (some (w.heap.size+1))):=by simp[World.cell?,r]
   have zf:w4.frozen? (w.heap.size,1)=false:=by simp[World.frozen?,r]
   go_wp2_with fail
   generalize(w4.setCell (w.heap.size,1) (.slice A4 (i+1) c4))=w5 at K⊢
   have Bc:k<=20:=by
    have h1:=K.o.cnt;have h2:=y0h ps B;omega
   by_cases hm:ps[i]∈ps.take i
   ·obtain⟨A6,c6,_,E,_,_⟩:=K.o.kn.look hm H.o;have HN:Hid (q8s ps B n w (i+1) (i+1) k w5):=K.o.same G.o J.o hm;generalize wbS (q7c n ps[i])=S6 at E;rw[E];go_wp2;refine⟨⟨i+1,k,rfl,by go_num,HN.o.grow (q1w w5 _)⟩,?_⟩;simp[intOf];omega
   ·have E:=K.o.kn.miss (k:=kyB ps[i]) (by omega) (fun u hu e=>hm (by rw[<-k6a (G.o u (mem_of_mem_take hu)) H.o e];exact hu));have C:Hid (q8s ps B n w (i+1) i k (w5.alloc (.cells #[.slice none 0 0,.string ⟨#[]⟩] 100))):=K.o.grow (q1w w5 _);obtain⟨Bn,Bo⟩:=Ad.o _ C.o.bl;have HM:Hid (ps[i]∉ps.take i):=hm;rw[E];go_wp2_with fail
    generalize(w5.alloc (.cells #[.slice none 0 0,.string ⟨#[]⟩] 100))=w6 at C⊢
    by_cases ho:ps[i]∈B
    ·rcases Ae.o with⟨_,e0⟩|⟨mb,rfl,Q⟩
     ·rw[e0]at ho;simp at ho
     ·obtain⟨A6,c6,_,E,As,Aq⟩:=(Q.kept (C.o.bl.block mb Q.lt)).look ho H.o;have o:=(z9a I G.o J.o C.o.cnt).1 (.inl ho);have D:Hid (q8s ps B n w (i+1) i k (w6.alloc (.cells #[.slice A6 ps[i].length c6,.string (wbS (q7c n ps[i]))] 100))):=C.o.grow (q1w w6 _);obtain⟨_,_,_,_,f,_,_,_⟩:=D.o.cells;obtain⟨w8,R,y,s⟩:=D.o.kn.put (t:=ps[i]) (fun u hu=>G.o u (mem_of_mem_take hu)) (by simp;omega) H.o HM.o As Aq;have A2:pgE ps[i]=0:=Ak.o _ ho;have HN:Hid (q8s ps B n w (i+1) (i+1) k w8):=D.o.put A2 o y s;generalize wbS (q7c n ps[i])=S6 at E R f;rw[E];go_wp2;refine⟨⟨i+1,k,rfl,by go_num,HN.o⟩,?_⟩;simp[intOf];omega
    ·have E:(Instr.lookup 52 (.map m) (.string (kyB ps[i])) true).run prog w6=.ok (.tuple #[zEn,.bool false]) w6:=by
      rcases Ae.o with⟨rfl,e0⟩|⟨mb,rfl,Q⟩
      ·exact v6x w6 (by omega)
      ·exact(Q.kept (C.o.bl.block mb Q.lt)).miss (by omega) (fun u hu e=>ho (by rw[<-k6a (J.o u hu) H.o e];exact hu))
     have o:=(z9a I G.o J.o C.o.cnt).2 (fun q=>q.elim ho HM.o);have D:Hid (q8s ps B n w (i+1) i k (w6.alloc (.cells #[.slice none 0 0,.string ⟨#[]⟩] 100))):=C.o.grow (q1w w6 _);obtain⟨A5,_⟩:=Ad.o _ D.o.bl;have Ai:=(show Hid (_=_)from o);have Be:w.heap.size+2<=w6.heap.size:=C.o.sz;by_cases hp:pgE ps[i]=0
     ·have HL:Hid (Cp 40 #[.slice S ps[i].length X,(n:Int)] (w6.alloc (.cells #[.slice none 0 0,.string ⟨#[]⟩] 100)) fun e w'=>e=.returned (.tuple #[enV S ps[i].length X (wbS (q7c n ps[i])),.nilIface])/\Below (w6.heap.size+1) (w6.alloc (.cells #[.slice none 0 0,.string ⟨#[]⟩] 100)) w'):=by
       have h1:=y3g H.o (U.o _ (getElem_mem I)) hp Ab Ac S X Z (w6.alloc (.cells #[.slice none 0 0,.string ⟨#[]⟩] 100)) (g.o.W D.o.bl) (HT.o.W D.o.bl);unfold Cb at h1;rw[World.size_alloc]at h1;exact h1
      have O:Hid (pgE ps[i]=0):=hp;rw[E];go_wp2_with fail;refine HL.o.mono ?_;rintro e M⟨rfl,N⟩;have V:Below w6 w6 ((M.setCell w6.heap.size (.slice S ps[i].length X)).setCell (w6.heap.size,1) (.string (wbS (q7c n ps[i])))):=(((q1w w6 _).trans (N.mono (Nat.le_succ _))).setCell (p:=w6.heap.size) Zl _).setCell (p:=(w6.heap.size,1)) Zl _;have L:Hid (q8s ps B n w (i+1) i k ((M.setCell w6.heap.size (.slice S ps[i].length X)).setCell (w6.heap.size,1) (.string (wbS (q7c n ps[i]))))):=C.o.grow V;have y0:M.cell? w6.heap.size=some (.slice none 0 0):=(N.cell (p:=w6.heap.size) (lt_succ_self _)).trans (by simp[go_sem]);have y1:M.cell? (w6.heap.size,1)=some (.string ⟨#[]⟩):=(N.cell (p:=(w6.heap.size,1)) (lt_succ_self _)).trans (by simp[go_sem]);have f0:M.frozen? w6.heap.size=false:=(N.frozen (p:=w6.heap.size) (lt_succ_self _)).trans (by simp[go_sem]);have f1:M.frozen? (w6.heap.size,1)=false:=(N.frozen (p:=(w6.heap.size,1)) (lt_succ_self _)).trans (by simp[go_sem]);obtain⟨_,_,_,_,f,_,_,_⟩:=L.o.cells;obtain⟨w8,R,y,s⟩:=L.o.kn.put (t:=ps[i]) (fun u hu=>G.o u (mem_of_mem_take hu)) (by simp;omega) H.o HM.o Z g.o;have HN:Hid (q8s ps B n w (i+1) (i+1) (k+1) w8):=L.o.put O.o Ai.o y s;generalize wbS (q7c n ps[i])=S6 at R f⊢;go_wp2;refine⟨⟨i+1,k+1,by go_num,by go_num,HN.o⟩,?_⟩;simp[intOf];omega
     ·have HL:Hid (Cp 40 #[.slice S ps[i].length X,(n:Int)] (w6.alloc (.cells #[.slice none 0 0,.string ⟨#[]⟩] 100)) fun e w'=>e=.returned (.tuple #[zEn,.iface 24 (pgE ps[i])])/\Below (w6.heap.size+1) (w6.alloc (.cells #[.slice none 0 0,.string ⟨#[]⟩] 100)) w'):=by
       have h1:=y3f H.o (U.o _ (getElem_mem I)) hp Ab Ac S X Z (w6.alloc (.cells #[.slice none 0 0,.string ⟨#[]⟩] 100)) (g.o.W D.o.bl) (HT.o.W D.o.bl);unfold Cb at h1;rw[World.size_alloc]at h1;exact h1
      have O:Hid (fmE ps≠0/\q2m (fmE ps)=.iface 24 (pgE ps[i])):=by
       have hz:=D.o.z;rw[List.drop_eq_getElem_cons I,j7e hp]at hz;rw[<-hz];exact⟨hp,q0q hp⟩
      rw[E];go_wp2_with fail;refine HL.o.mono ?_;rintro e M⟨rfl,N⟩;have V:Below w6 w6 ((M.setCell w6.heap.size (.slice none 0 0)).setCell (w6.heap.size,1) (.string ⟨#[]⟩)):=(((q1w w6 _).trans (N.mono (Nat.le_succ _))).setCell (p:=w6.heap.size) Zl _).setCell (p:=(w6.heap.size,1)) Zl _;have L:Hid (q8s ps B n w (i+1) i k ((M.setCell w6.heap.size (.slice none 0 0)).setCell (w6.heap.size,1) (.string ⟨#[]⟩))):=C.o.grow V;have y0:M.cell? w6.heap.size=some (.slice none 0 0):=(N.cell (p:=w6.heap.size) (lt_succ_self _)).trans (by simp[go_sem]);have y1:M.cell? (w6.heap.size,1)=some (.string ⟨#[]⟩):=(N.cell (p:=(w6.heap.size,1)) (lt_succ_self _)).trans (by simp[go_sem]);have f0:M.frozen? w6.heap.size=false:=(N.frozen (p:=w6.heap.size) (lt_succ_self _)).trans (by simp[go_sem]);have f1:M.frozen? (w6.heap.size,1)=false:=(N.frozen (p:=(w6.heap.size,1)) (lt_succ_self _)).trans (by simp[go_sem]);obtain⟨A9,c9,x0,x1,f,xf,_,_⟩:=L.o.cells;have A8:=xf 0;have Ba:=xf 1;have Bb:=xf 2;clear V N D C HL A5 E xf;generalize pgE ps[i]=z at O⊢;go_wp2_with fail;refine bodyPost_ret (v:=.tuple #[.agg #[.int .i64 0,.slice none 0 0,.map none],.int .i64 0,.iface 24 z]) (by simp[results,Tryz.results20,go_sem,x0,x1,f]) rfl ?_;exact⟨((L.o.bl.setCell (p:=w.heap.size) Zl _).setCell (p:=(w.heap.size,1)) Zl _).setCell (p:=(w.heap.size,2)) Zl _,.inr ⟨O.o.1,by rw[O.o.2]⟩⟩
  ·have Av:¬(i:Int)<(np:Int):=by omega
   have Au:i=ps.length:=by omega
   subst Au;obtain⟨hz,hk,A9,c9,a,q2⟩:=d.sheet G.o U.o (by omega) Ab Ac;rw[Ax]at a q2;have x0:wr.cell? w.heap.size=some ↑(n:Int):=by simp[World.cell?,a]
   have x1:wr.cell? (w.heap.size,1)=some (.slice A9 np c9):=by simp[World.cell?,a]
   have f:wr.cell? (w.heap.size,2)=some (.map (some (w.heap.size+1))):=by simp[World.cell?,a]
   have A8:wr.frozen? w.heap.size=false:=by simp[World.frozen?,a]
   have Ba:wr.frozen? (w.heap.size,1)=false:=by simp[World.frozen?,a]
   have Bb:wr.frozen? (w.heap.size,2)=false:=by simp[World.frozen?,a]
   have HQ:Hid (q4p 54 wr w.heap.size ps n):=⟨_,_,a,q2⟩;have HM:Hid (ShM wr (.slice A9 np c9) (.map (some (w.heap.size+1))) ps n):=q2;have HB:Hid (Below w w wr):=d.bl;have HZ:Hid (fmE ps=0/\k=frP ps B):=⟨hz,hk⟩;clear d a q2 hz hk;go_wp2_with fail;refine bodyPost_ret (v:=.tuple #[.agg #[(n:Int),.slice A9 np c9,.map (some (w.heap.size+1))],(k:Int),.nilIface]) (by simp[results,Tryz.results20,go_sem,x0,x1,f]) rfl ?_;obtain⟨_,hx⟩:=HQ.o.put HM.o;exact⟨((HB.o.setCell (p:=w.heap.size) Zl _).setCell (p:=(w.heap.size,1)) Zl _).setCell (p:=(w.heap.size,2)) Zl _,.inl ⟨HZ.o.1,_,_,by rw[HZ.o.2],HM.o.apart hx HQ.o.blk⟩⟩
theorem y3o(a b:Value)(w:World):(Instr.field 100 (.agg #[a,b]) 0).run prog w=.ok a w:=by kernel_rfl
theorem v5z(a b:Value)(w:World):(Instr.field 100 (.agg #[a,b]) 1).run prog w=.ok b w:=by kernel_rfl
theorem y9v:(prog.info? 59).map (fun i=>(i.zero,i.size,i.bytes))=some (some (.slice none 0 0),1,24):=by kernel_rfl
theorem y2h{w:World}{G:Array Oper}{rest:List Oper}{o:Oper}{a:Act}{Q:Exit->Act->World->Prop}(I:o.guard=none)(s x:Operand)
  (ho:o.op=.call {callee:=.builtin .append,args:=#[s,x],argTypes:=#[31,31]})
  (B:Nat) (v:Value) (k:Nat) (hs:List Value) (H:a.eval s=v) (E:w.ownsRow B 59 1 v k hs)
  (b0:Nat) (A0:Option Addr) (l0 c0:Nat) (hx:a.eval x=.slice b0 1 1) (hc:w.cell? b0=some (.slice A0 l0 c0))
  (hb:k<=1000000) (C:B<=w.heap.size)
  (h:∀A c w',w'.ownsRow B 59 1 (.slice A (k+1) c) (k+1) (hs++[.slice A0 l0 c0])->w.grownBy w' v.ownBlock->wpList prog G Q rest (a.put o.dst (.slice A (k+1) c)) w'):wpList prog G Q (o::rest) a w:=by
 obtain⟨V,U,K,L,M⟩:=info_parts y9v;refine wpList_append_own w I s x 31 ho B 59 V _ 1 24 Tryz.underlying31 U K L M rfl (by decide) v k hs H E b0 1 1 [.slice A0 l0 c0] hx rfl ?_ (by intro u O;simp at O;subst O;rfl) (by unfold maxLen;omega) (by omega) C ?_
 ·intro j u J;cases j with
  | zero=>
   simp at J;subst J;rw[z0l];exact hc
  | succ j=>simp at J
 ·intro W w' N S _
  obtain⟨A,D,rfl⟩:∃A D,W=.slice A (k+1) D:=by
   rcases N.2 with⟨P,Y⟩|⟨X,D,R,P,_⟩
   ·omega
   ·exact⟨_,D,P⟩
  exact h A D w' N S
theorem v1p{B:Nat}{w:World}{A:Option Addr}{n c:Nat}{hs:List Value}(h:w.ownsRow B 59 1 (.slice A n c) n hs):n<=c/\∀j u,j<n->hs[j]?=some u->∃g,A=some ⟨g,0,none⟩/\g<w.heap.size/\w.cell? ⟨g,j,none⟩=some u:=by
 rcases h.2 with⟨D,K⟩|⟨g,J,H,D,_,G,E,_,I,C⟩
 ·simp only[Value.slice.injEq]at D;obtain⟨rfl,rfl,rfl⟩:=D;exact⟨le_refl _,fun j u hj=>by omega⟩
 ·simp only[Value.slice.injEq]at D;obtain⟨rfl,_,rfl⟩:=D;refine⟨E,fun j u hj hk=>⟨g,rfl,(Array.getElem?_eq_some_iff.1 G).1,?_⟩⟩;rw[<-C,List.getElem?_take_of_lt (by omega)]at hk;simp only[World.cell?,G];simpa using hk
structure g1m(qs:List (List Td))(w:World)(i:Nat)(v:Value)(wr:World):Prop where
 le:i<=qs.length
 row:∃hs,wr.ownsRow w.heap.size 59 1 v i hs/\∀j(hj:j<qs.length),j<i->∃A c,hs[j]?=some (.slice A qs[j].length c)/\qs[j].length<=c/\Tds w A qs[j]
 bl:Below w w wr
theorem k1z{T:TypeId}(qs:List (List Td))(n b:Nat)(w:World)(hS:q4p T w b qs n):
  Calls prog 21 #[.pointer b] w fun e w'=>(∃A c,e=.returned (.slice A qs.length c)/\Prg w' A qs/\qs.length<=c)/\Below w w w':=by
 obtain⟨oA,oc,m,s0,s1,y,sf,sW,X⟩:=hS.cell;have P:=hS.lt;obtain⟨_,_,_,J⟩:=hS;have R:=J.len;have k:=hid J.ok;have HW:=hid sW;have d:=hid X;have a:Hid (∀W,Below w w W->W.cell? (b,2)=some (.map m)):=fun W h=>((q0s h).1 _ _ P).trans y
 have M:Hid (g1m qs w 0 (.slice none 0 0) w):=⟨zero_le _,⟨[],⟨rfl,.inl ⟨rfl,rfl⟩⟩,fun j _ h=>by omega⟩,Below.refl _ _⟩;clear sW X J s0 y sf;generalize S:qs.length=np at R s1⊢;have f:=hid S;clear S;go_in;go_wp2_with fail;clear s1
 go_loopw [3,11] (fun v x wr=>∃(i:Nat)(A:Option Addr)(c:Nat),v=.slice A i c/\x=(i:Int)/\g1m qs w i v wr) (fun _ x _=>np-(intOf x).toNat)
 case atStart=>exact⟨0,none,0,rfl,rfl,M.o⟩
 case round=>
  clear M;obtain⟨i,vA,vc,rfl,rfl,H⟩:=hrel;have Ac:=f.o;have Ab:=H.le;by_cases Ad:i<np
  ·have q:(i:Int)<(np:Int):=by omega
   have G:i<qs.length:=by omega
   obtain⟨ob,oo,rfl,t,I⟩:=HW.o i (by simpa using G);rw[getElem_map]at I;have d0:=((q0s H.bl).1 _ _ t).trans I;have U:=k.o qs[i] (getElem_mem _);rcases d.o with⟨_,e0⟩|⟨mb,rfl,K⟩
   ·rw[e0]at G;simp at G
   ·obtain⟨Z,o,s,_,Q,O⟩:=(K.kept (H.bl.block mb K.lt)).look (getElem_mem G) U;have y:=a.o wr H.bl;have E:=hid H;have l:Hid (qs[i].length<=o/\Tds w Z qs[i]):=⟨Q,O⟩;clear K H I O Q U;generalize wbS (q7c n qs[i])=S6 at s;obtain⟨hs,C,B⟩:=E.o.row;have Y:=hid C;have L:=hid B;clear C B;have Aa:=y3o;go_wp2_with(at_builtin;refine y2h rfl _ _ rfl w.heap.size _ i hs rfl ?c1 wr.heap.size Z qs[i].length o ?cx ?c2 ?c3 ?c4 ?_)
    case cx=>rfl
    case c1=>exact q2r Y.o (q1w _ _)
    case c2=>simp[go_sem]
    case c3=>omega
    case c4=>
     have:=E.o.bl.size
     simp;omega
    intro z c4 w4 N D
    have HN:Hid (g1m qs w (i+1) (.slice z (i+1) c4) w4):=by
     have hz:=D.size;rw[World.size_alloc]at hz;refine⟨by omega,⟨_,N,fun j hj hji=>?_⟩,E.o.bl.trans ⟨D.os,D.tape,D.output,by omega,fun x hx=>?_⟩⟩
     ·have hl:=Y.o.1;rw[Nat.mul_one]at hl;by_cases e:j<i
      ·obtain⟨A,c,V,u⟩:=L.o j hj e;exact⟨A,c,by rw[List.getElem?_append_left (by omega)];exact V,u⟩
      ·have r:j=i:=by omega
       subst r;exact⟨Z,o,by rw[List.getElem?_append_right (by omega),hl];simp,l.o⟩
     ·have Ae:=E.o.bl.size;have V:=D.block x (by rw[World.size_alloc];omega) (fun e=>by have:=y1k Y.o e.symm;omega);exact V.trans ((q1w wr _).block x (by omega))
    clear N D Y L E;go_wp2;refine⟨⟨i+1,z,c4,rfl,by go_num,HN.o⟩,?_⟩;simp[intOf];omega
  ·have q:¬(i:Int)<(np:Int):=by omega
   have p:i=np:=by omega
   subst p;have E:=hid H;clear H;go_wp2;go_ret;obtain⟨hs,C,B⟩:=E.o.row;obtain⟨V,u⟩:=v1p C;refine⟨⟨vA,vc,rfl,fun j hj=>?_,V⟩,E.o.bl⟩;obtain⟨A,c,r1,r2,r3⟩:=B j hj (by omega);obtain⟨g,e,hg,hc⟩:=u j _ (by omega) r1;exact⟨g,0,A,c,e,hg,by rw[Nat.zero_add];exact hc,r2,r3.W E.o.bl⟩
theorem j6m{T:TypeId}(qs:List (List Td))(n b:Nat)(w:World)(hS:q4p T w b qs n):
  Cb 31 #[.pointer (some ⟨b,0,none⟩)] w (.string (wbS (q9j n qs))):=by
 unfold Cb;obtain⟨p,oc,m,s0,s1,r,sf,sW,j⟩:=hS.cell;have C:=hS.lt;obtain⟨_,_,_,D⟩:=hS;have J:=D.len;have P:Hid (∀t∈qs,q0b t=0):=D.ok;have Q:Hid (∀t∈qs,pgE t=0):=D.pg;have u:Hid (Wds w p (qs.map kyB)):=sW;have N:Hid ((m=none/\qs=[])\/∃b,m=some b/\KnM w w b qs n):=j;have M:Hid (∀W,Below w w W->W.cell? ⟨b,2,none⟩=some (.map m)):=fun W h=>((q0s h).1 _ _ C).trans r
 have g:(w.alloc (.cells #[.pointer none,.slice none 0 0] 83)).cell? ⟨b,1,none⟩=some (.slice p qs.length oc):=((q0s (q1w w _)).1 _ _ C).trans s1;have U:Hid (g0p qs n w 0 (w.alloc (.cells #[.pointer none,.slice none 0 0] 83))):=⟨zero_le _,rfl,IsX.fresh 83 w [],q1w w _,by simp[q9j]⟩;generalize d:qs.length=np at J g⊢;have O:Hid (qs.length=np):=d;go_in;go_wp2_with fail
 go_loopw [11] (fun x wr=>∃i:Nat,x=.int .i64 (i:Int)/\g0p qs n w i wr) (fun x _=>np-(intOf x).toNat)
 case atStart=>exact⟨0,rfl,U.o⟩
 case round=>
  obtain⟨i,rfl,B⟩:=hrel;have Ac:=O.o;have Ab:=B.le;have Ad:=B.ln;by_cases Ae:i<np
  ·have a:(i:Int)<(np:Int):=by omega
   have A:i<qs.length:=by omega
   obtain⟨ob,oo,rfl,f,H⟩:=u.o i (by simpa using A);rw[getElem_map]at H;have d0:=((q0s B.bl).1 _ _ f).trans H;have L:=P.o qs[i] (getElem_mem _);have K:=Q.o qs[i] (getElem_mem _);rcases N.o with⟨_,y⟩|⟨mb,rfl,I⟩
   ·rw[y]at A;simp at A
   ·obtain⟨A6,c6,c,_,_,_⟩:=(I.kept (B.bl.block mb I.lt)).look (getElem_mem A) L;have r:=M.o wr B.bl;have Af:=v0s L K n;have E:=(show Hid (_=_)from v7n (ps:=qs) n A)
    have G:Hid (Cp 33 #[.pointer (some ⟨w,0,none⟩),.string (wbS (q7c n qs[i]))] wr fun e w'=>(∃z,e=.returned (.tuple #[z,.nilIface]))/\g0p qs n w (i+1) w'):=by
     have Ag:=B.bl.size;refine(z0h 83 w.heap.size w.heap.size (Lib.byteCells (q9j n (qs.take i))) [] (wbS (q7c n qs[i])) wr g2g g3i B.x (by rw[Lib.byteCells_length,z3l];omega) (by omega)).mono ?_;rintro e w'⟨rfl,q1,q2,_⟩;refine⟨⟨_,rfl⟩,by omega,?_,?_,?_,?_⟩
     ·have o:=B.z;rw[v7m A,z0v K]at o;exact o
     ·rw[E.o,q4q];exact q1
     ·exact B.bl.trans (q2.W Zl)
     ·rw[E.o,length_append];omega
    generalize wbS (q7c n qs[i])=S6 at c G;have Aa:=v5z;go_wp2_with fail;refine G.o.mono ?_;rintro e w4⟨⟨q,rfl⟩,h4⟩;have X:Hid (g0p qs n w (i+1) w4):=h4;go_wp2;refine⟨⟨i+1,by go_num,X.o⟩,?_⟩;simp[intOf];omega
  ·have a:¬(i:Int)<(np:Int):=by omega
   have Z:qs.take i=qs:=List.take_of_length_le (by omega);have l:=B.x;rw[Z]at l;have k:Hid (Cp 34 #[.pointer (some ⟨w,0,none⟩)] wr fun e w'=>e=.returned (.string (wbS (q9j n qs)))/\Below w wr w'):=k1d _ _ _ _ _ _ l;have s:Hid (Below w w wr):=B.bl;generalize Y:wbS (q9j n qs)=S at k;have V:Hid (wbS (q9j n qs)=S):=Y;go_wp2_with fail;refine k.o.mono ?_;rintro e w3⟨rfl,v⟩;have R:Hid (Below w w w3):=s.o.trans v;go_wp2;go_ret;refine⟨?_,R.o⟩;rw[V.o];rfl
inductive y7a (s:ByteArray) (old:List (List Td)):List (List Td)->Nat->Int->Int->Prop where
 | bad {ps k f} (hp:z0i s ps k f) (hf:f≠0):y7a s old old 0 k f
 | full {ps} (hp:z0i s ps 0 0) (hf:fmE ps≠0):y7a s old old 0 0 (fmE ps)
 | ok {ps} (hp:z0i s ps 0 0) (hf:fmE ps=0):y7a s old ps (frP ps old) 0 0
inductive g1n (n:Nat) (wd:Int):Nat->Int->Prop where
 | no (h:wd<10\/100<wd):g1n n wd n 1
 | ok {m:Nat} (h:wd=(m:Int)) (h1:10<=m) (h2:m<=100):g1n n wd m 0
theorem ShM.fresh(w:World){n:Nat}(hw1:10<=n)(hw2:n<=100):ShM w (.slice none 0 0) (.map none) [] n:=
 ⟨fun t ht=>by simp at ht,fun t ht=>by simp at ht,fun t ht=>by simp at ht,by simp,hw1,hw2,⟨none,0,rfl,z3r.nil _ _ _⟩,.inl ⟨rfl,rfl⟩⟩
theorem q4p.fresh(T:TypeId)(w:World){n:Nat}(hw1:10<=n)(hw2:n<=100):q4p T (w.alloc (.cells #[.int .i64 (n:Int),.slice none 0 0,.map none] T)) w.heap.size [] n:=
 ⟨_,_,by show(w.heap.push _)[w.heap.size]?=_;simp,ShM.fresh _ hw1 hw2⟩
theorem y3i{n:Nat}(A:10<=n)(B:n<=100)(w:World):
  Calls prog 7 #[(n:Int)] w fun e w'=>e=.returned (.tuple #[.pointer w.heap.size,.nilIface])/\q4p 56 w' w.heap.size [] n/\Below w w w':=by
 have C:Hid (Cw 17 #[(n:Int)] w .nilIface):=v1j A B w;go_in;go_wp2_with fail;refine C.o.mono ?_;rintro e D⟨rfl,rfl⟩;go_wp2;go_ret2;exact⟨rfl,q4p.fresh _ w A B,q1w w _⟩
theorem y3h{wd:Int}(h:wd<10\/100<wd)(w:World):
  Cw 7 #[wd] w (.tuple #[.pointer none,.iface 24 (.int .i64 1)]):=by
 unfold Cw;have A:Hid (Cw 17 #[wd] w (.iface 24 (.int .i64 1))):=y5f h w;clear h;go_in;go_wp2_with fail;refine A.o.mono ?_;rintro e B⟨rfl,rfl⟩;go_wp2;go_ret2;exact⟨rfl,rfl⟩
theorem j6f{T:TypeId}{qs:List (List Td)}{n b:Nat}(w:World)(hS:q4p T w b qs n):
  Cb 14 #[.pointer b] w (.string (wbS (q9j n qs))):=by
 unfold Cb;have A:Hid (Cb 31 #[.pointer b] w (.string (wbS (q9j n qs)))):=j6m qs n b w hS;clear hS;generalize wbS (q9j n qs)=S at A⊢;go_in;go_wp2_with fail;refine A.o.mono ?_;rintro e C⟨rfl,B⟩;go_wp2;go_ret;exact⟨rfl,B⟩
theorem j1i{T:TypeId}{qs:List (List Td)}{n b:Nat}(w:World)(hS:q4p T w b qs n):
  Cw 15 #[.pointer b] w (n:Int):=by
 unfold Cw;obtain⟨A,B,m,C,_⟩:=hS.cell;clear hS;go_in;go_wp2;go_ret;exact⟨rfl,rfl⟩
theorem z9f{T:TypeId}(s:ByteArray)(C:List (List Td))(n d:Nat)(w:World)(hS:q4p T w d C n)(ht:z2c w):
  Calls prog 13 #[.pointer (some ⟨d,0,none⟩),.string s] w fun e w'=>∃qs x k f,e=.returned (.tuple #[.int .i64 (x:Nat),.int .i64 k,q2m f])/\y7a s C qs x k f/\q4p T w' d qs n/\q0n w d w w':=by
 have p:Hid (q4p T w d C n):=hS;have q:Hid (z2c w):=ht;have I:Hid (Cp 30 #[.string s] w fun e w'=>∃B k f A c,e=.returned (.tuple #[.slice A B.length c,.int .i64 k,q2m f])/\z0i s B k f/\Prg w' A B/\B.length<=c/\Below w w w'):=k4g s w ht;clear hS ht;go_in;go_wp2_with fail;refine I.o.mono ?_;rintro e X⟨B,k,f,A,c,rfl,J,m,_,S⟩;have M:Hid (Below w w X):=S;have H:Hid (q4p T X d C n):=p.o.W S;by_cases g:f=0
 ·subst g;obtain⟨rfl,_,V,G⟩:=k0f J;have Z:Hid (Cp 20 #[.pointer d,.slice A B.length c] X fun e w'=>j4e B C n X e w'):=z7c C B n d A c X H.o m G (v7q J) V (q.o.W S);have P:Hid (z0i s B 0 0):=J;rw[q1n];clear m S G J I;generalize B.length=np at Z⊢;go_wp2_with fail;refine Z.o.mono ?_;rintro e D⟨l,r⟩;have Q:Hid (q4p T D d C n):=H.o.W l;have E:Hid (Below w w D):=q0e M.o Zl l;clear l;rcases r with⟨K,t,o,rfl,U⟩|⟨K,rfl⟩
  ·have HM:Hid (ShM D t o B n):=U;obtain⟨Y,a,rfl,_⟩:=U.ord
   obtain⟨L,rfl⟩:∃L,o=.map L:=by
    rcases U.kn with⟨rfl,_⟩|⟨b,rfl,_⟩
    ·exact⟨_,rfl⟩
    ·exact⟨_,rfl⟩
   have R:Hid (q4p T (D.alloc (.cells #[(n:Int),.slice Y B.length a,.map L] 54)) d C n):=Q.o.W (q1w D _);have i:Hid (ShM (D.alloc (.cells #[(n:Int),.slice Y B.length a,.map L] 54)) (.slice Y B.length a) (.map L) B n):=U.W (q1w D _);have N:Hid (Below w w (D.alloc (.cells #[(n:Int),.slice Y B.length a,.map L] 54))):=E.o.trans ((q1w D _).mono E.o.size);have j:Hid (fmE B=0):=K;obtain⟨oA,oc,om,s0,s1,s2,h,_,_⟩:=R.o.cell;have y:=h 0;have z:=h 1;have Aa:=h 2;clear U K Z h;go_wp2;go_ret3;obtain⟨u,v⟩:=R.o.put i.o;exact⟨B,_,0,0,rfl,.ok P.o j.o,u,(q0n.of N.o).trans (v.mono N.o.size)⟩
  ·have j:Hid (fmE B≠0):=K;have O:Hid (q2m (fmE B)=.iface 24 (fmE B)):=q0q K;rw[O.o];clear K Z;go_wp2;go_ret3;exact⟨C,0,0,fmE B,by rw[O.o];rfl,.full P.o j.o,Q.o.W (q1w D _),q0n.of (E.o.trans ((q1w D _).mono E.o.size))⟩
 ·have O:Hid (q2m f=.iface 24 (.int .i64 f)):=q0q g;have P:Hid (z0i s B k f/\f≠0):=⟨J,g⟩;rw[O.o];clear J m S g I;generalize B.length=np;go_wp2;go_ret3;exact⟨C,0,k,f,by rw[O.o];rfl,.bad P.o.1 P.o.2,H.o,q0n.of M.o⟩
theorem k2a{T:TypeId}(wd:Int)(B:List (List Td))(n d:Nat)(w:World)(hS:q4p T w d B n)(ht:z2c w):
  Calls prog 10 #[.pointer d,wd] w fun e w'=>∃m f,e=.returned (q2m f)/\g1n n wd m f/\q4p T w' d B m/\q0n w d w w':=by
 have y:Hid (q4p T w d B n):=hS;have HT:Hid (z2c w):=ht;clear ht;by_cases h:wd<10\/100<wd
 ·have Z:Hid (Cw 17 #[wd] w (.iface 24 (.int .i64 1))):=y5f h w;have u:Hid (wd<10\/100<wd):=h;clear h hS;go_in;go_wp2_with fail;refine Z.o.mono ?_;rintro e w1⟨rfl,rfl⟩;go_wp2;go_ret;exact⟨n,1,rfl,.no u.o,y.o,q0n.refl _ _ _⟩
 ·obtain⟨m,rfl⟩:∃m:Nat,wd=(m:Int):=⟨wd.toNat,by omega⟩;have G:10<=m:=by omega
  have H:m<=100:=by omega
  obtain⟨_,_,_,C⟩:=hS;have q:Hid (∀t∈B,q0b t=0):=C.ok;have p:Hid (∀t∈B,z8j t):=C.ni;have l:Hid (fmE B=0):=z9l B C.pg;have V:=C.len;have Z:Hid (Cw 17 #[(m:Int)] w .nilIface):=v1j G H w;have E:Hid (q4p T (w.alloc (.cells #[(m:Int),.slice none 0 0,.map none] 54)) d B n):=y.o.W (q1w w _);have Q:Hid (Cp 21 #[.pointer d] (w.alloc (.cells #[(m:Int),.slice none 0 0,.map none] 54)) fun e w'=>(∃A c,e=.returned (.slice A B.length c)/\Prg w' A B/\B.length<=c)/\Below (w.alloc (.cells #[(m:Int),.slice none 0 0,.map none] 54)).heap.size (w.alloc (.cells #[(m:Int),.slice none 0 0,.map none] 54)) w'):=k1z B n d _ E.o;have N:Hid (q4p 54 (w.alloc (.cells #[(m:Int),.slice none 0 0,.map none] 54)) w.heap.size [] m):=q4p.fresh _ w G H;have j:Hid (Below w w (w.alloc (.cells #[(m:Int),.slice none 0 0,.map none] 54))):=q1w w _;clear C h;go_in;go_wp2_with fail;refine Z.o.mono ?_;rintro e w1⟨rfl,rfl⟩;go_wp2_with fail;refine Q.o.mono ?_;rintro e J⟨⟨x,z,rfl,U,_⟩,a⟩;have r:Hid (q4p T J d B n):=E.o.W a;have O:Hid (q4p 54 J w.heap.size [] m):=N.o.W a;have K:Hid (Below w w J):=q7x Zb Zl a;have k:Hid (Cp 20 #[.pointer w.heap.size,.slice x B.length z] J fun e w'=>j4e B [] m J e w'):=z7c [] B m w.heap.size x z J O.o U q.o p.o V (HT.o.W K.o);clear a U Q N E j Z;generalize X:B.length=no at k⊢;have P:Hid (B.length=no):=X;clear X;go_wp2_with fail;refine k.o.mono ?_;rintro e D⟨v,h3⟩;have s:Hid (q4p T D d B n):=r.o.W v;have L:Hid (Below w w D):=q0e K.o Zl v;clear v;rcases h3 with⟨_,ov,mv,rfl,S⟩|⟨hz,rfl⟩
  ·obtain⟨Y,g,rfl,_⟩:=S.ord
   obtain⟨I,rfl⟩:∃I,mv=.map I:=by
    rcases S.kn with⟨rfl,_⟩|⟨b,rfl,_⟩
    ·exact⟨_,rfl⟩
    ·exact⟨_,rfl⟩
   rw[P.o]at S;have R:Hid (q4p T (D.alloc (.cells #[(m:Int),.slice Y no g,.map I] 54)) d B n):=s.o.W (q1w D _);have o:Hid (ShM (D.alloc (.cells #[(m:Int),.slice Y no g,.map I] 54)) (.slice Y no g) (.map I) B m):=S.W (q1w D _);have M:Hid (Below w w (D.alloc (.cells #[(m:Int),.slice Y no g,.map I] 54))):=L.o.trans ((q1w D _).mono L.o.size);obtain⟨oA,oc,om,s0,s1,s2,i,_,_⟩:=R.o.cell;have Aa:=i 0;have Ab:=i 1;have Ac:=i 2;rw[P.o];clear S k i;go_wp2;go_ret;obtain⟨q1,q2⟩:=R.o.put o.o;exact⟨m,0,rfl,.ok rfl G H,q1,(q0n.of M.o).trans (q2.mono M.o.size)⟩
  ·exact absurd l.o hz
end Go.Proofs.YtchdplceopegoaaGreatDoor
namespace Go.Proofs.YtchdplceopegoaaGreatDoor
open Go Go.RowKit
theorem y5k{s:ByteArray}{ps:List (List Td)}(hp:z0i s ps 0 0)(he:fmE ps=0){A qs:List (List Td)}{x:Nat}{k f:Int}(h:y7a s A qs x k f):qs=ps/\x=frP ps A/\k=0/\f=0:=by
 cases h with
 | bad h1 h2=>exact absurd (q4w h1 hp).2.2 h2
 | full h1 h2=>
  obtain⟨rfl,_⟩:=q4w h1 hp;exact absurd he h2
 | ok h1 h2=>
  obtain⟨rfl,_⟩:=q4w h1 hp;exact⟨rfl,rfl,rfl,rfl⟩
theorem z8s{w0 w w':World}{d:Nat}(h:Below w0 w0 w)(hx:q0n w d w w')(hd:w0.heap.size<=d):Below w0 w0 w':=h.trans ((hx.mono h.size).W hd)
def Bx(w:World)(b:Nat)(o l:Int):Prop:=w.cell? ⟨b,0,none⟩=some (.int .i64 o)/\w.cell? ⟨b,1,none⟩=some (.int .i64 l)
theorem Bx.W{w w':World}{b:Nat}{o l:Int}(h:Bx w b o l)(hb:Below w w w'):Bx w' b o l:=
 ⟨(hb.cell (p:=⟨b,0,none⟩) (World.block_lt_of_cell? w ⟨b,0,none⟩ h.1)).trans h.1,(hb.cell (p:=⟨b,1,none⟩) (World.block_lt_of_cell? w ⟨b,0,none⟩ h.1)).trans h.2⟩
theorem Bx.new(w:World)(o l:Int)(T:TypeId):Bx (w.alloc (.cells #[.int .i64 o,.int .i64 l] T)) w.heap.size o l:=⟨by simp[go_sem],by simp[go_sem]⟩
theorem q9c{w:World}{B e A n k:Nat}{v:Value}{xs:List Value}(h:w.ownsRow B e A v n xs)(hk:v.ownBlock=some k):k<w.heap.size/\∃cur,w.heap[k]?=some (.cells cur e (0,0)):=by
 rcases h.2 with⟨rfl,_⟩|⟨g,c,cur,rfl,_,C,_⟩
 ·simp[Value.ownBlock]at hk
 ·simp only[Value.ownBlock,Option.some.injEq]at hk;subst hk;exact⟨(Array.getElem?_eq_some_iff.1 C).1,cur,C⟩
theorem k0e{w w':World}{B e A n:Nat}{v:Value}{xs:List Value}(h:w.ownsRow B e A v n xs)(hk:∀k,v.ownBlock=some k->w'.heap[k]?=w.heap[k]?):w'.ownsRow B e A v n xs:=by
 refine⟨h.1,?_⟩;rcases h.2 with E|⟨g,c,D,rfl,G,H,C⟩
 ·exact .inl E
 ·exact .inr ⟨g,c,D,rfl,G,(hk g rfl).trans H,C⟩
theorem v7l{w:World}{B B' e A n:Nat}{v:Value}{xs:List Value}(h:w.ownsRow B e A v n xs)(hB:B'<=B):w.ownsRow B' e A v n xs:=by
 refine⟨h.1,?_⟩;rcases h.2 with E|⟨g,c,D,rfl,G,C⟩
 ·exact .inl E
 ·exact .inr ⟨g,c,D,rfl,Nat.le_trans hB G,C⟩
theorem v0w{w:World}{B B' e e' C A n n' k k':Nat}{v v':Value}{xs E:List Value}(h:w.ownsRow B e C v n xs)(h':w.ownsRow B' e' A v' n' E)(he:e≠e')(hk:v.ownBlock=some k)(D:v'.ownBlock=some k'):k≠k':=by
 intro H;subst H;obtain⟨_,c,I⟩:=q9c h hk;obtain⟨_,J,G⟩:=q9c h' D;rw[I]at G;cases G;exact he rfl
theorem v6b:(prog.info? 63).map (fun i=>(i.zero,i.size,i.bytes))=some (some (.slice none 0 0),1,24):=by kernel_rfl
def z4f(B:Nat)(v:Value)(ls:List (List Int))(g:Option Nat)(w:World):Prop:=
 ∃xs:List Value,w.ownsRow B 63 1 v ls.length xs/\∀i(h:i<ls.length),∃a c,xs[i]?=some (.slice a ls[i].length c)/\w.ownsRow B 3 1 (.slice a ls[i].length c) ls[i].length (q0j ls[i])/\(∀k,(Value.slice a ls[i].length c).ownBlock=some k->g≠some k)
theorem z4f.nil(B:Nat)(g:Option Nat)(w:World):z4f B (.slice none 0 0) [] g w:=⟨[],World.ownsRow_nil _ _ _ _,fun i h=>by simp at h⟩
theorem z4f.kept{B:Nat}{v:Value}{ls:List (List Int)}{g g':Option Nat}{w w':World}(h:z4f B v ls g w)(hb:∀k,k<w.heap.size->(∃cur,w.heap[k]?=some (.cells cur 63 (0,0)))->w'.heap[k]?=w.heap[k]?)(hc:∀k,k<w.heap.size->(∃cur,w.heap[k]?=some (.cells cur 3 (0,0)))->g≠some k->w'.heap[k]?=w.heap[k]?/\g'≠some k):z4f B v ls g' w':=by
 obtain⟨J,G,I⟩:=h;refine⟨J,k0e G fun k hk=>?_,fun i hi=>?_⟩
 ·obtain⟨A,C⟩:=q9c G hk;exact hb k A C
 ·obtain⟨a,c,H,D,E⟩:=I i hi;refine⟨a,c,H,k0e D fun k hk=>?_,fun k hk=>?_⟩
  ·obtain⟨A,C⟩:=q9c D hk;exact(hc k A C (E k hk)).1
  ·obtain⟨A,C⟩:=q9c D hk;exact(hc k A C (E k hk)).2
theorem z4f.W{B:Nat}{v:Value}{ls:List (List Int)}{g:Option Nat}{w w':World}(h:z4f B v ls g w)(hb:Below w w w'):z4f B v ls g w':=
 h.kept (fun k h1 _=>hb.block k h1) (fun k h1 _ h3=>⟨hb.block k h1,h3⟩)
theorem z4f.push{B:Nat}{v v':Value}{ls:List (List Int)}{l:List Int}{g:Option Nat}{w w':World}{xs:List Value}{a':Option Addr}{c':Nat}(h1:w.ownsRow B 63 1 v ls.length xs)
  (h2:∀i(h:i<ls.length),∃a c,xs[i]?=some (.slice a ls[i].length c)/\w.ownsRow B 3 1 (.slice a ls[i].length c) ls[i].length (q0j ls[i])/\(∀k,(Value.slice a ls[i].length c).ownBlock=some k->g≠some k))
  (hl:w.ownsRow B 3 1 (.slice a' l.length c') l.length (q0j l)) (G:∀k,(Value.slice a' l.length c').ownBlock=some k->g≠some k) (hg:w.grownBy w' v.ownBlock) (D:w'.ownsRow B 63 1 v' (ls.length+1) (xs++[.slice a' l.length c'])):z4f B v' (ls++[l]) g w':=by
 have L:xs.length=ls.length:=by have:=h1.1;omega
 have A:∀{a c}{l:List Int},w.ownsRow B 3 1 (.slice a l.length c) l.length (q0j l)->w'.ownsRow B 3 1 (.slice a l.length c) l.length (q0j l):=fun{a c l}h=>
  k0e h fun k hk=>hg.block k (q9c h hk).1 fun e=>v0w h h1 (by decide) hk e.symm rfl
 refine⟨xs++[.slice a' l.length c'],by rw[length_append];exact D,fun i hi=>?_⟩;by_cases C:i<ls.length
 ·obtain⟨a,c,I,J,K⟩:=h2 i C;have E:(ls++[l])[i]=ls[i]:=List.getElem_append_left C;rw[E];exact⟨a,c,by rw[List.getElem?_append_left (by omega)];exact I,A J,K⟩
 ·have H:i=ls.length:=by simp at hi;omega
  subst H;have E:(ls++[l])[ls.length]=l:=by simp
  rw[E];exact⟨a',c',by rw[List.getElem?_append_right (by omega),L];simp,A hl,G⟩
set_option maxRecDepth 100000
set_option maxHeartbeats 4000000
def y2e(g:Option Nat)(w:World)(a:Option Addr)(ws:List Int):Prop:=
 ∀i(h:i<ws.length),∃b o,a=some ⟨b,o,none⟩/\b<w.heap.size/\some b≠g/\w.cell? ⟨b,o+i,none⟩=some (.int .i64 ws[i])
theorem y2e.ints{g:Option Nat}{w:World}{a:Option Addr}{ws:List Int}(h:y2e g w a ws):q9s w a ws:=by
 intro i B;obtain⟨b,o,e,A,_,c⟩:=h i B;exact⟨b,o,e,A,c⟩
def q5f(g:Option Nat)(w:World)(a:Option Addr)(ls:List (List Int)):Prop:=
 ∀i(h:i<ls.length),∃b o a' c',a=some ⟨b,o,none⟩/\b<w.heap.size/\some b≠g/\w.cell? ⟨b,o+i,none⟩=some (.slice a' ls[i].length c')/\ls[i].length<=c'/\y2e g w a' ls[i]/\(a'=none->ls[i]=[]/\c'=0)
theorem q5f.kept{g:Option Nat}{w w':World}{a:Option Addr}{ls:List (List Int)}(h:q5f g w a ls)(hs:w.heap.size<=w'.heap.size)(hk:∀k,k<w.heap.size->some k≠g->w'.heap[k]?=w.heap[k]?):q5f g w' a ls:=by
 intro i O;obtain⟨b,o,E,G,e,K,C,c,L,M,N⟩:=h i O;refine⟨b,o,E,G,e,by omega,C,(World.cell?_of_block (w:=w) (a:=(b,o+i)) (hk b K C)).trans c,L,fun j hj=>?_,N⟩;obtain⟨A,D,I,J,B,H⟩:=M j hj;exact⟨A,D,I,by omega,B,(World.cell?_of_block (w:=w) (a:=(A,D+j)) (hk A J B)).trans H⟩
theorem q5f.W{g:Option Nat}{w w':World}{a:Option Addr}{ls:List (List Int)}(h:q5f g w a ls)(hb:Below w w w'):q5f g w' a ls:=h.kept hb.size fun k hk _=>hb.block k hk
theorem q5f.new{g g':Option Nat}{w:World}{a:Option Addr}{ls:List (List Int)}(h:q5f g w a ls)(hg:∀k,g'=some k->w.heap.size<=k):q5f g' w a ls:=by
 intro i L;obtain⟨b,o,B,C,e,H,O,c,I,J,K⟩:=h i L;refine⟨b,o,B,C,e,H,fun q=>by have:=hg b q.symm;omega,c,I,fun j hj=>?_,K⟩;obtain⟨A,M,E,G,N,D⟩:=J j hj;exact⟨A,M,E,G,fun q=>by have:=hg A q.symm;omega,D⟩
theorem z4f.waysN{B:Nat}{a:Option Addr}{n c:Nat}{ls:List (List Int)}{g g':Option Nat}{w:World}(h:z4f B (.slice a n c) ls g' w)(hg:∀k,g=some k->k<B):n=ls.length/\q5f g w a ls:=by
 obtain⟨Z,J,R⟩:=h;have f:Z.length=ls.length:=by have:=J.1;omega
 rcases J.2 with⟨D,Q⟩|⟨I,b,N,D,e,C,S,_,U,A⟩
 ·simp only[Value.slice.injEq]at D;obtain⟨rfl,rfl,rfl⟩:=D;exact⟨Q.symm,fun i hi=>by omega⟩
 ·simp only[Value.slice.injEq]at D;obtain⟨rfl,rfl,rfl⟩:=D;refine⟨rfl,fun i hi=>?_⟩;obtain⟨K,L,G,H,_⟩:=R i hi;obtain⟨_,_,W,X,Y⟩:=k9s H;refine⟨I,0,K,L,rfl,(Array.getElem?_eq_some_iff.1 C).1,fun q=>by have:=hg I q.symm;omega,?_,W,fun j hj=>?_,Y⟩
  ·rw[<-A,List.getElem?_take_of_lt (by omega)]at G;rw[Nat.zero_add];simp only[World.cell?,C];simpa using G
  ·obtain⟨E,V,O,P,M⟩:=X j hj;subst O;refine⟨E,V,rfl,P,fun q=>?_,M⟩;have d:=(H.lt E rfl).1
   have:=hg E q.symm
   omega
def g1d(B:Nat)(g0:Option Nat)(ls ms:List (List Int))(c:Int)(w:World)(vo vi:Value)(wr:World):Prop:=
 ∃(k:Nat)(av:Option Addr)(cv:Nat),k<=ms.length/\vi=.int .i64 k/\vo=.slice av (ls.length+k) cv/\z4f B (.slice av (ls.length+k) cv) (ls++(ms.take k).map (c::·)) none wr/\w.grownBy wr g0/\((Value.slice av (ls.length+k) cv).ownBlock=g0\/∀j,(Value.slice av (ls.length+k) cv).ownBlock=some j->w.heap.size<=j)
theorem q6o(B:Nat)(v:Value)(ls ms:List (List Int))(c:Int)(a:Option Addr)(ca:Nat)(w:World)(hG:z4f B v ls none w)(hM:q5f v.ownBlock w a ms)(hB:B<=w.heap.size)(hl:ls.length+ms.length<=1000)(hx:∀x∈ms,x.length<=1000):
  Calls prog 131 #[v,c,.slice a ms.length ca] w fun e w'=>∃v',e=.returned v'/\z4f B v' (ls++ms.map (c::·)) none w'/\w.grownBy w' v.ownBlock/\(v'.ownBlock=v.ownBlock\/∀k,v'.ownBlock=some k->w.heap.size<=k):=by
 obtain⟨i1,Ag,Aj,Ak,Al⟩:=info_parts v6b;have Ab:=hid hG;have HM:=hid hM;have HX:=hid hx
 obtain⟨o,r,rfl⟩:∃av cv,v=.slice av ls.length cv:=by
  obtain⟨xs,s,_⟩:=hG;rcases s.2 with⟨X,h0⟩|⟨g,c,Af,X,_⟩
  ·exact⟨none,0,by rw[X,h0]⟩
  ·exact⟨_,c,X⟩
 generalize y:(Value.slice o ls.length r).ownBlock=g0 at HM;have HV:=hid y;clear hG hM hx y;go_in;go_wp2
 go_loopw [0,7] (fun vo vi wr=>g1d B g0 ls ms c w vo vi wr) (fun _ vi _=>ms.length-(intOf vi).toNat)
 case atStart=>exact⟨0,o,r,zero_le _,rfl,rfl,by simpa using Ab.o,⟨rfl,rfl,rfl,le_refl _,fun _ _ _=>rfl⟩,.inl HV.o⟩
 case round=>
  obtain⟨k,av,cv,hk,rfl,rfl,hG,Q,t⟩:=hrel;have HG:=hid hG;have E:=hid Q;have O:=hid t;have Ai:=Q.size;clear hG Q t;by_cases S:k<ms.length
  ·have An:(k:Int)<(ms.length:Int):=by omega
   obtain⟨b1,o1,a4,d1,ea,Am,_,c1,_,i4,I⟩:=(HM.o.kept Ai fun j hj hne=>E.o.block j hj hne) k S;subst ea;have Ah:=HX.o _ (getElem_mem S);have U:(ms.take (k+1)).map (c::·)=(ms.take k).map (c::·)++[c::ms[k]]:=by rw[List.take_add_one,List.getElem?_eq_getElem S,List.map_append];rfl
   have b:=hid i4.ints;generalize ms[k]=m at c1 Ah U b I;have Ae:=hid U;have f:=hid I
   have HO:Hid ((wr.alloc (.cells #[c] 3)).ownsRow wr.heap.size 3 1 (.slice wr.heap.size 1 1) 1 (q0j [c])):=
    ⟨rfl,.inr ⟨wr.heap.size,1,#[c],rfl,le_refl _,heap_alloc_new wr _,le_refl _,by unfold maxLen;decide,rfl,rfl⟩⟩
   clear i4 I U;go_wp2_with(at_builtin;refine z1y rfl _ _ rfl wr.heap.size _ _ [c] rfl HO.o a4 m d1 rfl (b.o.W ((Below.refl _ wr).alloc Zl _)) f.o (by omega) (by simp) ?_);intro v5 V C D;have K:=((Below.refl _ wr).alloc Zl _).grown D (by simp) (fun j hj=>by simp only[Value.ownBlock,Option.some.injEq]at hj;omega)
   obtain⟨a5,c5,rfl⟩:∃a5 c5,v5=.slice a5 (c::m).length c5:=by
    rcases C.2 with⟨X,h0⟩|⟨g,q,Af,X,_⟩
    ·omega
    ·exact⟨_,q,by rw[X];congr 1;simp;omega⟩
   have P:Hid (V.ownsRow B 3 1 (.slice a5 (c::m).length c5) (c::m).length (q0j (c::m))):=by
    show V.ownsRow _ _ _ _ _ _;have e1:(c::m).length=1+m.length:=by simp;omega
    rw[e1]at C⊢;exact v7l C (by omega)
   obtain⟨xs,hx,M⟩:=HG.o.W K;have R:(ls++(ms.take k).map (c::·)).length=ls.length+k:=by simp;omega
   have Ad:=hid R;have l:=hid hx
   have n:Hid (V.ownsRow B 63 1 (.slice av (ls.length+k) cv) (ls.length+k) xs):=by
    have:=hx
    rw[R]at this;exact this
   have L:=(show Hid (∀i(h:i<(ls++(ms.take k).map (c::·)).length),∃a p,xs[i]?=some (.slice a (ls++(ms.take k).map (c::·))[i].length p)/\V.ownsRow B 3 1 (.slice a (ls++(ms.take k).map (c::·))[i].length p) (ls++(ms.take k).map (c::·))[i].length (q0j (ls++(ms.take k).map (c::·))[i])/\(∀j,(Value.slice a (ls++(ms.take k).map (c::·))[i].length p).ownBlock=some j->(none:Option Nat)≠some j))from M);have Ao:=K.size;have G:=hid K;generalize z:(c::m).length=nl at P;have d:=hid z;clear hx M C D K R HO z;go_wp2_with(at_builtin;refine wpList_append_lies _ rfl _ _ 137 rfl B 63 i1 _ 1 24 Tryz.underlying137 Ag Aj Ak Al rfl (by decide) _ _ _ rfl (n.o.alloc _) V.heap.size 1 1 [.slice a5 nl c5] rfl rfl (cell_one_new V _ _) (by intro u hu;simp at hu;subst hu;rfl) (by decide) (by unfold maxLen;omega) (by omega) (by simp;omega) (V.heap.size+1) (by simp) ?_);intro g6 H w6 J A N Aa
   have Ac:Hid (z4f B (.slice g6 (ls.length+(k+1)) H) (ls++(ms.take (k+1)).map (c::·)) none w6):=by
    show z4f _ _ _ _ _;rw[Ae.o,<-append_assoc];have ho:=P.o;rw[<-d.o]at ho;refine z4f.push (l.o.alloc _) (fun i hi=>?_) (ho.alloc _) (fun _ _=>by simp) A (by rw[Ad.o,d.o,<-Nat.add_assoc];exact J);obtain⟨a',p,e1,e2,e3⟩:=L.o i hi;exact⟨a',p,e1,e2.alloc _,e3⟩
   have Z:Hid (w.grownBy w6 g0):=by
    refine⟨A.os.trans (G.o.os.trans E.o.os),A.tape.trans (G.o.tape.trans E.o.tape),A.output.trans (G.o.output.trans E.o.output),?_,fun j hj hne=>?_⟩
    ·have:=A.size
     simp at this;omega
    ·refine(A.block j (by simp;omega) ?_).trans ((Below.heap_alloc _ _ _ (by omega)).trans ((G.o.block j (by omega)).trans (E.o.block j hj hne)));intro e;rcases O.o with h|h
     ·exact hne (e.trans h)
     ·have:=h j e.symm
      omega
   have Y:Hid ((Value.slice g6 (ls.length+(k+1)) H).ownBlock=g0\/∀j,(Value.slice g6 (ls.length+(k+1)) H).ownBlock=some j->w.heap.size<=j):=by
    rcases N with h|h
    ·rcases O.o with s|s
     ·exact .inl (h.symm.trans s)
     ·exact .inr fun j hj=>s j (h.trans hj)
    ·refine .inr fun j hj=>?_
     simp only[Value.ownBlock,Option.some.injEq]at hj;omega
   clear J A N Aa l n L P G;go_wp2
   go_roundw
   case rel=>exact⟨k+1,_,_,by omega,by go_num,rfl,Ac.o,Z.o,Y.o⟩
   case measure=>simp[intOf];omega
  ·obtain rfl:k=ms.length:=by omega
   go_wp2;go_ret;have hG:=HG.o;rw[List.take_length]at hG;exact⟨_,rfl,hG,E.o,O.o⟩
theorem q5c(ds:List Nd)(a:Option Addr)(cap:Nat)(hl:ds.length<=400):∀(f i:Nat)(w:World),q2b w a ds->ds.length-i<f->i<=1000->
  Cw 129 #[.slice a ds.length cap,.int .i64 i] w (.int .i64 (y0d (q0v ds i 1))):=by
 unfold Cw;intro f
 induction f with
 | zero=>intro i w _ h;omega
 | succ f ih=>
  intro i w Q Z c;have K:Hid (q2b w a ds):=Q
  have O:Hid (∀(i:Nat)(w:World),q2b w a ds->ds.length-i<f->i<=1000->
   Calls prog 129 #[.slice a ds.length cap,.int .i64 i] w fun e w'=>e=.returned (.int .i64 (y0d (q0v ds i 1)))/\w=w'):=ih
  by_cases B:i<ds.length
  ·obtain⟨b,o,P,Y,V,W,X⟩:=K.o i B;have L:Hid (q0v ds i 1=q0v ds (i+1) (pts ds[i].op)):=z6y _ _ 0 B;have M:=v1i ds[i].op;generalize I:pts ds[i].op=p at L M;have N:Hid (pts ds[i].op=p):=I;subst P;go_in;go_wp2_with(go_at_call 167;refine(j2v _ _).mono ?_;rintro e w'⟨rfl,rfl⟩;rw[N.o])
   go_loopw [1,5] (fun z m wr=>wr=w/\∃q:Nat,q<=2/\m=.int .i64 q/\((∃k:Nat,i<k/\k<=ds.length/\z=.int .i64 k/\q0v ds i 1=q0v ds k q)\/(z=.int .i64 (-1)/\q0v ds i 1=none))) (fun _ m _=>(intOf m).toNat)
   case atStart=>exact⟨rfl,p,M,rfl,.inl ⟨i+1,by omega,by omega,by go_num,L.o⟩⟩
   case round=>
    obtain⟨rfl,q,d,rfl,⟨k,S,U,rfl,G⟩|⟨rfl,G⟩⟩:=hrel
    ·have A:Hid (q0v ds i 1=q0v ds k q):=G;by_cases E:q=0
     ·subst E;have D:Hid (q0v ds i 1=some k):=A.o.trans (z6z _ _);go_wp2;go_ret;exact⟨by rw[D.o];rfl,rfl⟩
     ·obtain⟨C,rfl⟩:∃C,q=C+1:=⟨q-1,by omega⟩;have J:Hid (q0v ds i 1=(q0v ds k 1).bind fun j=>q0v ds j C):=A.o.trans (by rw[Nat.add_comm C 1,j6n]);go_wp2_with(go_at_call 129;refine(O.o k _ K.o (by omega) (by omega)).mono ?_;rintro e w'⟨rfl,rfl⟩)
      go_roundw
      case rel=>
       refine⟨by trivial,C,by omega,by go_num,?_⟩;cases H:q0v ds k 1 with
       | none=>exact .inr ⟨rfl,by rw[J.o,H];rfl⟩
       | some j=>
        have R:=k8k H;exact .inl ⟨j,by omega,by omega,rfl,by rw[J.o,H];rfl⟩
      case measure=>simp[intOf]
    ·have A:Hid (q0v ds i 1=none):=G;by_cases E:q=0
     ·subst E;go_wp2;go_ret;exact⟨by rw[A.o];rfl,rfl⟩
     ·go_wp2;go_ret;exact⟨by rw[A.o];rfl,rfl⟩
  ·have A:Hid (q0v ds i 1=none):=k2b _ _ _ (by omega);go_in;go_wp2;go_ret;exact⟨by rw[A.o];rfl,rfl⟩
def q2q(ds:List Nd)(a:Option Addr)(cap:Nat)(A:List Nd)(sA:ByteArray)(fA:Bool):Prop:=∀(i:Nat)(r:List Nd)(w:World),ds.drop i=A++r->q2b w a ds->
  Calls prog 130 #[.slice a ds.length cap,.int .i64 i] w fun e w'=>e=.returned (.tuple #[.string sA,.bool fA])/\Below w w w'
theorem v5n(ds:List Nd)(a:Option Addr)(cap:Nat)(tx:ByteArray)(n:Int):q2q ds a cap (⟨2,tx,n⟩::[]) (⟨#[32]⟩) (true):=by
 intro i r w J D;obtain⟨K,G,H⟩:=q0u (x:=⟨2,tx,n⟩) (r:=[]++r) J;obtain⟨E,M,I,L,A,B,C⟩:=D i K;subst I;rw[G]at A B C;dsimp only at A B C;have N:Hid (ds.drop (i+1)=[]++r):=H;have O:Hid (q2b w (some ⟨E,M,none⟩) ds):=D;go_in;go_wp2;go_ret2;exact⟨rfl,Below.refl _ _⟩
theorem v5o(ds:List Nd)(a:Option Addr)(cap:Nat)(tx:ByteArray)(n:Int):q2q ds a cap (⟨3,tx,n⟩::[]) (⟨#[]⟩) (true):=by
 intro i r w J D;obtain⟨K,G,H⟩:=q0u (x:=⟨3,tx,n⟩) (r:=[]++r) J;obtain⟨E,M,I,L,A,B,C⟩:=D i K;subst I;rw[G]at A B C;dsimp only at A B C;have N:Hid (ds.drop (i+1)=[]++r):=H;have O:Hid (q2b w (some ⟨E,M,none⟩) ds):=D;go_in;go_wp2;go_ret2;exact⟨rfl,Below.refl _ _⟩
theorem v5p(ds:List Nd)(a:Option Addr)(cap:Nat)(tx:ByteArray)(n:Int):q2q ds a cap (⟨4,tx,n⟩::[]) (⟨#[]⟩) (false):=by
 intro i r w J D;obtain⟨K,G,H⟩:=q0u (x:=⟨4,tx,n⟩) (r:=[]++r) J;obtain⟨E,M,I,L,A,B,C⟩:=D i K;subst I;rw[G]at A B C;dsimp only at A B C;have N:Hid (ds.drop (i+1)=[]++r):=H;have O:Hid (q2b w (some ⟨E,M,none⟩) ds):=D;go_in;go_wp2;go_ret2;exact⟨rfl,Below.refl _ _⟩
theorem v5q(ds:List Nd)(a:Option Addr)(cap:Nat)(tx:ByteArray)(n:Int):q2q ds a cap (⟨5,tx,n⟩::[]) (⟨#[]⟩) (true):=by
 intro i r w J D;obtain⟨K,G,H⟩:=q0u (x:=⟨5,tx,n⟩) (r:=[]++r) J;obtain⟨E,M,I,L,A,B,C⟩:=D i K;subst I;rw[G]at A B C;dsimp only at A B C;have N:Hid (ds.drop (i+1)=[]++r):=H;have O:Hid (q2b w (some ⟨E,M,none⟩) ds):=D;go_in;go_wp2;go_ret2;exact⟨rfl,Below.refl _ _⟩
theorem v5m(ds:List Nd)(a:Option Addr)(cap:Nat)(tx:ByteArray)(n:Int):q2q ds a cap (⟨1,tx,n⟩::[]) (tx) (true):=by
 intro i r w J D;obtain⟨K,G,H⟩:=q0u (x:=⟨1,tx,n⟩) (r:=[]++r) J;obtain⟨E,M,I,L,A,B,C⟩:=D i K;subst I;rw[G]at A B C;dsimp only at A B C;have N:Hid (ds.drop (i+1)=[]++r):=H;have O:Hid (q2b w (some ⟨E,M,none⟩) ds):=D;go_in;go_wp2;go_ret2;exact⟨rfl,Below.refl _ _⟩
theorem v5r(ds:List Nd)(a:Option Addr)(cap:Nat)(hl:ds.length<=400)(tx:ByteArray)(n:Int)(A C:List Nd)(sA sC:ByteArray)(fA fC:Bool)(hA:q2q ds a cap A sA fA)(hC:q2q ds a cap C sC fC)(f:sA.size<=8800)(g:sC.size<=8800)(hE:∀i r,ds.drop i=A++r->q0v ds i 1=some (i+A.length)):q2q ds a cap (⟨6,tx,n⟩::(A++C)) (if(fA&&fC)=true then sA++sC else⟨#[]⟩) (fA&&fC):=by
 intro i r w R I;obtain⟨b,P,Q⟩:=q0u (x:=⟨6,tx,n⟩) (r:=(A++C)++r) R;obtain⟨H,K,Z,d,M,N,O⟩:=I i b;subst Z;rw[P]at M N O;dsimp only at M N O;have E:Hid (ds.drop (i+1)=(A++C)++r):=Q;have G:Hid (q2b w (some ⟨H,K,none⟩) ds):=I;have V:Hid (q2q ds (some ⟨H,K,none⟩) cap A sA fA):=hA;have X:Hid (q2q ds (some ⟨H,K,none⟩) cap C sC fC):=hC;have L:Hid (((i+1:Nat):Int)=(i:Int)+1):=(show _=_ by omega);rw[append_assoc]at E;have Y:Hid (q0v ds (i+1) 1=some (i+1+A.length)):=hE (i+1) (C++r) E.o;have D:Hid (ds.drop (i+1+A.length)=C++r):=q7z E.o;clear R P Q I hA hC hE;cases fA<;>cases fC
 all_goals
  go_in;go_wp2_with fail;rw[<-L.o];refine(V.o (i+1) (C++r) _ E.o G.o).mono ?_;rintro e U⟨rfl,B⟩;go_wp2_with fail;rw[<-L.o];refine(q5c ds _ cap hl (ds.length+1) (i+1) U (G.o.W B) (by omega) (by omega)).mono ?_;rintro e h⟨rfl,rfl⟩;rw[Y.o];have S:y0d (some (i+1+A.length))=((i+1+A.length:Nat):Int):=rfl;rw[S];generalize c:i+1+A.length=j at D⊢;clear S c;go_wp2_with fail;refine(X.o j r U D.o (G.o.W B)).mono ?_;rintro e k⟨rfl,J⟩;go_wp2;go_ret2;exact⟨rfl,q0e B Zl J⟩
theorem v5s(ds:List Nd)(a:Option Addr)(cap:Nat)(hl:ds.length<=400)(tx:ByteArray)(n:Int)(A:List Nd)(sA:ByteArray)(fA:Bool)(hA:q2q ds a cap A sA fA):q2q ds a cap (⟨7,tx,n⟩::A) (sA) (fA):=by
 intro i r w K B;obtain⟨R,I,J⟩:=q0u (x:=⟨7,tx,n⟩) (r:=A++r) K;obtain⟨D,L,Q,S,E,G,H⟩:=B i R;subst Q;rw[I]at E G H;dsimp only at E G H;have N:Hid (ds.drop (i+1)=A++r):=J;have P:Hid (q2b w (some ⟨D,L,none⟩) ds):=B;have M:Hid (q2q ds (some ⟨D,L,none⟩) cap A sA fA):=hA;have O:Hid (((i+1:Nat):Int)=(i:Int)+1):=(show _=_ by omega);clear K I J B hA;go_in;go_wp2_with fail;rw[<-O.o];refine(M.o (i+1) _ _ N.o P.o).mono ?_;rintro e U⟨rfl,C⟩;go_wp2;go_ret2;exact⟨rfl,C⟩
theorem v5t(ds:List Nd)(a:Option Addr)(cap:Nat)(hl:ds.length<=400)(tx:ByteArray)(n:Int)(A:List Nd)(sA:ByteArray)(fA:Bool)(hA:q2q ds a cap A sA fA):q2q ds a cap (⟨8,tx,n⟩::A) (sA) (fA):=by
 intro i r w K B;obtain⟨R,I,J⟩:=q0u (x:=⟨8,tx,n⟩) (r:=A++r) K;obtain⟨D,L,Q,S,E,G,H⟩:=B i R;subst Q;rw[I]at E G H;dsimp only at E G H;have N:Hid (ds.drop (i+1)=A++r):=J;have P:Hid (q2b w (some ⟨D,L,none⟩) ds):=B;have M:Hid (q2q ds (some ⟨D,L,none⟩) cap A sA fA):=hA;have O:Hid (((i+1:Nat):Int)=(i:Int)+1):=(show _=_ by omega);clear K I J B hA;go_in;go_wp2_with fail;rw[<-O.o];refine(M.o (i+1) _ _ N.o P.o).mono ?_;rintro e U⟨rfl,C⟩;go_wp2;go_ret2;exact⟨rfl,C⟩
theorem v5u(ds:List Nd)(a:Option Addr)(cap:Nat)(hl:ds.length<=400)(tx:ByteArray)(n:Int)(A C:List Nd)(sA:ByteArray)(fA:Bool)(hA:q2q ds a cap A sA fA):q2q ds a cap (⟨9,tx,n⟩::(A++C)) (sA) (fA):=by
 intro i r w M B;obtain⟨S,K,L⟩:=q0u (x:=⟨9,tx,n⟩) (r:=(A++C)++r) M;obtain⟨G,N,R,U,H,I,J⟩:=B i S;subst R;rw[K]at H I J;dsimp only at H I J;have E:Hid (ds.drop (i+1)=(A++C)++r):=L;have Q:Hid (q2b w (some ⟨G,N,none⟩) ds):=B;rw[append_assoc]at E;have O:Hid (q2q ds (some ⟨G,N,none⟩) cap A sA fA):=hA;have P:Hid (((i+1:Nat):Int)=(i:Int)+1):=(show _=_ by omega);clear M K L B hA;go_in;go_wp2_with fail;rw[<-P.o];refine(O.o (i+1) _ _ E.o Q.o).mono ?_;rintro e V⟨rfl,D⟩;go_wp2;go_ret2;exact⟨rfl,D⟩
theorem j1x{x:Nd}{a c:Tr}(h:x.op=6):Tr.line (.two x a c)=(if(a.isFlat&&c.isFlat)=true then a.line++c.line else⟨#[]⟩)/\Tr.isFlat (.two x a c)=(a.isFlat&&c.isFlat):=by
 unfold Tr.line Tr.isFlat;simp only[Tr.flat,if_pos h];cases A:a.flat with
 | none=>simp
 | some s=>
  cases B:c.flat with
  | none=>simp
  | some t=>exact⟨q6l (by simp),by simp⟩
theorem q3y(ds:List Nd)(a:Option Addr)(cap:Nat)(hl:ds.length<=400):∀t:Tr,t.Wf->t.N.length<=400->q2q ds a cap t.N t.line t.isFlat
 | .leaf ⟨op,tx,n⟩,h,hn=>by
  rcases q4a h.1 h.2 with e|e|e|e|e
  all_goals (simp only at e;subst e)
  ·have es:Tr.line (.leaf ⟨1,tx,n⟩)=tx:=q6l (by rw[z5e];simp[Tr.flat]);rw[es];exact v5m ds a cap tx n
  ·exact v5n ds a cap tx n
  ·exact v5o ds a cap tx n
  ·exact v5p ds a cap tx n
  ·exact v5q ds a cap tx n
 | .one ⟨op,tx,n⟩ a',h,hn=>by
  have hn':a'.N.length<=400:=by simp[Tr.N]at hn;omega
  rcases q8h h.2.1 with e|e
  all_goals (simp only at e;subst e)
  ·exact v5s ds a cap hl tx n _ _ _ (q3y ds a cap hl a' h.2.2 hn')
  ·exact v5t ds a cap hl tx n _ _ _ (q3y ds a cap hl a' h.2.2 hn')
 | .two ⟨op,tx,n⟩ a' c,h,hn=>by
  have A:a'.N.length<=400:=by simp[Tr.N]at hn;omega
  have B:c.N.length<=400:=by simp[Tr.N]at hn;omega
  have C:a'.line.size<=8800:=by have:=q8b a' h.2.2.1;rw[q8f];omega
  have D:c.line.size<=8800:=by have:=q8b c h.2.2.2;rw[q8f];omega
  rcases q7t h.2.1 with e|e
  all_goals (simp only at e;subst e)
  ·obtain⟨E,G⟩:=j1x (x:=⟨6,tx,n⟩) (a:=a') (c:=c) rfl;rw[E,G];exact v5r ds a cap hl tx n _ _ _ _ _ _ (q3y ds a cap hl a' h.2.2.1 A) (q3y ds a cap hl c h.2.2.2 B) C D fun i r hd=>q5a h.2.2.1 hd
  ·exact v5u ds a cap hl tx n _ _ _ _ (q3y ds a cap hl a' h.2.2.1 A)
def k7r(ds:List Nd)(a:Option Addr)(cap:Nat)(A:List Nd)(f:List (List Int)->List (List Int)):Prop:=
 ∀(i:Nat)(r:List Nd)(bs:List (List Int))(ba:Option Addr)(bc m:Nat)(w:World),ds.drop i=A++r->q2b w a ds->q5f none w ba bs->bs.length<=bc->bs.length<=301->(∀x∈bs,x.length<=m)->m+A.length<=900->
  Calls prog 93 #[.slice a ds.length cap,.int .i64 i,.slice ba bs.length bc,.int .i64 300] w fun e w'=>∃a' c',e=.returned (.slice a' (f bs).length c')/\(f bs).length<=c'/\(∀g:Option Nat,(∀k,g=some k->k<w.heap.size)->q5f g w ba bs->q5f g w' a' (f bs))/\Below w w w'
def y6l(A:List Nd)(f:List (List Int)->List (List Int)):Prop:=
 (∀bs,bs.length<=301->(f bs).length<=301)/\∀bs m,(∀x∈bs,x.length<=m)->∀x∈f bs,x.length<=m+A.length
theorem q5f.take{g:Option Nat}{w:World}{a:Option Addr}{ls:List (List Int)}(h:q5f g w a ls)(n:Nat):q5f g w a (ls.take n):=by
 intro i B;have A:i<ls.length:=by simp at B;omega
 have e:(ls.take n)[i]=ls[i]:=List.getElem_take;rw[e];exact h i A
theorem z4f.o{B:Nat}{v:Value}{ls:List (List Int)}{w:World}(h:z4f B v ls none w):∃a c,v=.slice a ls.length c/\ls.length<=c/\(ls.length=0\/∃k,a=some ⟨k,0,none⟩)/\(∀g:Option Nat,(∀k,g=some k->k<B)->q5f g w a ls)/\(∀k,v.ownBlock=some k->B<=k/\k<w.heap.size):=by
 have G:=h;obtain⟨L,I,_⟩:=G;rcases I.2 with⟨rfl,H⟩|⟨K,D,E,rfl,J,A,C,_⟩
 ·rw[H]at *;exact⟨none,0,rfl,le_refl _,.inl rfl,fun g hg=>(h.waysN hg).2,fun k hk=>by cases hk⟩
 ·exact⟨_,D,rfl,C,.inr ⟨_,rfl⟩,fun g hg=>(h.waysN hg).2,fun k hk=>by
   cases hk
   exact⟨J,(Array.getElem?_eq_some_iff.1 A).1⟩⟩
theorem q5k{w w':World}{g:Option Nat}{B:Nat}(h:w.grownBy w' g)(hB:B<=w.heap.size)(hg:∀k,g=some k->B<=k):Below B w w':=(Below.refl B w).grown h hB hg
theorem q5f.apart{w w':World}{a:Option Addr}{ls:List (List Int)}{g:Option Nat}(h:q5f none w a ls)(hb:Below w w w')(hg:∀k,g=some k->w.heap.size<=k):q5f g w' a ls:=(h.new hg).W hb
theorem j3m(ds:List Nd)(a:Option Addr)(cap:Nat)(op:Int)(ho:op=1\/op=2\/op=3\/op=4\/op=5)(tx:ByteArray)(n:Int):k7r ds a cap [⟨op,tx,n⟩] (fun bs=>bs):=by
 intro i r bs N O m w J H Q A I S R;obtain⟨K,E,P⟩:=q0u (x:=⟨op,tx,n⟩) (r:=r) J;obtain⟨M,U,G,L,B,C,D⟩:=H i K;subst G;rw[E]at B C D;dsimp only at B C D;rcases ho with rfl|rfl|rfl|rfl|rfl
 all_goals
  go_in;go_wp2;go_ret;exact⟨_,_,rfl,A,fun g _ h=>h,Below.refl _ _⟩
theorem y5t(ds:List Nd)(a:Option Addr)(cap:Nat)(hl:ds.length<=400)(tx:ByteArray)(n:Int)(A:List Nd)(f:List (List Int)->List (List Int))(hA:k7r ds a cap A f):k7r ds a cap (⟨7,tx,n⟩::A) f:=by
 intro i r N L M m w W H V B C b Z;obtain⟨X,O,P⟩:=q0u (x:=⟨7,tx,n⟩) (r:=A++r) W;obtain⟨d,h,Q,Y,D,E,G⟩:=H i X;subst Q;rw[O]at D E G;dsimp only at D E G;simp only[length_cons]at Z;have K:Hid (((i+1:Nat):Int)=(i:Int)+1):=(show _=_ by omega);have J:=hid (hA (i+1) r N L M m w P H V B C b (by omega));go_in;go_wp2_with fail;rw[<-K.o];refine J.o.mono ?_;rintro e j⟨c,g,rfl,R,S,U⟩;have I:=hid S;go_wp2;go_ret;exact⟨_,_,rfl,R,I.o,U⟩
theorem y5s(ds:List Nd)(a:Option Addr)(cap:Nat)(hl:ds.length<=400)(tx:ByteArray)(n:Int)(A C:List Nd)(f g:List (List Int)->List (List Int))(hA:k7r ds a cap A f)(hC:k7r ds a cap C g)(hg:y6l C g)(hE:∀i r,ds.drop i=A++r->q0v ds i 1=some (i+A.length)):k7r ds a cap (⟨6,tx,n⟩::(A++C)) (fun bs=>f (g bs)):=by
 intro i r bs c d m w z J S K B U hm;obtain⟨hi,l,o⟩:=q0u (x:=⟨6,tx,n⟩) (r:=(A++C)++r) z;obtain⟨b0,o0,p,Aa,P,Q,R⟩:=J i hi;subst p;rw[l]at P Q R;dsimp only at P Q R;simp only[length_cons,length_append]at hm;have O:Hid (((i+1:Nat):Int)=(i:Int)+1):=(show _=_ by omega);have D:=hid o;rw[append_assoc]at D;have N:=hid J;have Y:=hid (hE (i+1) (C++r) D.o);have G:=hid (q7z D.o);have M:=hid (hC (i+1+A.length) r bs c d m w G.o J S K B U (by omega));have X:=hid hA;have Z:=hid S;have H:=hid (hg.1 bs B);have I:=hid (hg.2 bs m U);go_in;go_wp2_with fail;rw[<-O.o];refine(q5c ds _ cap hl (ds.length+1) (i+1) w N.o (by omega) (by omega)).mono ?_;rintro e w3⟨rfl,rfl⟩;rw[Y.o];have hz:y0d (some (i+1+A.length))=((i+1+A.length:Nat):Int):=rfl;rw[hz];generalize hj:i+1+A.length=j at M⊢;go_wp2_with fail;refine M.o.mono ?_;rintro e w2⟨b,k2,rfl,s,t,E⟩;have L:=hid t;go_wp2_with fail;rw[<-O.o];refine(X.o (i+1) (C++r) (g bs) b k2 (m+C.length) w2 D.o (N.o.W E) (L.o none (fun _ h=>by cases h) Z.o) s H.o I.o (by omega)).mono ?_;rintro e w5⟨a5,k5,rfl,u,v,y⟩;have V:=hid v;go_wp2;go_ret;refine⟨_,_,rfl,u,fun q hq hw=>V.o q (fun k hk=>?_) (L.o q hq hw),E.trans (y.mono E.size)⟩
 have:=hq k hk
 have:=E.size
 omega
theorem v8p(ds:List Nd)(a:Option Addr)(cap:Nat)(hl:ds.length<=400)(tx:ByteArray)(n:Int)(A:List Nd)(f:List (List Int)->List (List Int))(sA:ByteArray)(hA:k7r ds a cap A f)(hf:y6l A f)(hF:q2q ds a cap A sA true)(F:List (List Int)->List (List Int))(HF:Hid (∀bs,F bs=(bs.map (0::·)++(f bs).map (1::·)).take 301)):k7r ds a cap (⟨8,tx,n⟩::A) F:=by
 intro i r bs ba bc m w hd y hM z L hx hm;obtain⟨hi,e1,e2⟩:=q0u (x:=⟨8,tx,n⟩) (r:=A++r) hd;obtain⟨b0,o0,ea,Ad,c1,c2,c3⟩:=y i hi;subst ea;rw[e1]at c1 c2 c3;dsimp only at c1 c2 c3;simp only[length_cons]at hm;have HX:Hid (((i+1:Nat):Int)=(i:Int)+1):=(show _=_ by omega);have HN:=hid y;have u:=hid hM;have V:=hid hx;have HA:=hid hA;have l:=hid (hf.1 bs L);have o:=hid (hf.2 bs m hx);have p:=hid hF;have HD:=hid e2;clear hd e1 e2 y hM hx hA hF hf;go_in;go_wp2_with fail;rw[<-HX.o];refine(p.o (i+1) _ _ HD.o HN.o).mono ?_;rintro e w1⟨rfl,J⟩;have O:=hid J;have c:=J.size;clear J;go_wp2_with fail;refine(q6o w.heap.size (.slice none 0 0) [] bs 0 ba bc w1 (z4f.nil _ _ _) (u.o.W O.o) c (by simp;omega) (fun x h=>by have:=V.o x h;omega)).mono ?_;rintro e w2⟨v2,rfl,B,G,X⟩;rw[List.nil_append]at B;have D:(bs.map (0::·)).length<=301:=by rw[length_map];exact L
 generalize Y:bs.map (0::·)=l1 at B D;have j:=hid Y;have U:=hid D;clear Y D;have C:=hid (O.o.trans (q5k G c (fun k h=>by cases h)));have Ac:=C.o.size;obtain⟨a2,k2,rfl,_,_,_,N⟩:=B.o;have D:=U.o;generalize Ab:l1.length=n1 at B N D;have s:=hid B;have I:=hid N;clear B G X N Ab;go_wp2_with fail;rw[<-HX.o];refine(HA.o (i+1) r bs ba bc m w2 HD.o (HN.o.W C.o) (u.o.W C.o) z L V.o (by omega)).mono ?_;rintro e w3⟨a3,k3,rfl,h3,h4,K⟩;have v:=hid (h4 (Value.slice a2 n1 k2).ownBlock (fun k h=>(I.o k h).2) (u.o.apart C.o fun k h=>(I.o k h).1));have t:=hid (s.o.W K);have P:=hid (C.o.trans (K.mono Ac));have d:=P.o.size;clear h4 K;go_wp2_with fail;refine(q6o w.heap.size (.slice a2 n1 k2) l1 (f bs) 1 a3 k3 w3 t.o v.o d (by have:=l.o;have:=U.o;omega) (fun x h=>by have:=o.o x h;omega)).mono ?_;rintro e w5⟨v5,rfl,M,H,_⟩;generalize Z:l1++(f bs).map (1::·)=l5 at M;have S:=hid M;have R:Hid (F bs=l5.take 301):=(show _=_ by rw[HF.o,j.o,Z]);clear Z;have Q:=hid (P.o.trans (q5k H d (fun k h=>(I.o k h).1)));clear M H;obtain⟨a5,k5,rfl,h5,g,h7,_⟩:=S.o.o;have H7:=hid h7;generalize b:l5.length=n5 at h5 g;have E:=hid b;clear h7 b S;by_cases hcut:301<n5
 ·obtain⟨q5,rfl⟩:∃q5,a5=some ⟨q5,0,none⟩:=g.resolve_left (by omega);have Aa:(301:Int)<(n5:Int):=by omega
  clear g;go_wp2;go_ret;rw[R.o];refine⟨some ↑q5,k5,?_,?_,fun q hq _=>(H7.o q hq).take 301,Q.o⟩
  ·have e:(l5.take 301).length=301:=by rw[length_take,E.o];omega
   rw[e];rfl
  ·rw[length_take,E.o];omega
 ·have Aa:¬(301:Int)<(n5:Int):=by omega
  clear g;go_wp2;go_ret;rw[R.o];refine⟨a5,k5,?_,?_,fun q hq _=>(H7.o q hq).take 301,Q.o⟩
  ·have e:(l5.take 301).length=n5:=by rw[length_take,E.o];omega
   rw[e];rfl
  ·rw[length_take,E.o];omega
theorem v8o(ds:List Nd)(a:Option Addr)(cap:Nat)(hl:ds.length<=400)(tx:ByteArray)(n:Int)(A:List Nd)(f:List (List Int)->List (List Int))(sA:ByteArray)(hA:k7r ds a cap A f)(hf:y6l A f)(hF:q2q ds a cap A sA false)(F:List (List Int)->List (List Int))(HF:Hid (∀bs,F bs=(([]:List (List Int))++(f bs).map (1::·)).take 301)):k7r ds a cap (⟨8,tx,n⟩::A) F:=by
 intro i r bs ba bc m w hd Y hM Z M d hm;obtain⟨hi,z,e2⟩:=q0u (x:=⟨8,tx,n⟩) (r:=A++r) hd;obtain⟨b0,o0,ea,Aa,u,v,y⟩:=Y i hi;subst ea;rw[z]at u v y;dsimp only at u v y;simp only[length_cons]at hm;have s:Hid (((i+1:Nat):Int)=(i:Int)+1):=(show _=_ by omega);have p:=hid Y;have o:=hid hM;have X:=hid d;have HA:=hid hA;have R:=hid (hf.1 bs M);have S:=hid (hf.2 bs m d);have U:=hid hF;have l:=hid e2;clear hd z e2 Y hM d hA hF hf;go_in;go_wp2_with fail;rw[<-s.o];refine(U.o (i+1) _ _ l.o p.o).mono ?_;rintro e w1⟨rfl,E⟩;have B:=hid E;have c:=E.size;clear E;go_wp2_with fail;rw[<-s.o];refine(HA.o (i+1) r bs ba bc m w1 l.o (p.o.W B.o) (o.o.W B.o) Z M X.o (by omega)).mono ?_;rintro e w3⟨a3,k3,rfl,h3,h4,L⟩;have V:=hid (h4 none (fun k h=>by cases h) (o.o.W B.o));have H:=hid (B.o.trans (L.mono c));have P:=H.o.size;clear h4 L;go_wp2_with fail;refine(q6o w.heap.size (.slice none 0 0) [] (f bs) 1 a3 k3 w3 (z4f.nil _ _ _) V.o P (by have:=R.o;simp;omega) (fun x h=>by have:=S.o x h;omega)).mono ?_;rintro e w5⟨v5,rfl,G,D,_⟩;generalize N:([]:List (List Int))++(f bs).map (1::·)=l5 at G;have K:=hid G;have J:Hid (F bs=l5.take 301):=(show _=_ by rw[HF.o,N]);clear N;have I:=hid (H.o.trans (q5k D P (fun k h=>by cases h)));clear G D;obtain⟨t,k5,rfl,h5,Q,h7,_⟩:=K.o.o;have j:=hid h7;generalize O:l5.length=n5 at h5 Q;have C:=hid O;clear h7 O K;by_cases hcut:301<n5
 ·obtain⟨g,rfl⟩:∃g,t=some ⟨g,0,none⟩:=Q.resolve_left (by omega);have b:(301:Int)<(n5:Int):=by omega
  clear Q;go_wp2;go_ret;rw[J.o];refine⟨some ↑g,k5,?_,?_,fun q hq _=>(j.o q hq).take 301,I.o⟩
  ·have e:(l5.take 301).length=301:=by rw[length_take,C.o];omega
   rw[e];rfl
  ·rw[length_take,C.o];omega
 ·have b:¬(301:Int)<(n5:Int):=by omega
  clear Q;go_wp2;go_ret;rw[J.o];refine⟨t,k5,?_,?_,fun q hq _=>(j.o q hq).take 301,I.o⟩
  ·have e:(l5.take 301).length=n5:=by rw[length_take,C.o];omega
   rw[e];rfl
  ·rw[length_take,C.o];omega
theorem y5u(ds:List Nd)(a:Option Addr)(cap:Nat)(hl:ds.length<=400)(tx:ByteArray)(n:Int)(A C:List Nd)(f g:List (List Int)->List (List Int))(hA:k7r ds a cap A f)(hf:y6l A f)(hC:k7r ds a cap C g)(hg:y6l C g)(hE:∀i r,ds.drop i=A++r->q0v ds i 1=some (i+A.length))(F:List (List Int)->List (List Int))(HF:Hid (∀bs,F bs=((f bs).map (0::·)++(g bs).map (1::·)).take 301)):k7r ds a cap (⟨9,tx,n⟩::(A++C)) F:=by
 intro i r bs ba bc m w hd hN hM c H y hm;obtain⟨hi,e1,e2⟩:=q0u (x:=⟨9,tx,n⟩) (r:=(A++C)++r) hd;obtain⟨b0,o0,ea,Al,c1,c2,c3⟩:=hN i hi;subst ea;rw[e1]at c1 c2 c3;dsimp only at c1 c2 c3;simp only[length_cons,length_append]at hm;have HX:Hid (((i+1:Nat):Int)=(i:Int)+1):=(show _=_ by omega);have HN:=hid hN;have u:=hid hM;have Y:=hid y;have HA:=hid hA;have K:=hid (hf.1 bs H);have Ad:=hid (hf.2 bs m y);have HC:=hid hC;have Aa:=hid (hg.1 bs H);have Ab:=hid (hg.2 bs m y);have t:=hid e2;rw[append_assoc]at t;have HE:=hid (hE (i+1) (C++r) t.o);have S:=hid (q7z t.o);clear hd e1 e2 hN hM y hA hC hE hf hg;go_in;go_wp2_with fail;rw[<-HX.o];refine(HA.o (i+1) (C++r) bs ba bc m w t.o HN.o u.o c H Y.o (by omega)).mono ?_;rintro e w1⟨a1,k1,rfl,h1,Z,M⟩;have Ag:=hid (Z none (fun k h=>by cases h) u.o);have z:=hid M;have p:=M.size;clear Z M;go_wp2_with fail;refine(q6o w.heap.size (.slice none 0 0) [] (f bs) 0 a1 k1 w1 (z4f.nil _ _ _) Ag.o p (by have:=K.o;simp;omega) (fun x h=>by have:=Ad.o x h;omega)).mono ?_;rintro e w2⟨v2,rfl,D,I,b⟩;rw[List.nil_append]at D;have E:((f bs).map (0::·)).length<=301:=by rw[length_map];exact K.o
 generalize d:(f bs).map (0::·)=l1 at D E;have Ac:=hid d;have X:=hid E;clear d E;have B:=hid (z.o.trans (q5k I p (fun k h=>by cases h)));have Ak:=B.o.size;obtain⟨a2,k2,rfl,_,_,_,P⟩:=D.o;have E:=X.o;generalize Aj:l1.length=n1 at D P E;have Ae:=hid D;have L:=hid P;clear D I b P Aj;go_wp2_with fail;rw[<-HX.o];refine(q5c ds _ cap hl (ds.length+1) (i+1) w2 (HN.o.W B.o) (by omega) (by omega)).mono ?_;rintro e w4⟨rfl,rfl⟩;rw[HE.o];have hz:y0d (some (i+1+A.length))=((i+1+A.length:Nat):Int):=rfl;rw[hz];generalize hj:i+1+A.length=j at S⊢;clear hz hj;go_wp2_with fail;refine(HC.o j r bs ba bc m w2 S.o (HN.o.W B.o) (u.o.W B.o) c H Y.o (by omega)).mono ?_;rintro e w3⟨a3,k3,rfl,h3,Z,N⟩;have Ah:=hid (Z (Value.slice a2 n1 k2).ownBlock (fun k h=>(L.o k h).2) (u.o.apart B.o fun k h=>(L.o k h).1));have Af:=hid (Ae.o.W N);have Q:=hid (B.o.trans (N.mono Ak));have s:=Q.o.size;clear Z N;go_wp2_with fail;refine(q6o w.heap.size (.slice a2 n1 k2) l1 (g bs) 1 a3 k3 w3 Af.o Ah.o s (by have:=K.o;have:=Aa.o;have:=X.o;omega) (fun x h=>by have:=Ab.o x h;omega)).mono ?_;rintro e w5⟨v5,rfl,O,J,_⟩;generalize l:l1++(g bs).map (1::·)=l5 at O;have V:=hid O;have U:Hid (F bs=l5.take 301):=(show _=_ by rw[HF.o,Ac.o,l]);clear l;have R:=hid (Q.o.trans (q5k J s (fun k h=>(L.o k h).1)));clear O J;obtain⟨a5,k5,rfl,h5,v,h7,_⟩:=V.o.o;have H7:=hid h7;generalize o:l5.length=n5 at h5 v;have G:=hid o;clear h7 o V;by_cases hcut:301<n5
 ·obtain⟨q5,rfl⟩:∃q5,a5=some ⟨q5,0,none⟩:=v.resolve_left (by omega);have Ai:(301:Int)<(n5:Int):=by omega
  clear v;go_wp2;go_ret;rw[U.o];refine⟨some ↑q5,k5,?_,?_,fun q hq _=>(H7.o q hq).take 301,R.o⟩
  ·have e:(l5.take 301).length=301:=by rw[length_take,G.o];omega
   rw[e];rfl
  ·rw[length_take,G.o];omega
 ·have Ai:¬(301:Int)<(n5:Int):=by omega
  clear v;go_wp2;go_ret;rw[U.o];refine⟨a5,k5,?_,?_,fun q hq _=>(H7.o q hq).take 301,R.o⟩
  ·have e:(l5.take 301).length=n5:=by rw[length_take,G.o];omega
   rw[e];rfl
  ·rw[length_take,G.o];omega
theorem v2l(t:Tr):y6l t.N t.tl:=⟨j0j t,v2m t⟩
theorem z1o(ds:List Nd)(a:Option Addr)(cap:Nat)(hl:ds.length<=400):∀t:Tr,t.Wf->t.N.length<=400->k7r ds a cap t.N t.tl
 | .leaf ⟨op,tx,n⟩,h,hn=>j3m ds a cap op (q4a h.1 h.2) tx n
 | .one ⟨op,tx,n⟩ a',h,hn=>by
  have hn':a'.N.length<=400:=by simp[Tr.N]at hn;omega
  have D:=z1o ds a cap hl a' h.2.2 hn';rcases q8h h.2.1 with e|e
  all_goals (simp only at e;subst e)
  ·exact y5t ds a cap hl tx n _ _ D
  ·have A:=q3y ds a cap hl a' h.2.2 hn'
   have J:Tr.tl (.one ⟨8,tx,n⟩ a')=fun bs=>((if a'.isFlat=true then bs.map (0::·)else [])++(a'.tl bs).map (1::·)).take 301:=by
    funext bs
    simp[Tr.tl]
   rw[J];cases E:a'.isFlat with
   | true=>rw[E]at A;exact v8p ds a cap hl tx n _ _ _ D (v2l a') A _ (show ∀_,_ from fun bs=>by simp)
   | false=>rw[E]at A;exact v8o ds a cap hl tx n _ _ _ D (v2l a') A _ (show ∀_,_ from fun bs=>by simp)
 | .two ⟨op,tx,n⟩ a' c,h,hn=>by
  have B:a'.N.length<=400:=by simp[Tr.N]at hn;omega
  have C:c.N.length<=400:=by simp[Tr.N]at hn;omega
  have G:=z1o ds a cap hl a' h.2.2.1 B;have H:=z1o ds a cap hl c h.2.2.2 C;rcases q7t h.2.1 with e|e
  all_goals (simp only at e;subst e)
  ·have I:Tr.tl (.two ⟨6,tx,n⟩ a' c)=fun bs=>a'.tl (c.tl bs):=by
    funext bs
    simp[Tr.tl]
   rw[I];exact y5s ds a cap hl tx n _ _ _ _ G H (v2l c) fun i r hd=>q5a h.2.2.1 hd
  ·exact y5u ds a cap hl tx n _ _ _ _ G (v2l a') H (v2l c) (fun i r hd=>q5a h.2.2.1 hd) _ (show ∀_,_ from fun bs=>by simp[Tr.tl])
end Go.Proofs.YtchdplceopegoaaGreatDoor
