import Derived.Test.YtfdppahhbpfnoaaGreatDoorPi43
import Derived.Test.YtfdppahhbpfnoaaGreatDoorPi38
import Derived.Test.YtfdppahhbpfnoaaGreatDoorPi42
open Go.Proofs.Tryz
namespace Go.Proofs.YtfdppahhbpfnoaaGreatDoor
open Go Go.RowKit
set_option maxRecDepth 100000
set_option maxHeartbeats 4000000
theorem z4s(wd:Int)(w:World):Calls prog 6 #[.int .i64 wd] w fun e w'=>e=.returned (.bool (decide (¬(wd<10\/100<wd))))/\w=w':=by
 by_cases B:wd<10
 ·rw[show decide (¬(wd<10\/100<wd))=false by simp;omega];have A:¬10<=wd:=by omega
  go_in;go_wp2;go_ret;exact⟨rfl,rfl⟩
 ·have A:10<=wd:=by omega
  by_cases C:wd<=100
  ·rw[show decide (¬(wd<10\/100<wd))=true by simp;omega];go_in;go_wp2;go_ret;exact⟨rfl,rfl⟩
  ·rw[show decide (¬(wd<10\/100<wd))=false by simp;omega];go_in;go_wp2;go_ret;exact⟨rfl,rfl⟩
def fwW(t:List Td):Prop:=opT t=9\/(q0q t).ways.length<=300
inductive j1l (t:List Td) (wd:Nat):Ending->Prop where
 | ok (h:pgE t=0) (hf:fwW t):j1l t wd (.returned (.tuple #[.string (wbS (z3g wd t)),.int .i64 0,.bool true]))
 | full (h:pgE t≠0):j1l t wd (.returned (.tuple #[.string ⟨#[]⟩,.int .i64 (pgE t),.bool true]))
 | many (s:ByteArray) (hm:¬fwW t):j1l t wd (.returned (.tuple #[.string s,.int .i64 0,.bool false]))
theorem y1f(A:List UInt8)(l:ByteArray):wbS A++(⟨#[35,32]⟩:ByteArray)++l++(⟨#[10]⟩:ByteArray)=wbS (A++ntF l):=by
 have B:wbS A++wbS [35,32]=wbS (A++[35,32]):=q1z _ _;have C:wbS (A++[35,32])++wbS (btL l)=wbS (A++[35,32]++btL l):=q1z _ _;have D:wbS (A++[35,32]++btL l)++wbS [10]=wbS (A++[35,32]++btL l++[10]):=q1z _ _;have E:A++ntF l=A++[35,32]++btL l++[10]:=by simp[ntF]
 rw[E,<-D,<-C,<-B,z1d];rfl
theorem v2y{ls:List ByteArray}{i:Nat}(h:i<ls.length):(ls.take (i+1)).flatMap ntF=(ls.take i).flatMap ntF++ntF ls[i]:=by
 rw[List.take_succ_eq_append_getElem h,List.flatMap_append];simp
theorem j0d{t:List Td}(h:q0b t=0)(h9:opT t=9)(wd:Nat)(Af:10<=wd)(Ag:wd<=100)(a:Option Addr)(cap:Nat)(w:World)(hN:Tds w a t):
  Calls prog 8 #[.slice a t.length cap,.int .i64 (wd:Int)] w fun e w'=>e=.returned (.tuple #[.string (wbS (z3g wd t)),.int .i64 0,.bool true])/\Below w w w':=by
 obtain⟨Aa,b,o,rfl,hb,c1,c2⟩:=z4p h hN;have Ad:(0:Int)<(t.length:Int):=by omega
 have O:=k4n h h9;have j:=z8v O;rw[z4n h h9];rw[h9]at c1;have Ae:(txT t).size<=2000:=by rw[<-q0c];exact(z8w O).2.1
 have G:Hid (Calls prog 22 #[.string (txT t)] w fun e w'=>(∃A c,e=.returned (.slice A (q0e (btL (txT t))).length c)/\q2g w (.slice A (q0e (btL (txT t))).length c) ((q0e (btL (txT t))).map wbS) w')/\Below w w w'):=q4d (txT t) w (by omega);have D:Hid (ntL wd (txT t)=if q0e (btL (txT t))=[]then [35,10]else(q1s (wd-2) ((q0e (btL (txT t))).map wbS)).flatMap ntF):=rfl;generalize ntL wd (txT t)=L at D⊢
 have C:Hid (∀(A:Option Addr)(c:Nat)(W:World),q2g w (.slice A (q0e (btL (txT t))).length c) ((q0e (btL (txT t))).map wbS) W->Calls prog 25 #[.slice A (q0e (btL (txT t))).length c,.int .i64 ((wd:Int)-2)] W fun e w'=>(∃L c,e=.returned (.slice L (q1s (wd-2) ((q0e (btL (txT t))).map wbS)).length c)/\Wds w' L (q1s (wd-2) ((q0e (btL (txT t))).map wbS)))/\Below W W w'):=fun A c W hS=>by
  obtain⟨q1,q2,_⟩:=z4x hS;have e:((wd:Int)-2)=((wd-2:Nat):Int):=by omega
  rw[e];have h3:=k9d ((q0e (btL (txT t))).map wbS) A c (wd-2) W (by omega) j (by omega) (q4i hS);rw[List.length_map]at h3;refine h3.mono ?_;rintro e w'⟨⟨L,c,rfl,hL⟩,hb⟩;exact⟨⟨L,c,rfl,q4i hL⟩,hb⟩
 have Q:q0e (btL (txT t))=[]->(q1s (wd-2) ((q0e (btL (txT t))).map wbS))=[]:=fun e=>by rw[e];exact q4f _
 have R:q0e (btL (txT t))≠[]->(q1s (wd-2) ((q0e (btL (txT t))).map wbS))≠[]:=fun e=>by
  rw[q3v _ (by simpa using e)];simp
 have P:=z8g (wd-2) _ _ Zl j;have N:=q7x (wd-2) _ ((q0e (btL (txT t))).map wbS) Zl;have p:=j.1;generalize q1s (wd-2) ((q0e (btL (txT t))).map wbS)=ls at D C Q R P N;have v:ls.length<=60:=by omega
 have I:Hid (ls=[]->L=[35,10]):=fun e=>by
  have:q0e (btL (txT t))=[]:=by
   rcases Classical.em (q0e (btL (txT t))=[])with h|h
   ·exact h
   ·exact absurd e (R h)
  rw[D.o,if_pos this]
 have J:Hid (ls≠[]->L=ls.flatMap ntF):=fun e=>by
  have:q0e (btL (txT t))≠[]:=fun h=>e (Q h)
  rw[D.o,if_neg this]
 generalize(q0e (btL (txT t))).length=nw at G C
 generalize(q0e (btL (txT t))).map wbS=ws at G C p j N
 generalize txT t=tx at *;have g:Hid (∀l∈ls,l.size<=1260):=P;clear h h9 hN O j Q R P N D;go_in;go_wp2_with fail;refine G.o.mono ?_;rintro e q⟨⟨A1,k1,rfl,k⟩,b1⟩;have Z:Hid (Calls prog 25 #[.slice A1 nw k1,.int .i64 ((wd:Int)-2)] q fun e w'=>(∃L c,e=.returned (.slice L ls.length c)/\Wds w' L ls)/\Below q q w'):=C.o A1 k1 q k;have V:Hid (Below w w q):=b1;clear k b1 G C c1 c2;go_wp2_with fail;refine Z.o.mono ?_;rintro e w2⟨⟨A2,k2,rfl,m⟩,b2⟩;have Y:Hid (Below w w w2):=q0d V.o Zl b2;have r:Hid (Wds w2 A2 ls):=m;clear m b2 Z V;generalize hn:ls.length=n at v⊢;have K:Hid (ls.length=n):=hn;clear hn;go_wp2_with fail
 go_loopw [8,9] (fun s x wr=>w2=wr/\∃i:Nat,i<=n/\x=.int .i64 (i:Int)/\s=.string (wbS ((ls.take i).flatMap ntF))) (fun _ x _=>n-(intOf x).toNat)
 case atStart=>exact⟨rfl,0,Nat.zero_le _,rfl,rfl⟩
 case round=>
  obtain⟨rfl,i,hi,rfl,rfl⟩:=hrel;have H:=K.o;by_cases y:i<n
  ·have u:(i:Int)<(n:Int):=by omega
   obtain⟨b0,o0,rfl,Ab,d0⟩:=r.o i (by omega);have z:ls[i].size<=1260:=g.o _ (List.getElem_mem _)
   have h1:=k3p (f:=ntF) (b:=1300) (ls.take i) fun l hl=>by
    have:=g.o l (List.mem_of_mem_take hl)
    simp only[ntF,List.length_cons,List.length_append,List.length_nil,q0c];omega
   have h2:(ls.take i).length*1300<=60*1300:=Nat.mul_le_mul_right _ (by rw[List.length_take];omega);have d:=(show Hid (_=_)from v2y (ls:=ls) (i:=i) (by omega));have U:Hid (∀l:ByteArray,wbS ((ls.take i).flatMap ntF)++(⟨#[35,32]⟩:ByteArray)++l++(⟨#[10]⟩:ByteArray)=wbS ((ls.take i).flatMap ntF++ntF l)):=fun l=>y1f _ l
   have hq:(wbS ((ls.take i).flatMap ntF)).size<=100000:=by rw[z2q];omega
   generalize ls[i]=l at d0 z d;generalize wbS ((ls.take i).flatMap ntF)=S at U hq⊢;have g1:¬9223372036854775807<S.size+2:=by omega
   have g2:¬9223372036854775807<S.size+2+l.size:=by omega
   have g3:¬9223372036854775807<S.size+2+l.size+1:=by omega
   clear h1 h2 H;go_wp2;refine⟨⟨trivial,i+1,y,by go_num,?_⟩,?_⟩
   ·rw[d.o,<-U.o l]
   ·simp[intOf];omega
  ·have u:¬(i:Int)<(n:Int):=by omega
   have M:ls.take i=ls:=List.take_of_length_le (by omega);rw[M];by_cases h0:n=0
   ·have B:ls=[]:=List.eq_nil_of_length_eq_zero (by omega);have E:=(show Hid (_=_)from I.o B);subst h0;clear H M I J K B;generalize ls.flatMap ntF=X;go_wp2;go_ret3;exact⟨by rw[E.o];rfl,Y.o⟩
   ·have B:ls≠[]:=fun e=>h0 (by rw[<-H,e];rfl)
    have E:Hid (wbS L=wbS (ls.flatMap ntF)):=(show _=_ by rw[J.o B]);have Ac:((n:Int)==0)=false:=by simp;omega
    clear H M I J K B;generalize wbS (ls.flatMap ntF)=X at E⊢;go_wp2;go_ret3;exact⟨by rw[E.o];rfl,Y.o⟩
theorem y3o{t:List Td}{wd:Nat}{u:List Int}(h:(q0q t).best wd=some ((q0q t).cst wd u,u))(hl:q9d t=0):∃s,shS ((q0q t).show u)=wbS s/\dcL wd t=s++[10]/\s.length<=2000000:=by
 have B:(q0q t).best wd=some (bs wd 0 [(0,q0q t)]):=by rw[q9w,q3o]
 obtain⟨_,A,_⟩:=q6d B;rw[B]at h
 have e:(bs wd 0 [(0,q0q t)]).2=u:=by
  have:=congrArg Prod.snd (Option.some.inj h)
  exact this
 rw[e]at A;refine⟨(q0q t).txt u,?_,?_,j5l hl A⟩
 ·rw[A];rfl
 ·rw[dcL,e]
theorem j8c{t:List Td}(h:q0b t=0)(h9:opT t≠9)(wd:Nat)(a:Option Addr)(cap:Nat)(w:World)(hN:Tds w a t):
  Calls prog 8 #[.slice a t.length cap,.int .i64 (wd:Int)] w fun e w'=>j1l t wd e/\Below w w w':=by
 obtain⟨z,b,o,rfl,hb,k,v⟩:=z4p h hN;have Aa:(0:Int)<(t.length:Int):=by omega
 have L:(opT t==9)=false:=by simp[h9]
 have H:Hid (Calls prog 26 #[.slice (some ⟨b,o,none⟩) t.length cap,.int .i64 0] w fun e w'=>NdR w (q0q t).N e w'):=y5g h h9 w hN;have U:=(z6c h h9).n;by_cases Q:400<(q0q t).N.length
 ·have m:pgE t=3:=by rw[pgE,if_neg h9,if_pos Q]
  have Y:Hid (j1l t wd (.returned (.tuple #[.string ⟨#[]⟩,.int .i64 3,.bool true]))):=by
   have:=j1l.full (t:=t) (wd:=wd) (by rw[m];decide)
   rw[m]at this;exact this
  generalize(q0q t).N=xs at H Q U
  generalize opT t=op0 at k L;have R:(400:Int)<(xs.length:Int):=by omega
  clear h h9 hN v m;go_in;go_wp2_with fail;refine H.o.mono ?_;rintro e X⟨i,r,rfl,_,Z⟩;go_wp2;go_ret3;exact⟨Y.o,Z⟩
 ·have l:pgE t=0:=by rw[pgE,if_neg h9,if_neg Q]
  have P:q9d t=0:=by rw[<-k4x h h9];exact l
  have D:Hid (∀(A:Option Addr)(c:Nat)(W:World),q1p W A (q0q t).N->Calls prog 27 #[.slice A (q0q t).N.length c,.int .i64 (wd:Int)] W fun e w'=>BOR (q0q t) wd W e w'):=fun A c W f=>k8l (q0q t) (z6c h h9).w (q0q t).N rfl (by omega) wd A c W f
  have I:Hid (∀u,(q0q t).best wd=some ((q0q t).cst wd u,u)->∃s,shS ((q0q t).show u)=wbS s/\dcL wd t=s++[10]/\s.length<=2000000):=fun u hu=>y3o hu P
  have Y:Hid (∀s,(q0q t).ways.length<=300->dcL wd t=s++[10]->j1l t wd (.returned (.tuple #[.string (wbS s++(⟨#[10]⟩:ByteArray)),.int .i64 0,.bool true]))):=fun s hfw hs=>by
   have f:=j1l.ok (t:=t) (wd:=wd) l (.inr hfw);rw[z8y h h9,hs,<-q1z]at f;exact f
  have j:Hid (∀s,300<(q0q t).ways.length->j1l t wd (.returned (.tuple #[.string s,.int .i64 0,.bool false]))):=fun s hfw=>.many s fun q=>q.elim h9 fun q=>by omega
  generalize(q0q t).N=xs at H Q U D
  generalize opT t=op0 at k L;have R:¬(400:Int)<(xs.length:Int):=by omega
  clear h h9 hN v l P;go_in;go_wp2_with fail;refine H.o.mono ?_;rintro e X⟨i,r,rfl,M,Z⟩;have E:Hid (Below w w X):=Z;have G:Hid (Calls prog 27 #[.slice i xs.length r,.int .i64 (wd:Int)] X fun e w'=>BOR (q0q t) wd X e w'):=D.o i r X M.nods;clear M Z D H k;generalize xs.length=nx at G Q R⊢;go_wp2_with fail;refine G.o.mono ?_;rintro e g⟨⟨B,u,wa,wc,O,rfl,_⟩|⟨B,rfl⟩,d⟩
  ·obtain⟨s,x,y,V⟩:=I.o u O;rw[x];have J:=hid (Y.o s B y);have C:Hid (Below w w g):=q0d E.o Zl d;have p:(wbS s).size<=2000000:=by rw[z2q];exact V
   clear x y V d O I Y B;generalize wbS s=S at J p
   generalize((q0q t).cst wd u).1=q1
   generalize((q0q t).cst wd u).2=q2
   generalize u.length=ul;have g1:¬9223372036854775807<S.size+1:=by omega
   go_wp2;go_ret3;exact⟨J.o,q0d C.o Zl (q4b g _)⟩
  ·have C:Hid (Below w w g):=q0d E.o Zl d;have K:=hid (fun s=>j.o s B);clear d B;go_wp2;go_ret3;exact⟨K.o _,q0d C.o Zl (q4b g _)⟩
theorem z6w{t:List Td}(h:q0b t=0)(wd:Nat)(B:10<=wd)(C:wd<=100)(a:Option Addr)(cap:Nat)(w:World)(hN:Tds w a t):
  Calls prog 8 #[.slice a t.length cap,.int .i64 (wd:Int)] w fun e w'=>j1l t wd e/\Below w w w':=by
 by_cases A:opT t=9
 ·refine(j0d h A wd B C a cap w hN).mono ?_;rintro e w'⟨rfl,D⟩;exact⟨.ok (z9d A) (.inl A),D⟩
 ·exact j8c h A wd a cap w hN
theorem j2m{t:List Td}(h:q9d t=0)(n:Nat)(hn:n<=100)(A:Option Addr)(c:Nat)(w:World)(hc:(q8q t).length<=c)(hN:q1p w A (q8q t)):
  Calls prog 71 #[.slice A (q8q t).length c,.int .i64 (n:Int)] w fun e w'=>(∃s wa wl wc,∃q1 q2:Int,e=.returned (.tuple #[.string (wbS s),.slice wa wl wc,.agg #[.int .i64 q1,.int .i64 q2],.nilIface])/\dcL n t=s++[10]/\s.length<=2000000)/\Below w w w':=by
 obtain⟨I,J,E,L⟩:=j5m h;obtain⟨D,G⟩:=j2d (wd:=n) (z6c I J).w E (by rw[E];exact L) hn;have K:(q0q t).best n=some (bs n 0 [(0,q0q t)]):=by rw[q9w,q3o]
 obtain⟨_,C,_⟩:=q6d K
 have H:bT (q8q t) (n:Int)=wbS ((q0q t).txt (bs n 0 [(0,q0q t)]).2):=by
  rw[bT,if_pos D,G,v3j h,C];rfl
 refine(j2f (q8q t) (n:Int) A c hc w hN).mono ?_;rintro e w'⟨⟨wa,wc,rfl,_⟩,B⟩;refine⟨⟨_,wa,_,wc,_,_,by rw[H,D,q1l],rfl,?_⟩,B⟩;exact j5l h C
theorem j3y{tx:ByteArray}(h:q2x tx=0)(n:Nat)(h1:10<=n)(h2:n<=100)(A:Option Addr)(c:Nat)(w:World)(hc:(q0e (btL tx)).length<=c)(hW:Wds w A ((q0e (btL tx)).map wbS)):
  Calls prog 69 #[.slice A (q0e (btL tx)).length c,.int .i64 ((n:Int)-2)] w fun e w'=>(∃L c,e=.returned (.tuple #[.slice L (q1s (n-2) ((q0e (btL tx)).map wbS)).length c,.nilIface])/\q2g w (.slice L (q1s (n-2) ((q0e (btL tx)).map wbS)).length c) (q1s (n-2) ((q0e (btL tx)).map wbS)) w')/\Below w w w':=by
 have e:((n:Int)-2)=((n-2:Nat):Int):=by omega
 have C:q6u ((q0e (btL tx)).map wbS) ((n-2:Nat):Int)=0:=by
  have D:q1b ((q0e (btL tx)).map wbS)=0:=h;rw[q6u,if_neg (by simp[D]),if_neg (by omega)]
 have B:=v6f ((q0e (btL tx)).map wbS) A c (n-2) w (by rw[List.length_map];exact hc) hW C;rw[List.length_map]at B;rw[e];exact B
theorem j7v:∀(ls:List ByteArray),ls≠[]->[35,32]++Lib.join (ls.map fun x=>x.data.toList) [10,35,32]++[10]=ls.flatMap ntF
 | [],h=>absurd rfl h
 | [l],_=>by simp[Lib.join_one,ntF,btL]
 | l::u::r,_=>by
  have ih:=j7v (u::r) (by simp);rw[List.flatMap_cons,<-ih];simp[Lib.join_cons,Lib.joinTail,ntF,btL]
theorem k7e{tx:ByteArray}(n:Nat)(h0:q0e (btL tx)≠[]):ntL n tx=[35,32]++Lib.join ((q1s (n-2) ((q0e (btL tx)).map wbS)).map fun x=>x.data.toList) [10,35,32]++[10]:=by
 have A:q1s (n-2) ((q0e (btL tx)).map wbS)≠[]:=by
  rw[q3v _ (by simpa using h0)];simp
 rw[j7v _ A,ntL,if_neg h0];rfl
set_option maxHeartbeats 8000000
theorem v8b{n:Nat}(h1:10<=n)(h2:n<=100)(w:World):Calls prog 28 #[.int .i64 (n:Int)] w fun e w'=>e=.returned .nilIface/\w=w':=by
 have A:¬(n:Int)<10:=by omega
 have B:¬100<(n:Int):=by omega
 go_in;go_wp2;go_ret;exact⟨rfl,rfl⟩
theorem y4x{wd:Int}(h:wd<10\/100<wd)(w:World):Calls prog 28 #[.int .i64 wd] w fun e w'=>e=.returned (.iface 23 (.int .i64 1))/\w=w':=by
 by_cases A:wd<10
 ·go_in;go_wp2;go_ret;exact⟨rfl,rfl⟩
 ·have B:100<wd:=by omega
  go_in;go_wp2;go_ret;exact⟨rfl,rfl⟩
theorem j8r{t:List Td}(h:q0b t=0)(h9:opT t=9)(n:Nat)(Aa:10<=n)(Ab:n<=100)(a:Option Addr)(cap:Nat)(w:World)(hc:t.length<=cap)(hN:Tds w a t)(U:k8g t)(ht:z2u w):
  Calls prog 30 #[.slice a t.length cap,.int .i64 (n:Int)] w fun e w'=>e=.returned (.tuple #[.string (wbS (z3g n t)),.nilIface])/\Below w w w':=by
 obtain⟨_,_,v,o⟩:=z8m h h9;have I:=k4n h h9;rw[z4n h h9]
 have D:Hid (Calls prog 68 #[.slice a t.length cap] w fun e w'=>(∃A c,e=.returned (.tuple #[.slice A (q0e (btL (txT t))).length c,.nilIface])/\Wds w' A ((q0e (btL (txT t))).map wbS)/\(q0e (btL (txT t))).length<=c)/\Below w w w'):=by
  refine(k3z t a cap w ht hc hN U).mono ?_;rintro e w'⟨⟨A,c,he,hW,z⟩,hb⟩;rw[o]at hW z;rw[List.length_map]at z;exact⟨⟨A,c,by rw[he,v,o,q1l,List.length_map],hW,z⟩,hb⟩
 have C:Hid (∀(W:World)(A:Option Addr)(c:Nat),(q0e (btL (txT t))).length<=c->Wds W A ((q0e (btL (txT t))).map wbS)->Calls prog 69 #[.slice A (q0e (btL (txT t))).length c,.int .i64 ((n:Int)-2)] W fun e w'=>(∃L c,e=.returned (.tuple #[.slice L (q1s (n-2) ((q0e (btL (txT t))).map wbS)).length c,.nilIface])/\q2g W (.slice L (q1s (n-2) ((q0e (btL (txT t))).map wbS)).length c) (q1s (n-2) ((q0e (btL (txT t))).map wbS)) w')/\Below W W w'):=fun W A c q1 q2=>j3y I n Aa Ab A c W q1 q2
 have y:=z8v I;by_cases N:q0e (btL (txT t))=[]
 ·have Q:Hid (ntL n (txT t)=[35,10]):=(show _=_ by rw[ntL,if_pos N]);generalize ntL n (txT t)=L at Q⊢;rw[N]at D C;simp only[List.map_nil,q4f,List.length_nil]at D C;clear hN U ht v o I h h9 y N;go_in;go_wp2_with fail;refine D.o.mono ?_;rintro e E⟨⟨X,R,rfl,G,H⟩,Z⟩;have O:Hid (Below w w E):=Z;have K:Hid (Calls prog 69 #[.slice X 0 R,.int .i64 ((n:Int)-2)] E fun e w'=>(∃L c,e=.returned (.tuple #[.slice L 0 c,.nilIface])/\q2g E (.slice L 0 c) [] w')/\Below E E w'):=C.o E X R H G;clear Z G H C D;go_wp2_with fail;refine K.o.mono ?_;rintro e V⟨⟨p,u,rfl,_⟩,b⟩;have P:Hid (Below w w V):=q0d O.o Zl b;clear b;go_wp2;go_ret2;exact⟨by rw[Q.o];rfl,P.o⟩
 ·have k:=q7x (n-2) _ ((q0e (btL (txT t))).map wbS) Zl;have i:=y.1
  have M:q1s (n-2) ((q0e (btL (txT t))).map wbS)≠[]:=by
   rw[q3v _ (by simpa using N)];simp
  have Q:Hid (wbS (ntL n (txT t))=(⟨#[35,32]⟩:ByteArray)++wbS (Lib.join ((q1s (n-2) ((q0e (btL (txT t))).map wbS)).map fun x=>x.data.toList) [10,35,32])++(⟨#[10]⟩:ByteArray)):=by
   show _=_;rw[k7e n N,<-q1z,<-q1z];rfl
  have d:=j7u I n
  have S:(wbS (Lib.join ((q1s (n-2) ((q0e (btL (txT t))).map wbS)).map fun x=>x.data.toList) [10,35,32])).size<=100000:=by
   rw[k7e n N,List.length_append,List.length_append]at d;rw[z2q];omega
  have l:0<(q0e (btL (txT t))).length:=List.length_pos_iff.2 N;generalize ntL n (txT t)=L at Q⊢;generalize q1s (n-2) ((q0e (btL (txT t))).map wbS)=ls at C Q k S M
  have s:Hid (∀(W:World)(A:Option Addr)(c B:Nat),q2g B (.slice A ls.length c) ls W->Calls prog 70 #[.slice A ls.length c,.string ⟨#[10,35,32]⟩] W fun e w'=>e=.returned (.string (wbS (Lib.join (ls.map fun x=>x.data.toList) [10,35,32])))/\Below W W w'):=fun W A c B hS=>by
   obtain⟨_,q2,hA⟩:=z4x hS;have Ac:=List.length_pos_iff.2 M;rcases hA with⟨_,q,_⟩|⟨g,rfl,hg⟩
   ·omega
   ·refine join_sh g 0 c ls ⟨#[10,35,32]⟩ W ?_ hg (by omega) q2 ?_
    ·intro j x hx;obtain⟨hj,rfl⟩:=List.getElem?_eq_some_iff.1 hx;obtain⟨b',o',e,_,R⟩:=q4i hS j hj;simp only[Option.some.injEq,Addr.mk.injEq,and_true]at e;obtain⟨rfl,rfl⟩:=e;exact R
    ·rw[z2q]at S
     show(Lib.join (ls.map fun x=>x.data.toList) [10,35,32]).length<=_
     omega
  generalize wbS (Lib.join (ls.map fun x=>x.data.toList) [10,35,32])=J at s Q S
  generalize(q0e (btL (txT t))).map wbS=ws at D C
  generalize(q0e (btL (txT t))).length=nw at D C l
  have m:((ls.length:Int)==0)=false:=by
   have:=List.length_pos_iff.2 M
   simp;omega
  have g1:¬9223372036854775807<2+J.size:=by omega
  have g2:¬9223372036854775807<2+J.size+1:=by omega
  clear hN U ht v o I h h9 y N d k i M;go_in;go_wp2_with fail;refine D.o.mono ?_;rintro e E⟨⟨X,R,rfl,G,H⟩,Z⟩;have O:Hid (Below w w E):=Z;have K:Hid (Calls prog 69 #[.slice X nw R,.int .i64 ((n:Int)-2)] E fun e w'=>(∃L c,e=.returned (.tuple #[.slice L ls.length c,.nilIface])/\q2g E (.slice L ls.length c) ls w')/\Below E E w'):=C.o E X R H G;clear Z G H C D;go_wp2_with fail;refine K.o.mono ?_;rintro e V⟨⟨p,u,rfl,f⟩,b⟩;have P:Hid (Below w w V):=q0d O.o Zl b;have Y:Hid (Calls prog 70 #[.slice p ls.length u,.string ⟨#[10,35,32]⟩] V fun e w'=>e=.returned (.string J)/\Below V V w'):=s.o V p u _ f;clear b f s K;generalize ls.length=nl at Y m⊢;go_wp2_with fail;refine Y.o.mono ?_;rintro e w3⟨rfl,b3⟩;have r:Hid (Below w w w3):=q0d P.o Zl b3;clear b3;go_wp2;go_ret2;exact⟨by rw[Q.o];rfl,r.o⟩
theorem j0g{t:List Td}(h:q0b t=0)(h9:opT t≠9)(n:Nat)(f:n<=100)(a:Option Addr)(cap:Nat)(w:World)(hc:t.length<=cap)(hN:Tds w a t)(H:k8g t)(ht:z2u w):
  Calls prog 31 #[.slice a t.length cap,.int .i64 (n:Int)] w fun e w'=>e=.returned (.tuple #[.string (if pgE t=0 then wbS (z3g n t)else⟨#[]⟩),q1v (pgE t)])/\Below w w w':=by
 have B:Hid (Calls prog 18 #[.slice a t.length cap] w fun e w'=>(∃A c,e=.returned (.tuple #[.slice A (q8q t).length c,q1v (q9d t)])/\q1p w' A (q8q t)/\(q8q t).length<=c)/\Below w w w'):=k9r t a cap w ht.pow hc hN H;rw[k4x h h9,z8y h h9];by_cases D:q9d t=0
 ·have C:Hid (∀(W:World)(A:Option Addr)(c:Nat),(q8q t).length<=c->q1p W A (q8q t)->Calls prog 71 #[.slice A (q8q t).length c,.int .i64 (n:Int)] W fun e w'=>(∃s V X wc,∃I J:Int,e=.returned (.tuple #[.string (wbS s),.slice V X wc,.agg #[.int .i64 I,.int .i64 J],.nilIface])/\dcL n t=s++[10]/\s.length<=2000000)/\Below W W w'):=fun W A c I J=>j2m D n f A c W I J
  rw[if_pos D,D,q1l];rw[D,q1l]at B;generalize dcL n t=L at C⊢;generalize q8q t=xs at B C;clear hN H ht h h9 D;go_in;go_wp2_with fail;refine B.o.mono ?_;rintro e K⟨⟨Y,b,rfl,O,P⟩,U⟩;have Z:Hid (Below w w K):=U;have G:Hid (Calls prog 71 #[.slice Y xs.length b,.int .i64 (n:Int)] K fun e w'=>(∃s V X wc,∃I J:Int,e=.returned (.tuple #[.string (wbS s),.slice V X wc,.agg #[.int .i64 I,.int .i64 J],.nilIface])/\L=s++[10]/\s.length<=2000000)/\Below K K w'):=C.o K Y b P O;clear U O P C B;generalize xs.length=nx at G⊢;go_wp2_with fail;refine G.o.mono ?_;rintro e j⟨⟨s,V,X,wc,I,J,rfl,i,Q⟩,g⟩;have M:Hid (Below w w j):=q0d Z.o Zl g;have N:Hid (wbS L=wbS s++(⟨#[10]⟩:ByteArray)):=(show _=_ by rw[i,<-q1z];rfl);have d:(wbS s).size<=2000000:=by rw[z2q];exact Q
  clear g i Q G;generalize wbS s=S at N d⊢;have k:¬9223372036854775807<S.size+1:=by omega
  go_wp2;go_ret2;exact⟨by rw[N.o];rfl,by first|exact M.o|exact q0d M.o Zl (q4b j _)⟩
 ·rw[if_neg D];have R:=(show Hid (_=_)from q0t D);generalize q1v (q9d t)=E at B R⊢;generalize q8q t=xs at B;generalize q9d t=z at R;clear hN H ht h h9 D;go_in;go_wp2_with fail;refine B.o.mono ?_;rintro e K⟨⟨Y,b,rfl,_,_⟩,U⟩;rw[R.o];generalize xs.length=nx;go_wp2;go_ret2;exact⟨by rw[R.o];rfl,U⟩
theorem j8d:y3d:=by
 intro t a D U w g L A Q;by_cases M:U<10\/100<U
 ·have X:Hid (Calls prog 28 #[.int .i64 U] w fun e w'=>e=.returned (.iface 23 (.int .i64 1))/\w=w'):=y4x M w;have B:z2v t U=1:=by rw[z2v,if_pos M]
  rw[z2b (by rw[B];decide),B];clear L A Q B M;go_in;go_wp2_with fail;refine X.o.mono ?_;rintro e i⟨rfl,rfl⟩;go_wp2;go_ret2;exact⟨rfl,Below.refl _ _⟩
 ·obtain⟨n,rfl⟩:∃n:Nat,U=(n:Int):=⟨U.toNat,by omega⟩;have Z:10<=n:=by omega
  have O:n<=100:=by omega
  have X:Hid (Calls prog 28 #[.int .i64 (n:Int)] w fun e w'=>e=.returned .nilIface/\w=w'):=v8b Z O w;have V:Hid (Calls prog 29 #[.slice a t.length D] w fun e w'=>e=.returned (q1v (q0b t))/\Below w w w'):=q7h t a D w g L A;by_cases H:q0b t=0
  ·obtain⟨l,b,o,rfl,p,d,P⟩:=z4p H L;have I:Hid (∀W:World,Below w w W->W.cell? ⟨b,o,none⟩=some (.int .i64 (opT t))):=fun W h=>((q1y h).1 _ _ p).trans d
   have q:(0:Int)<(t.length:Int):=by omega
   have B:z2v t (n:Int)=pgE t:=k4q M H;rw[H]at V;by_cases K:opT t=9
   ·have C:Hid (∀W:World,Below w w W->Calls prog 30 #[.slice (some ⟨b,o,none⟩) t.length D,.int .i64 (n:Int)] W fun e w'=>e=.returned (.tuple #[.string (wbS (z3g n t)),.nilIface])/\Below W W w'):=fun W h=>j8r H K n Z O _ D W g (L.W h) A (Q.W h)
    rw[K]at I;rw[k4s (by rw[B];exact z9d K),B,z9d K,q1l];clear L A Q B M d P H K;generalize wbS (z3g n t)=S at C⊢;go_in;go_wp2_with fail;refine X.o.mono ?_;rintro e i⟨rfl,rfl⟩;go_wp2_with fail;refine V.o.mono ?_;rintro e R⟨rfl,J⟩;rw[q1l];have P:=I.o R J;have G:Hid (Below w w R):=J;clear J;go_wp2_with fail;refine(C.o _ G.o).mono ?_;rintro e j⟨rfl,Y⟩;have N:Hid (Below w w j):=q0d G.o Zl Y;clear Y P;go_wp2;go_ret2;exact⟨rfl,N.o⟩
   ·have C:Hid (∀W:World,Below w w W->Calls prog 31 #[.slice (some ⟨b,o,none⟩) t.length D,.int .i64 (n:Int)] W fun e w'=>e=.returned (.tuple #[.string (k4r t (n:Int)),q1v (z2v t (n:Int))])/\Below W W w'):=fun W h=>by
     have k:=j0g H K n O (some ⟨b,o,none⟩) D W g (L.W h) A (Q.W h);have m:(if pgE t=0 then wbS (z3g n t)else⟨#[]⟩)=k4r t (n:Int):=by rw[k4r,B];rfl
     rw[m,<-B]at k;exact k
    have f:(opT t==9)=false:=by simp[K]
    clear L A Q B M d P H K;generalize opT t=op0 at I f;generalize k4r t (n:Int)=S at C⊢;generalize q1v (z2v t (n:Int))=E at C⊢;go_in;go_wp2_with fail;refine X.o.mono ?_;rintro e i⟨rfl,rfl⟩;go_wp2_with fail;refine V.o.mono ?_;rintro e R⟨rfl,J⟩;rw[q1l];have P:=I.o R J;have G:Hid (Below w w R):=J;clear J;go_wp2_with fail;refine(C.o _ G.o).mono ?_;rintro e j⟨rfl,Y⟩;have N:Hid (Below w w j):=q0d G.o Zl Y;clear Y P;go_wp2;go_ret2;exact⟨rfl,N.o⟩
  ·have B:z2v t (n:Int)=q0b t:=by rw[z2v,if_neg M,if_pos H]
   rw[z2b (by rw[B];exact H),B];have c:Hid (q1v (q0b t)=.iface 23 (.int .i64 (q0b t))):=q0t H;generalize q1v (q0b t)=E at V c⊢;generalize q0b t=z at c;clear L A Q B M H;go_in;go_wp2_with fail;refine X.o.mono ?_;rintro e i⟨rfl,rfl⟩;go_wp2_with fail;refine V.o.mono ?_;rintro e R⟨rfl,J⟩;rw[c.o];go_wp2;go_ret2;exact⟨by rw[c.o];rfl,J⟩
structure y2y(ps:List (List Td))(n:Nat)(w0:World)(i:Nat)(wr:World):Prop where
 le:i<=ps.length
 z:fmE (ps.drop i)=fmE ps
 x:IsX 81 w0.heap.size w0.heap.size (Lib.byteCells (q9k n (ps.take i))) [] wr
 bl:Below w0 w0 wr
 ln:(q9k n (ps.take i)).length<=i*2000001
theorem y7u:z7m 81 2:=by unfold z7m;kernel_rfl
theorem y8w:81≠5:=by decide
theorem v4n{s:ByteArray}{ps:List (List Td)}{k:Int}(h:q6r s ps k 0):∀t∈ps,k8g t:=fun t ht x hx=>Nat.le_trans (j8s (q4s h).2.1 t ht x hx) (by decide)
theorem v4j{ps:List (List Td)}{i:Nat}(h:i<ps.length):ps.drop i=ps[i]::ps.drop (i+1):=List.drop_eq_getElem_cons h
theorem v4k{ps:List (List Td)}{i:Nat}(wd:Nat)(h:i<ps.length):q9k wd (ps.take (i+1))=q9k wd (ps.take i)++z3g wd ps[i]:=by
 rw[q9k,List.take_succ_eq_append_getElem h,List.flatMap_append];simp[q9k]
theorem y0c:y2z:=by
 intro s b w ht;by_cases u:b<10\/100<b
 ·have HW:Hid (Calls prog 28 #[.int .i64 b] w fun e H=>e=.returned (.iface 23 (.int .i64 1))/\w=H):=y4x u w;have I:Hid (z3j s b w (.returned (.tuple #[.string ⟨#[]⟩,.int .i64 0,q1v 1])) w):=⟨_,_,_,rfl,.range u,Below.refl _ _⟩;clear ht u;go_in;go_wp2_with fail;refine HW.o.mono ?_;rintro e w1⟨rfl,rfl⟩;go_wp2;go_ret3;exact I.o
 ·obtain⟨n,rfl⟩:∃n:Nat,b=(n:Int):=⟨b.toNat,by omega⟩;have Aj:10<=n:=by omega
  have Ak:n<=100:=by omega
  have K:Hid (¬((n:Int)<10\/100<(n:Int))):=u;have HW:Hid (Calls prog 28 #[.int .i64 (n:Int)] w fun e H=>e=.returned .nilIface/\w=H):=v8b Aj Ak w;have Ae:Hid (Calls prog 14 #[.string s] w fun e H=>∃ps k f A c,e=.returned (.tuple #[.slice A ps.length c,.int .i64 k,q1v f])/\q6r s ps k f/\Prg H A ps/\ps.length<=c/\Below w w H):=k2l s w ht;have HT:Hid (z2u w):=ht;clear ht u;go_in;go_wp2_with fail;refine HW.o.mono ?_;rintro e w1⟨rfl,rfl⟩;go_wp2_with fail;refine Ae.o.mono ?_;rintro e B⟨ps,k,f,A,c,rfl,a,hP,_,l⟩;have g:Hid (Below w w B):=l;by_cases y:f=0
  ·subst y;obtain⟨rfl,_,p,P⟩:=q4s a;have Ab:=(show Hid (∀t∈ps,k8g t)from v4n a);have d:Hid (∀t∈ps,q0b t=0):=P;have j:Hid (q6r s ps 0 0):=a;have HP:Hid (Prg B A ps):=hP;have Af:Hid (z2u B):=HT.o.W l;have Ad:Hid (y2y ps n B 0 (B.alloc (.cells #[.pointer none,.slice none 0 0] 81))):=⟨Nat.zero_le _,rfl,IsX.fresh 81 B [],q4b B _,by simp[q9k]⟩;rw[q1l];clear a hP l P;generalize r:ps.length=np at p⊢;have Ac:Hid (ps.length=np):=r;clear r;go_wp2_with fail
   go_loopw [31] (fun x wr=>∃i:Nat,x=.int .i64 (i:Int)/\y2y ps n B i wr) (fun x _=>np-(intOf x).toNat)
   case atStart=>exact⟨0,rfl,Ad.o⟩
   case round=>
    obtain⟨i,rfl,D⟩:=hrel;have An:=Ac.o;have Am:=D.le;have Ao:=D.ln;by_cases Ap:i<np
    ·have Ah:(i:Int)<(np:Int):=by omega
     have X:i<ps.length:=by omega
     obtain⟨b0,o0,A0,c0,rfl,Al,d0,U,R⟩:=(HP.o.W D.bl) i X;have L:=d.o ps[i] (List.getElem_mem _);have C:Hid (Calls prog 9 #[.slice A0 ps[i].length c0,.int .i64 (n:Int)] wr fun e H=>e=.returned (.tuple #[.string (k4r ps[i] (n:Int)),q1v (z2v ps[i] (n:Int))])/\Below wr wr H):=j8d ps[i] A0 c0 (n:Int) wr U R (Ab.o ps[i] (List.getElem_mem _)) (Af.o.W D.bl);have Z:z2v ps[i] (n:Int)=pgE ps[i]:=k4q K.o L;have V:=v4j X;have M:=D.z;rw[V]at M;have v:=(show Hid (_=_)from M);have J:=(show Hid (_=_)from v4k (ps:=ps) n X);have HV:Hid (y2y ps n B i wr):=D;by_cases G:pgE ps[i]=0
     ·have Ai:=j8f L G n;rw[k4s (by rw[Z];exact G),Z,G,q1l]at C
      have h:Hid (∀W,Below wr wr W->Calls prog 38 #[.pointer (some ⟨B,0,none⟩),.string (wbS (z3g n ps[i]))] W fun e H=>(∃z,e=.returned (.tuple #[z,.nilIface]))/\y2y ps n B (i+1) H):=fun W hb=>by
       have Aq:=D.bl.size;refine(z5k 81 B.heap.size B.heap.size (Lib.byteCells (q9k n (ps.take i))) [] (wbS (z3g n ps[i])) W y7u y8w (D.x.grew hb) (by rw[Lib.byteCells_length,z2q];omega) (by have:=hb.size;omega)).mono ?_;rintro e H⟨rfl,q1,q2,_⟩;refine⟨⟨_,rfl⟩,by omega,?_,?_,?_,?_⟩
       ·have:=v.o
        rw[k6l G]at this;exact this
       ·rw[J.o,z7x];exact q1
       ·exact(q0d D.bl Zl hb).trans (q2.W Zl)
       ·rw[J.o,List.length_append];omega
      clear D V M L R U Z G Ai v J;generalize wbS (z3g n ps[i])=S at C h;generalize ps[i].length=tn at d0 C;go_wp2_with fail;refine C.o.mono ?_;rintro e Y⟨rfl,O⟩;have Aa:Hid (Below wr wr Y):=O;clear O;go_wp2_with fail;refine(h.o _ Aa.o).mono ?_;rintro e w4⟨⟨q,rfl⟩,h4⟩;have Ag:Hid (y2y ps n B (i+1) w4):=h4;clear h4;go_wp2;refine⟨⟨i+1,by go_num,Ag.o⟩,?_⟩;simp[intOf];omega
     ·have I:Hid (∀W,Below wr wr W->z3j s (n:Int) w (.returned (.tuple #[.string ⟨#[]⟩,.int .i64 0,q1v (pgE ps[i])])) W):=fun W hb=>by
       have q:=v.o;rw[j4j G]at q;have q2:=z5t.full K.o j.o (by rw[<-q];exact G);rw[<-q]at q2;exact⟨_,_,_,rfl,q2,q0d g.o Zl (q0d D.bl Zl hb)⟩
      have N:=(show Hid (_=_)from q0t G);rw[z2b (by rw[Z];exact G),Z]at C;clear D V M L R U Z G v J;generalize q1v (pgE ps[i])=E at C I N;generalize pgE ps[i]=z at N;generalize ps[i].length=tn at d0 C;go_wp2_with fail;refine C.o.mono ?_;rintro e Y⟨rfl,O⟩;have Q:Hid (z3j s (n:Int) w (.returned (.tuple #[.string ⟨#[]⟩,.int .i64 0,E])) Y):=I.o Y O;clear O;rw[N.o];go_wp2;go_ret3;rw[<-N.o];exact Q.o
    ·have Ah:¬(i:Int)<(np:Int):=by omega
     have o:ps.take i=ps:=List.take_of_length_le (by omega);have m:ps.drop i=[]:=List.drop_eq_nil_of_le (by omega);have G:=D.z;rw[m]at G;have hx:=D.x;rw[o]at hx;have HO:Hid (Calls prog 39 #[.pointer (some ⟨B,0,none⟩)] wr fun e H=>e=.returned (.string (wbS (q9k n ps)))/\Below B wr H):=k8e _ _ _ _ _ _ hx;have I:Hid (∀W,Below B wr W->z3j s (n:Int) w (.returned (.tuple #[.string (wbS (q9k n ps)),.int .i64 0,q1v 0])) W):=fun W hb=>⟨_,_,_,rfl,.ok K.o j.o G.symm,q0d g.o Zl (D.bl.trans hb)⟩
     clear D o m G hx;generalize wbS (q9k n ps)=S at HO I;go_wp2_with fail;refine HO.o.mono ?_;rintro e Y⟨rfl,O⟩;have Q:Hid (z3j s (n:Int) w (.returned (.tuple #[.string S,.int .i64 0,q1v 0])) Y):=I.o Y O;clear O;go_wp2;go_ret3;exact Q.o
  ·have I:Hid (z3j s (n:Int) w (.returned (.tuple #[.string ⟨#[]⟩,.int .i64 k,q1v f])) B):=⟨_,_,_,rfl,.bad K.o a y,l⟩;have N:=(show Hid (_=_)from q0t y);generalize q1v f=E at I N⊢;clear a hP l y;rw[N.o];generalize ps.length=np;go_wp2;go_ret3;rw[<-N.o];exact I.o
inductive k8i (ps:List (List Td)) (wd:Nat):Ending->Prop where
 | ok (h:fmE ps=0) (hf:∀t∈ps,fwW t):k8i ps wd (.returned (.tuple #[.string (wbS (q9k wd ps)),.int .i64 0,.bool true]))
 | full (h:fmE ps≠0):k8i ps wd (.returned (.tuple #[.string ⟨#[]⟩,.int .i64 (fmE ps),.bool true]))
 | many (hm:¬∀t∈ps,fwW t):k8i ps wd (.returned (.tuple #[.string ⟨#[]⟩,.int .i64 0,.bool false]))
theorem k2d{t:List Td}(h:pgE t≠0):pgE t=3:=by
 unfold pgE at h⊢
 split
 ·rename_i h9;rw[if_pos h9]at h;exact absurd rfl h
 ·rename_i h9;rw[if_neg h9]at h
  split
  ·rfl
  ·rename_i hm;rw[if_neg hm]at h;exact absurd rfl h
structure v8u(ps:List (List Td))(wd:Nat)(w:World)(i:Nat)(wr:World):Prop where
 le:i<=ps.length
 z:fmE (ps.drop i)=fmE ps
 b:Below w w wr
 ln:(q9k wd (ps.take i)).length<=i*2000001
 fw:∀t∈ps.take i,fwW t
theorem v9y{ps:List (List Td)}{i:Nat}(h:i<ps.length):ps.drop i=ps[i]::ps.drop (i+1):=List.drop_eq_getElem_cons h
theorem y0d{ps:List (List Td)}{i:Nat}(wd:Nat)(h:i<ps.length):q9k wd (ps.take (i+1))=q9k wd (ps.take i)++z3g wd ps[i]:=by
 rw[q9k,List.take_succ_eq_append_getElem h,List.flatMap_append];simp[q9k]
theorem z4i{ps:List (List Td)}(G:∀t∈ps,q0b t=0)(Y:ps.length<=20)(wd:Nat)(o:10<=wd)(p:wd<=100)(a:Option Addr)(cap:Nat)(w:World)(hP:Prg w a ps):
  Calls prog 12 #[.slice a ps.length cap,.int .i64 (wd:Int)] w fun e w'=>k8i ps wd e/\Below w w w':=by
 have HP:Hid (Prg w a ps):=hP;have HA:Hid (∀t∈ps,q0b t=0):=G;clear hP G;generalize hn:ps.length=n at Y⊢;have HN:Hid (ps.length=n):=hn;clear hn;have d:Hid (v8u ps wd w 0 w):=⟨Nat.zero_le _,rfl,Below.refl _ _,by simp[q9k],fun t h=>by simp at h⟩;go_in;go_wp2_with fail
 go_loopw [7,8] (fun s x wr=>∃i:Nat,x=.int .i64 (i:Int)/\s=.string (wbS (q9k wd (ps.take i)))/\v8u ps wd w i wr) (fun _ x _=>n-(intOf x).toNat)
 case atStart=>exact⟨0,rfl,rfl,d.o⟩
 case round=>
  obtain⟨i,rfl,rfl,E⟩:=hrel;have Ac:=HN.o;have Ab:=E.le;by_cases Ad:i<n
  ·have g:(i:Int)<(n:Int):=by omega
   have D:i<ps.length:=by omega
   obtain⟨b0,o0,r,y,rfl,Aa,d0,U,R⟩:=(HP.o.W E.b) i D;have L:=HA.o ps[i] (List.getElem_mem _);have B:Hid (Calls prog 8 #[.slice r ps[i].length y,.int .i64 (wd:Int)] wr fun e w'=>j1l ps[i] wd e/\Below wr wr w'):=z6w L wd o p r y wr R;have v:=hid E;have V:=v9y D;have M:=E.z;rw[V]at M;have O:=(show Hid (_=_)from M);have A:=(show Hid (_=_)from y0d (ps:=ps) wd D);have C:Hid (q0b ps[i]=0):=L;have k:=E.ln;clear E V M L R;have I:Hid (∀t,t∈ps.take (i+1)↔t∈ps.take i\/t=ps[i]):=fun t=>by rw[List.take_succ_eq_append_getElem D,List.mem_append,List.mem_singleton]
   have J:Hid (ps[i]∈ps):=List.getElem_mem D;generalize j:ps[i]=t at I J B O A C d0 U;generalize t.length=tn at B d0;clear j U;go_wp2_with fail;refine B.o.mono ?_;rintro e w1⟨hR,c⟩;have H:Hid (Below w w w1):=q0d v.o.b Zl c;cases hR with
   | ok hz hfw=>
    have Z:=j8f C.o hz wd
    have HX:Hid (v8u ps wd w (i+1) w1):=by
     refine⟨by omega,?_,H.o,?_,fun u hu=>?_⟩
     ·have:=O.o
      rw[k6l hz]at this;exact this
     ·rw[A.o,List.length_append];omega
     ·rcases(I.o u).1 hu with q|rfl
      ·exact v.o.fw u q
      ·exact hfw
    have f:Hid (wbS (q9k wd (ps.take (i+1)))=wbS (q9k wd (ps.take i))++wbS (z3g wd t)):=by
     show _=_;rw[A.o,q1z]
    have l:(wbS (q9k wd (ps.take i))).size<=50000000:=by rw[z2q];omega
    have m:(wbS (z3g wd t)).size<=2000001:=by rw[z2q];exact Z
    clear hz Z c B k O A C hfw I J;generalize wbS (q9k wd (ps.take i))=S at f l⊢;generalize wbS (z3g wd t)=T at f m⊢;have g1:¬9223372036854775807<S.size+T.size:=by omega
    go_wp2;refine⟨⟨i+1,by go_num,?_,HX.o⟩,?_⟩
    ·rw[f.o]
    ·simp[intOf];omega
   | full hz=>
    have N:Hid (k8i ps wd (.returned (.tuple #[.string ⟨#[]⟩,.int .i64 3,.bool true]))):=by
     have P:=O.o;rw[j4j hz,k2d hz]at P;have Q:=k8i.full (ps:=ps) (wd:=wd) (by rw[<-P];decide);rw[<-P]at Q;exact Q
    rw[k2d hz];clear hz c B k O A C;go_wp2;go_ret3;exact⟨N.o,H.o⟩
   | many s hm=>
    have N:Hid (k8i ps wd (.returned (.tuple #[.string ⟨#[]⟩,.int .i64 0,.bool false]))):=.many fun h=>hm (h t J.o)
    clear c B k O A C hm;go_wp2;go_ret3;exact⟨N.o,H.o⟩
  ·have g:¬(i:Int)<(n:Int):=by omega
   have K:ps.take i=ps:=List.take_of_length_le (by omega);have X:ps.drop i=[]:=List.drop_eq_nil_of_le (by omega);rw[K]
   have N:Hid (k8i ps wd (.returned (.tuple #[.string (wbS (q9k wd ps)),.int .i64 0,.bool true]))):=by
    have P:=E.z;have Q:=E.fw;rw[X]at P;rw[K]at Q;exact .ok P.symm Q
   have HB:Hid (Below w w wr):=E.b;clear E K X;generalize wbS (q9k wd ps)=S at N⊢;go_wp2;go_ret3;exact⟨N.o,HB.o⟩
end Go.Proofs.YtfdppahhbpfnoaaGreatDoor
