import Derived.Test.YthcpdohdppkmkaaGreatDoorPl46
open Go.Proofs.Tryz
namespace Go.Proofs.YthcpdohdppkmkaaGreatDoor
open Go Go.RowKit
set_option maxRecDepth 100000
set_option maxHeartbeats 8000000
theorem v9c{n:Nat}(h1:10<=n)(h2:n<=100)(w:World):Calls prog 46 #[.int .i64 (n:Int)] w fun e w'=>e=.returned .nilIface/\w=w':=by
 have A:¬(n:Int)<10:=by omega
 have B:¬100<(n:Int):=by omega
 go_in;go_wp2;go_ret;exact⟨rfl,rfl⟩
theorem y6a{wd:Int}(h:wd<10\/100<wd)(w:World):Calls prog 46 #[.int .i64 wd] w fun e w'=>e=.returned (.iface 22 (.int .i64 1))/\w=w':=by
 by_cases A:wd<10
 ·go_in;go_wp2;go_ret;exact⟨rfl,rfl⟩
 ·have B:100<wd:=by omega
  go_in;go_wp2;go_ret;exact⟨rfl,rfl⟩
theorem j9a{t:List Td}(h:q0c t=0)(h9:opT t=9)(n:Nat)(Aa:10<=n)(Ab:n<=100)(a:Option Addr)(cap:Nat)(w:World)(hc:t.length<=cap)(hN:Tds w a t)(U:j1k t)(ht:z2t w):
  Calls prog 57 #[.slice a t.length cap,.int .i64 (n:Int)] w fun e w'=>e=.returned (.tuple #[.string (wbS (z4l n t)),.nilIface])/\Below w w w':=by
 obtain⟨_,_,v,o⟩:=z8l h h9;have I:=k4r h h9;rw[z4m h h9]
 have D:Hid (Calls prog 101 #[.slice a t.length cap] w fun e w'=>(∃A c,e=.returned (.tuple #[.slice A (q0f (btL (txT t))).length c,.nilIface])/\Wds w' A ((q0f (btL (txT t))).map wbS)/\(q0f (btL (txT t))).length<=c)/\Below w w w'):=by
  refine(k3w t a cap w ht hc hN U).mono ?_;rintro e w'⟨⟨A,c,he,hW,z⟩,hb⟩;rw[o]at hW z;rw[List.length_map]at z;exact⟨⟨A,c,by rw[he,v,o,q0z,List.length_map],hW,z⟩,hb⟩
 have C:Hid (∀(W:World)(A:Option Addr)(c:Nat),(q0f (btL (txT t))).length<=c->Wds W A ((q0f (btL (txT t))).map wbS)->Calls prog 102 #[.slice A (q0f (btL (txT t))).length c,.int .i64 ((n:Int)-2)] W fun e w'=>(∃L c,e=.returned (.tuple #[.slice L (q1t (n-2) ((q0f (btL (txT t))).map wbS)).length c,.nilIface])/\q1x W (.slice L (q1t (n-2) ((q0f (btL (txT t))).map wbS)).length c) (q1t (n-2) ((q0f (btL (txT t))).map wbS)) w')/\Below W W w'):=fun W A c q1 q2=>j4a I n Aa Ab A c W q1 q2
 have y:=z8u I;by_cases N:q0f (btL (txT t))=[]
 ·have Q:Hid (ntL n (txT t)=[35,10]):=(show _=_ by rw[ntL,if_pos N]);generalize ntL n (txT t)=L at Q⊢;rw[N]at D C;simp only[List.map_nil,q4g,List.length_nil]at D C;clear hN U ht v o I h h9 y N;go_in;go_wp2_with fail;refine D.o.mono ?_;rintro e E⟨⟨X,R,rfl,G,H⟩,Z⟩;have O:Hid (Below w w E):=Z;have K:Hid (Calls prog 102 #[.slice X 0 R,.int .i64 ((n:Int)-2)] E fun e w'=>(∃L c,e=.returned (.tuple #[.slice L 0 c,.nilIface])/\q1x E (.slice L 0 c) [] w')/\Below E E w'):=C.o E X R H G;clear Z G H C D;go_wp2_with fail;refine K.o.mono ?_;rintro e V⟨⟨p,u,rfl,_⟩,b⟩;have P:Hid (Below w w V):=q0e O.o Zl b;clear b;go_wp2;go_ret2;exact⟨by rw[Q.o];rfl,P.o⟩
 ·have k:=q7q (n-2) _ ((q0f (btL (txT t))).map wbS) Zl;have i:=y.1
  have M:q1t (n-2) ((q0f (btL (txT t))).map wbS)≠[]:=by
   rw[q3v _ (by simpa using N)];simp
  have Q:Hid (wbS (ntL n (txT t))=(⟨#[35,32]⟩:ByteArray)++wbS (Lib.join ((q1t (n-2) ((q0f (btL (txT t))).map wbS)).map fun x=>x.data.toList) [10,35,32])++(⟨#[10]⟩:ByteArray)):=by
   show _=_;rw[k7h n N,<-q1y,<-q1y];rfl
  have d:=j8d I n
  have S:(wbS (Lib.join ((q1t (n-2) ((q0f (btL (txT t))).map wbS)).map fun x=>x.data.toList) [10,35,32])).size<=100000:=by
   rw[k7h n N,List.length_append,List.length_append]at d;rw[z1c];omega
  have l:0<(q0f (btL (txT t))).length:=List.length_pos_iff.2 N;generalize ntL n (txT t)=L at Q⊢;generalize q1t (n-2) ((q0f (btL (txT t))).map wbS)=ls at C Q k S M
  have s:Hid (∀(W:World)(A:Option Addr)(c B:Nat),q1x B (.slice A ls.length c) ls W->Calls prog 103 #[.slice A ls.length c,.string ⟨#[10,35,32]⟩] W fun e w'=>e=.returned (.string (wbS (Lib.join (ls.map fun x=>x.data.toList) [10,35,32])))/\Below W W w'):=fun W A c B hS=>by
   obtain⟨_,q2,hA⟩:=z4u hS;have Ac:=List.length_pos_iff.2 M;rcases hA with⟨_,q,_⟩|⟨g,rfl,hg⟩
   ·omega
   ·refine join_sh g 0 c ls ⟨#[10,35,32]⟩ W ?_ hg (by omega) q2 ?_
    ·intro j x hx;obtain⟨hj,rfl⟩:=List.getElem?_eq_some_iff.1 hx;obtain⟨b',o',e,_,R⟩:=q3p hS j hj;simp only[Option.some.injEq,Addr.mk.injEq,and_true]at e;obtain⟨rfl,rfl⟩:=e;exact R
    ·rw[z1c]at S
     show(Lib.join (ls.map fun x=>x.data.toList) [10,35,32]).length<=_
     omega
  generalize wbS (Lib.join (ls.map fun x=>x.data.toList) [10,35,32])=J at s Q S
  generalize(q0f (btL (txT t))).map wbS=ws at D C
  generalize(q0f (btL (txT t))).length=nw at D C l
  have m:((ls.length:Int)==0)=false:=by
   have:=List.length_pos_iff.2 M
   simp;omega
  have g1:¬9223372036854775807<2+J.size:=by omega
  have g2:¬9223372036854775807<2+J.size+1:=by omega
  clear hN U ht v o I h h9 y N d k i M;go_in;go_wp2_with fail;refine D.o.mono ?_;rintro e E⟨⟨X,R,rfl,G,H⟩,Z⟩;have O:Hid (Below w w E):=Z;have K:Hid (Calls prog 102 #[.slice X nw R,.int .i64 ((n:Int)-2)] E fun e w'=>(∃L c,e=.returned (.tuple #[.slice L ls.length c,.nilIface])/\q1x E (.slice L ls.length c) ls w')/\Below E E w'):=C.o E X R H G;clear Z G H C D;go_wp2_with fail;refine K.o.mono ?_;rintro e V⟨⟨p,u,rfl,f⟩,b⟩;have P:Hid (Below w w V):=q0e O.o Zl b;have Y:Hid (Calls prog 103 #[.slice p ls.length u,.string ⟨#[10,35,32]⟩] V fun e w'=>e=.returned (.string J)/\Below V V w'):=s.o V p u _ f;clear b f s K;generalize ls.length=nl at Y m⊢;go_wp2_with fail;refine Y.o.mono ?_;rintro e w3⟨rfl,b3⟩;have r:Hid (Below w w w3):=q0e P.o Zl b3;clear b3;go_wp2;go_ret2;exact⟨by rw[Q.o];rfl,r.o⟩
theorem j0d{t:List Td}(h:q0c t=0)(h9:opT t≠9)(n:Nat)(f:n<=100)(a:Option Addr)(cap:Nat)(w:World)(hc:t.length<=cap)(hN:Tds w a t)(H:j1k t)(ht:z2t w):
  Calls prog 58 #[.slice a t.length cap,.int .i64 (n:Int)] w fun e w'=>e=.returned (.tuple #[.string (if pgE t=0 then wbS (z4l n t)else⟨#[]⟩),q1r (pgE t)])/\Below w w w':=by
 have B:Hid (Calls prog 23 #[.slice a t.length cap] w fun e w'=>(∃A c,e=.returned (.tuple #[.slice A (q8l t).length c,q1r (q8z t)])/\q1u w' A (q8l t)/\(q8l t).length<=c)/\Below w w w'):=k9o t a cap w ht.pow hc hN H;rw[k4z h h9,z8y h h9];by_cases D:q8z t=0
 ·have C:Hid (∀(W:World)(A:Option Addr)(c:Nat),(q8l t).length<=c->q1u W A (q8l t)->Calls prog 24 #[.slice A (q8l t).length c,.int .i64 (n:Int)] W fun e w'=>(∃s V X wc,∃I J:Int,e=.returned (.tuple #[.string (wbS s),.slice V X wc,.agg #[.int .i64 I,.int .i64 J],.nilIface])/\dcL n t=s++[10]/\s.length<=2000000)/\Below W W w'):=fun W A c I J=>j2m D n f A c W I J
  rw[if_pos D,D,q0z];rw[D,q0z]at B;generalize dcL n t=L at C⊢;generalize q8l t=xs at B C;clear hN H ht h h9 D;go_in;go_wp2_with fail;refine B.o.mono ?_;rintro e K⟨⟨Y,b,rfl,O,P⟩,U⟩;have Z:Hid (Below w w K):=U;have G:Hid (Calls prog 24 #[.slice Y xs.length b,.int .i64 (n:Int)] K fun e w'=>(∃s V X wc,∃I J:Int,e=.returned (.tuple #[.string (wbS s),.slice V X wc,.agg #[.int .i64 I,.int .i64 J],.nilIface])/\L=s++[10]/\s.length<=2000000)/\Below K K w'):=C.o K Y b P O;clear U O P C B;generalize xs.length=nx at G⊢;go_wp2_with fail;refine G.o.mono ?_;rintro e j⟨⟨s,V,X,wc,I,J,rfl,i,Q⟩,g⟩;have M:Hid (Below w w j):=q0e Z.o Zl g;have N:Hid (wbS L=wbS s++(⟨#[10]⟩:ByteArray)):=(show _=_ by rw[i,<-q1y];rfl);have d:(wbS s).size<=2000000:=by rw[z1c];exact Q
  clear g i Q G;generalize wbS s=S at N d⊢;have k:¬9223372036854775807<S.size+1:=by omega
  go_wp2;go_ret2;exact⟨by rw[N.o];rfl,by first|exact M.o|exact q0e M.o Zl (q4c j _)⟩
 ·rw[if_neg D];have R:=(show Hid (_=_)from q0l D);generalize q1r (q8z t)=E at B R⊢;generalize q8l t=xs at B;generalize q8z t=z at R;clear hN H ht h h9 D;go_in;go_wp2_with fail;refine B.o.mono ?_;rintro e K⟨⟨Y,b,rfl,_,_⟩,U⟩;rw[R.o];generalize xs.length=nx;go_wp2;go_ret2;exact⟨by rw[R.o];rfl,U⟩
theorem y2i:g0a:=by
 intro t a D U w g L A Q;by_cases M:U<10\/100<U
 ·have X:Hid (Calls prog 46 #[.int .i64 U] w fun e w'=>e=.returned (.iface 22 (.int .i64 1))/\w=w'):=y6a M w;have B:k4t t U=1:=by rw[k4t,if_pos M]
  rw[k4u (by rw[B];decide),B];clear L A Q B M;go_in;go_wp2_with fail;refine X.o.mono ?_;rintro e i⟨rfl,rfl⟩;go_wp2;go_ret2;exact⟨rfl,Below.refl _ _⟩
 ·obtain⟨n,rfl⟩:∃n:Nat,U=(n:Int):=⟨U.toNat,by omega⟩;have Z:10<=n:=by omega
  have O:n<=100:=by omega
  have X:Hid (Calls prog 46 #[.int .i64 (n:Int)] w fun e w'=>e=.returned .nilIface/\w=w'):=v9c Z O w;have V:Hid (Calls prog 56 #[.slice a t.length D] w fun e w'=>e=.returned (q1r (q0c t))/\Below w w w'):=q7c t a D w g L A;by_cases H:q0c t=0
  ·obtain⟨l,b,o,rfl,p,d,P⟩:=z4o H L;have I:Hid (∀W:World,Below w w W->W.cell? ⟨b,o,none⟩=some (.int .i64 (opT t))):=fun W h=>((q1z h).1 _ _ p).trans d
   have q:(0:Int)<(t.length:Int):=by omega
   have B:k4t t (n:Int)=pgE t:=j8l M H;rw[H]at V;by_cases K:opT t=9
   ·have C:Hid (∀W:World,Below w w W->Calls prog 57 #[.slice (some ⟨b,o,none⟩) t.length D,.int .i64 (n:Int)] W fun e w'=>e=.returned (.tuple #[.string (wbS (z4l n t)),.nilIface])/\Below W W w'):=fun W h=>j9a H K n Z O _ D W g (L.W h) A (Q.W h)
    rw[K]at I;rw[j8n (by rw[B];exact z9b K),B,z9b K,q0z];clear L A Q B M d P H K;generalize wbS (z4l n t)=S at C⊢;go_in;go_wp2_with fail;refine X.o.mono ?_;rintro e i⟨rfl,rfl⟩;go_wp2_with fail;refine V.o.mono ?_;rintro e R⟨rfl,J⟩;rw[q0z];have P:=I.o R J;have G:Hid (Below w w R):=J;clear J;go_wp2_with fail;refine(C.o _ G.o).mono ?_;rintro e j⟨rfl,Y⟩;have N:Hid (Below w w j):=q0e G.o Zl Y;clear Y P;go_wp2;go_ret2;exact⟨rfl,N.o⟩
   ·have C:Hid (∀W:World,Below w w W->Calls prog 58 #[.slice (some ⟨b,o,none⟩) t.length D,.int .i64 (n:Int)] W fun e w'=>e=.returned (.tuple #[.string (v1s t (n:Int)),q1r (k4t t (n:Int))])/\Below W W w'):=fun W h=>by
     have k:=j0d H K n O (some ⟨b,o,none⟩) D W g (L.W h) A (Q.W h);have m:(if pgE t=0 then wbS (z4l n t)else⟨#[]⟩)=v1s t (n:Int):=by rw[v1s,B];rfl
     rw[m,<-B]at k;exact k
    have f:(opT t==9)=false:=by simp[K]
    clear L A Q B M d P H K;generalize opT t=op0 at I f;generalize v1s t (n:Int)=S at C⊢;generalize q1r (k4t t (n:Int))=E at C⊢;go_in;go_wp2_with fail;refine X.o.mono ?_;rintro e i⟨rfl,rfl⟩;go_wp2_with fail;refine V.o.mono ?_;rintro e R⟨rfl,J⟩;rw[q0z];have P:=I.o R J;have G:Hid (Below w w R):=J;clear J;go_wp2_with fail;refine(C.o _ G.o).mono ?_;rintro e j⟨rfl,Y⟩;have N:Hid (Below w w j):=q0e G.o Zl Y;clear Y P;go_wp2;go_ret2;exact⟨rfl,N.o⟩
  ·have B:k4t t (n:Int)=q0c t:=by rw[k4t,if_neg M,if_pos H]
   rw[k4u (by rw[B];exact H),B];have c:Hid (q1r (q0c t)=.iface 22 (.int .i64 (q0c t))):=q0l H;generalize q1r (q0c t)=E at V c⊢;generalize q0c t=z at c;clear L A Q B M H;go_in;go_wp2_with fail;refine X.o.mono ?_;rintro e i⟨rfl,rfl⟩;go_wp2_with fail;refine V.o.mono ?_;rintro e R⟨rfl,J⟩;rw[c.o];go_wp2;go_ret2;exact⟨by rw[c.o];rfl,J⟩
structure y4b(ps:List (List Td))(n:Nat)(w0:World)(i:Nat)(wr:World):Prop where
 le:i<=ps.length
 z:fmE (ps.drop i)=fmE ps
 x:IsX 96 w0.heap.size w0.heap.size (Lib.byteCells (q7t n (ps.take i))) [] wr
 bl:Below w0 w0 wr
 ln:(q7t n (ps.take i)).length<=i*2000001
theorem y8w:z7k 96 2:=by unfold z7k;kernel_rfl
theorem g0d:96≠5:=by decide
theorem v5l{s:ByteArray}{ps:List (List Td)}{k:Int}(h:q4l s ps k 0):∀t∈ps,j1k t:=fun t ht x hx=>Nat.le_trans (j9b (z0i h).2.1 t ht x hx) (by decide)
theorem v5h{ps:List (List Td)}{i:Nat}(h:i<ps.length):ps.drop i=ps[i]::ps.drop (i+1):=List.drop_eq_getElem_cons h
theorem v5i{ps:List (List Td)}{i:Nat}(wd:Nat)(h:i<ps.length):q7t wd (ps.take (i+1))=q7t wd (ps.take i)++z4l wd ps[i]:=by
 rw[q7t,List.take_succ_eq_append_getElem h,List.flatMap_append];simp[q7t]
theorem y1d:y8a:=by
 intro s b w ht;by_cases u:b<10\/100<b
 ·have HW:Hid (Calls prog 46 #[.int .i64 b] w fun e H=>e=.returned (.iface 22 (.int .i64 1))/\w=H):=y6a u w;have I:Hid (z3h s b w (.returned (.tuple #[.string ⟨#[]⟩,.int .i64 0,q1r 1])) w):=⟨_,_,_,rfl,.range u,Below.refl _ _⟩;clear ht u;go_in;go_wp2_with fail;refine HW.o.mono ?_;rintro e w1⟨rfl,rfl⟩;go_wp2;go_ret3;exact I.o
 ·obtain⟨n,rfl⟩:∃n:Nat,b=(n:Int):=⟨b.toNat,by omega⟩;have Aj:10<=n:=by omega
  have Ak:n<=100:=by omega
  have K:Hid (¬((n:Int)<10\/100<(n:Int))):=u;have HW:Hid (Calls prog 46 #[.int .i64 (n:Int)] w fun e H=>e=.returned .nilIface/\w=H):=v9c Aj Ak w;have Ae:Hid (Calls prog 20 #[.string s] w fun e H=>∃ps k f A c,e=.returned (.tuple #[.slice A ps.length c,.int .i64 k,q1r f])/\q4l s ps k f/\Prg H A ps/\ps.length<=c/\Below w w H):=z2o s w ht;have HT:Hid (z2t w):=ht;clear ht u;go_in;go_wp2_with fail;refine HW.o.mono ?_;rintro e w1⟨rfl,rfl⟩;go_wp2_with fail;refine Ae.o.mono ?_;rintro e B⟨ps,k,f,A,c,rfl,a,hP,_,l⟩;have g:Hid (Below w w B):=l;by_cases y:f=0
  ·subst y;obtain⟨rfl,_,p,P⟩:=z0i a;have Ab:=(show Hid (∀t∈ps,j1k t)from v5l a);have d:Hid (∀t∈ps,q0c t=0):=P;have j:Hid (q4l s ps 0 0):=a;have HP:Hid (Prg B A ps):=hP;have Af:Hid (z2t B):=HT.o.W l;have Ad:Hid (y4b ps n B 0 (B.alloc (.cells #[.pointer none,.slice none 0 0] 96))):=⟨Nat.zero_le _,rfl,IsX.fresh 96 B [],q4c B _,by simp[q7t]⟩;rw[q0z];clear a hP l P;generalize r:ps.length=np at p⊢;have Ac:Hid (ps.length=np):=r;clear r;go_wp2_with fail
   go_loopw [31] (fun x wr=>∃i:Nat,x=.int .i64 (i:Int)/\y4b ps n B i wr) (fun x _=>np-(intOf x).toNat)
   case atStart=>exact⟨0,rfl,Ad.o⟩
   case round=>
    obtain⟨i,rfl,D⟩:=hrel;have An:=Ac.o;have Am:=D.le;have Ao:=D.ln;by_cases Ap:i<np
    ·have Ah:(i:Int)<(np:Int):=by omega
     have X:i<ps.length:=by omega
     obtain⟨b0,o0,A0,c0,rfl,Al,d0,U,R⟩:=(HP.o.W D.bl) i X;have L:=d.o ps[i] (List.getElem_mem _);have C:Hid (Calls prog 22 #[.slice A0 ps[i].length c0,.int .i64 (n:Int)] wr fun e H=>e=.returned (.tuple #[.string (v1s ps[i] (n:Int)),q1r (k4t ps[i] (n:Int))])/\Below wr wr H):=y2i ps[i] A0 c0 (n:Int) wr U R (Ab.o ps[i] (List.getElem_mem _)) (Af.o.W D.bl);have Z:k4t ps[i] (n:Int)=pgE ps[i]:=j8l K.o L;have V:=v5h X;have M:=D.z;rw[V]at M;have v:=(show Hid (_=_)from M);have J:=(show Hid (_=_)from v5i (ps:=ps) n X);have HV:Hid (y4b ps n B i wr):=D;by_cases G:pgE ps[i]=0
     ·have Ai:=k4v L G n;rw[j8n (by rw[Z];exact G),Z,G,q0z]at C
      have h:Hid (∀W,Below wr wr W->Calls prog 47 #[.pointer (some ⟨B,0,none⟩),.string (wbS (z4l n ps[i]))] W fun e H=>(∃z,e=.returned (.tuple #[z,.nilIface]))/\y4b ps n B (i+1) H):=fun W hb=>by
       have Aq:=D.bl.size;refine(z5h 96 B.heap.size B.heap.size (Lib.byteCells (q7t n (ps.take i))) [] (wbS (z4l n ps[i])) W y8w g0d (D.x.grew hb) (by rw[Lib.byteCells_length,z1c];omega) (by have:=hb.size;omega)).mono ?_;rintro e H⟨rfl,q1,q2,_⟩;refine⟨⟨_,rfl⟩,by omega,?_,?_,?_,?_⟩
       ·have:=v.o
        rw[z8i G]at this;exact this
       ·rw[J.o,z7v];exact q1
       ·exact(q0e D.bl Zl hb).trans (q2.W Zl)
       ·rw[J.o,List.length_append];omega
      clear D V M L R U Z G Ai v J;generalize wbS (z4l n ps[i])=S at C h;generalize ps[i].length=tn at d0 C;go_wp2_with fail;refine C.o.mono ?_;rintro e Y⟨rfl,O⟩;have Aa:Hid (Below wr wr Y):=O;clear O;go_wp2_with fail;refine(h.o _ Aa.o).mono ?_;rintro e w4⟨⟨q,rfl⟩,h4⟩;have Ag:Hid (y4b ps n B (i+1) w4):=h4;clear h4;go_wp2;refine⟨⟨i+1,by go_num,Ag.o⟩,?_⟩;simp[intOf];omega
     ·have I:Hid (∀W,Below wr wr W->z3h s (n:Int) w (.returned (.tuple #[.string ⟨#[]⟩,.int .i64 0,q1r (pgE ps[i])])) W):=fun W hb=>by
       have q:=v.o;rw[k3q G]at q;have q2:=k5r.full K.o j.o (by rw[<-q];exact G);rw[<-q]at q2;exact⟨_,_,_,rfl,q2,q0e g.o Zl (q0e D.bl Zl hb)⟩
      have N:=(show Hid (_=_)from q0l G);rw[k4u (by rw[Z];exact G),Z]at C;clear D V M L R U Z G v J;generalize q1r (pgE ps[i])=E at C I N;generalize pgE ps[i]=z at N;generalize ps[i].length=tn at d0 C;go_wp2_with fail;refine C.o.mono ?_;rintro e Y⟨rfl,O⟩;have Q:Hid (z3h s (n:Int) w (.returned (.tuple #[.string ⟨#[]⟩,.int .i64 0,E])) Y):=I.o Y O;clear O;rw[N.o];go_wp2;go_ret3;rw[<-N.o];exact Q.o
    ·have Ah:¬(i:Int)<(np:Int):=by omega
     have o:ps.take i=ps:=List.take_of_length_le (by omega);have m:ps.drop i=[]:=List.drop_eq_nil_of_le (by omega);have G:=D.z;rw[m]at G;have hx:=D.x;rw[o]at hx;have HO:Hid (Calls prog 48 #[.pointer (some ⟨B,0,none⟩)] wr fun e H=>e=.returned (.string (wbS (q7t n ps)))/\Below B wr H):=k8k _ _ _ _ _ _ hx;have I:Hid (∀W,Below B wr W->z3h s (n:Int) w (.returned (.tuple #[.string (wbS (q7t n ps)),.int .i64 0,q1r 0])) W):=fun W hb=>⟨_,_,_,rfl,.ok K.o j.o G.symm,q0e g.o Zl (D.bl.trans hb)⟩
     clear D o m G hx;generalize wbS (q7t n ps)=S at HO I;go_wp2_with fail;refine HO.o.mono ?_;rintro e Y⟨rfl,O⟩;have Q:Hid (z3h s (n:Int) w (.returned (.tuple #[.string S,.int .i64 0,q1r 0])) Y):=I.o Y O;clear O;go_wp2;go_ret3;exact Q.o
  ·have I:Hid (z3h s (n:Int) w (.returned (.tuple #[.string ⟨#[]⟩,.int .i64 k,q1r f])) B):=⟨_,_,_,rfl,.bad K.o a y,l⟩;have N:=(show Hid (_=_)from q0l y);generalize q1r f=E at I N⊢;clear a hP l y;rw[N.o];generalize ps.length=np;go_wp2;go_ret3;rw[<-N.o];exact I.o
end Go.Proofs.YthcpdohdppkmkaaGreatDoor
