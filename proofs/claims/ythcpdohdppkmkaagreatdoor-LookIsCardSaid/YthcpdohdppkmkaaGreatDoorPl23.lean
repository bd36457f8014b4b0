import Derived.Test.YthcpdohdppkmkaaGreatDoorPl22
open Go.Proofs.Tryz
namespace Go.Proofs.YthcpdohdppkmkaaGreatDoor
open Go Go.RowKit
set_option maxRecDepth 100000
set_option maxHeartbeats 4000000
theorem j6o{w0:World}{b:Nat}{xt:ByteArray}{xn:Int}{y:Td}{k:Fo}(hX:ExL w0 b y k)(hz:(q0m y k.D).N.length<=1000)(h8:xt.size<=8)(w:World)(hW:LyE w0 b (⟨7,xt,xn⟩::(y::(k.N++[]))) w):
  Calls prog 104 #[.pointer (some ⟨b,0,none⟩)] w fun e w'=>NdG w0 b w (stD ⟨7,xt,xn⟩ (q0m y k.D)).N [] e w':=by
 have a:Hid (Calls prog 169 #[.pointer (some ⟨b,0,none⟩)] w fun e w'=>e=.returned (.agg #[.int .i64 7,.string xt,.int .i64 xn])/\Lk w0 b w (y::(k.N++[])) w'):=q4i hW;have H:Hid (∀W,LyE w0 b (y::(k.N++[])) W->Calls prog 171 #[.pointer (some ⟨b,0,none⟩)] W fun e w'=>NdG w0 b W (q0m y k.D).N [] e w'):=fun W hW=>hX [] W hW
 have C:Hid ((stD ⟨7,xt,xn⟩ (q0m y k.D)).N=⟨8,⟨#[]⟩,0⟩::(⟨6,⟨#[]⟩,0⟩::([⟨1,(⟨#[108,101,116,32]⟩:ByteArray)++xt++(⟨#[32,61]⟩:ByteArray),0⟩]++(⟨7,⟨#[]⟩,2⟩::(⟨6,⟨#[]⟩,0⟩::([⟨2,⟨#[]⟩,0⟩]++(⟨6,⟨#[]⟩,0⟩::((q0m y k.D).N++[⟨1,⟨#[59]⟩,0⟩])))))))):=by
  show _=_
  have e6:wbS ([108,101,116,32]++btL xt++[32,61])=(⟨#[108,101,116,32]⟩:ByteArray)++xt++(⟨#[32,61]⟩:ByteArray):=by
   have q1:wbS [108,101,116,32]++wbS (btL xt)=wbS ([108,101,116,32]++btL xt):=q1y _ _;have q2:wbS ([108,101,116,32]++btL xt)++wbS [32,61]=wbS ([108,101,116,32]++btL xt++[32,61]):=q1y _ _;rw[<-q2,<-q1];rfl
  rw[<-e6];rfl
 generalize(stD ⟨7,xt,xn⟩ (q0m y k.D)).N=R at C⊢
 generalize(q0m y k.D).N=xs at H C hz
 generalize y::(k.N++[])=r0 at a H;have g1:¬9223372036854775807<4+xt.size:=by omega
 have g2:¬9223372036854775807<4+xt.size+2:=by omega
 clear hX hW;go_in;go_wp2_with fail;refine a.o.mono ?_;rintro e G⟨rfl,i⟩;have L:Hid (∃K,G.alloc (.cells #[.int .i64 7,.string xt,.int .i64 xn] 71)=K/\Lk w0 b w r0 K/\K.heap[G.heap.size]?=some (.cells #[.int .i64 7,.string xt,.int .i64 xn] 71 (0,0))):=⟨_,rfl,i.step (q4c G _),heap_alloc_new G _⟩;have j:G.heap.size≠b:=by have:=i.in;omega
 clear i a;go_wp2_with fail;obtain⟨K,Q,P,S⟩:=L.o;rw[Q];have A:Hid (Lk w0 b w r0 K):=P;have B:Hid (K.heap[G.heap.size]?=some (.cells #[.int .i64 7,.string xt,.int .i64 xn] 71 (0,0))):=S;clear L P S Q;go_wp2_with fail;refine(H.o _ A.o.ly).mono ?_;rintro e w3 r;obtain⟨v3,rfl,z,l⟩:=r.val;replace A:=hid (A.o.then l);replace B:=hid ((l.bt.block _ (Array.getElem?_eq_some_iff.1 B.o).1 j).trans B.o);have X:=hid z;clear r z l;go_wp2_with fail;refine(q2k _ _).mono ?_;rintro e w4 s;obtain⟨v4,rfl,n4,Y⟩:=s.valB A.o.in;replace A:=hid (A.o.step Y);replace B:=hid ((Y.block _ (Array.getElem?_eq_some_iff.1 B.o).1).trans B.o);replace X:=hid (X.o.bel Y);have q:=hid n4;clear s n4 Y;go_wp2_with fail;refine(q1n _ X.o.val q.o.val (by first|(simp;done)|(simp;omega))).mono ?_;rintro e w5 t;obtain⟨v5,rfl,n5,c⟩:=t.valB A.o.in;replace A:=hid (A.o.step c);replace B:=hid ((c.block _ (Array.getElem?_eq_some_iff.1 B.o).1).trans B.o);clear X;clear q;have J:=hid n5;clear t n5 c;have d0:w5.cell? ⟨G,0,none⟩=some (.int .i64 7):=by rw[Lib.cell_of_heap B.o];rfl
 have d1:w5.cell? ⟨G,1,none⟩=some (.string xt):=by rw[Lib.cell_of_heap B.o];rfl
 clear B;go_wp2_with fail;refine(q2k _ _).mono ?_;rintro e w6 u;obtain⟨v6,rfl,n6,d⟩:=u.valB A.o.in;replace A:=hid (A.o.step d);replace J:=hid (J.o.bel d);have E:=hid n6;clear u n6 d;clear d0 d1;go_wp2_with fail;refine(z1t _).mono ?_;rintro e w7 v;obtain⟨v7,rfl,n7,Z⟩:=v.valB A.o.in;replace A:=hid (A.o.step Z);replace J:=hid (J.o.bel Z);replace E:=hid (E.o.bel Z);have m:=hid n7;clear v n7 Z;go_wp2_with fail;refine(q1n _ m.o.val J.o.val (by first|(simp;done)|(simp;omega))).mono ?_;rintro e w8 h8;obtain⟨v8,rfl,n8,f⟩:=h8.valB A.o.in;replace A:=hid (A.o.step f);clear m;clear J;replace E:=hid (E.o.bel f);have p:=hid n8;clear h8 n8 f;go_wp2_with fail;refine(q9k _ p.o.val (by first|(simp;done)|(simp;omega))).mono ?_;rintro e w9 x;obtain⟨v9,rfl,n9,g⟩:=x.valB A.o.in;replace A:=hid (A.o.step g);clear p;replace E:=hid (E.o.bel g);have n:=hid n9;clear x n9 g;go_wp2_with fail;refine(q1n _ E.o.val n.o.val (by first|(simp;done)|(simp;omega))).mono ?_;rintro e Ac O;obtain⟨Aa,rfl,U,M⟩:=O.valB A.o.in;replace A:=hid (A.o.step M);clear E;clear n;have o:=hid U;clear O U M;go_wp2_with fail;refine(z1v _ o.o.val (by first|(simp;done)|(simp;omega))).mono ?_;rintro e V I
 have HX:Hid (NdG w0 b w R [] e V):=by
  have h:=I.gof A.o;show NdG w0 b w R [] e V;rw[C.o];exact h
 obtain⟨Ab,rfl,_,_⟩:=I.val;clear I A C o;go_wp2;go_ret;exact HX.o
theorem v4o{w0:World}{b:Nat}{xt:ByteArray}{xn:Int}{y:Td}{k:Fo}(hX:ExL w0 b y k)(hz:(q0m y k.D).N.length<=1000)(w:World)(hW:LyE w0 b (⟨8,xt,xn⟩::(y::(k.N++[]))) w):
  Calls prog 104 #[.pointer (some ⟨b,0,none⟩)] w fun e w'=>NdG w0 b w (stD ⟨8,xt,xn⟩ (q0m y k.D)).N [] e w':=by
 have S:Hid (Calls prog 169 #[.pointer (some ⟨b,0,none⟩)] w fun e w'=>e=.returned (.agg #[.int .i64 8,.string xt,.int .i64 xn])/\Lk w0 b w (y::(k.N++[])) w'):=q4i hW;have G:Hid (∀W,LyE w0 b (y::(k.N++[])) W->Calls prog 171 #[.pointer (some ⟨b,0,none⟩)] W fun e w'=>NdG w0 b W (q0m y k.D).N [] e w'):=fun W hW=>hX [] W hW
 have B:Hid ((stD ⟨8,xt,xn⟩ (q0m y k.D)).N=⟨6,⟨#[]⟩,0⟩::((q0m y k.D).N++[⟨1,⟨#[59]⟩,0⟩])):=rfl
 generalize(stD ⟨8,xt,xn⟩ (q0m y k.D)).N=R at B⊢
 generalize(q0m y k.D).N=xs at G B hz
 generalize y::(k.N++[])=r0 at S G;clear hX hW;go_in;go_wp2_with fail;refine S.o.mono ?_;rintro e E⟨rfl,U⟩;have I:Hid (∃H,E.alloc (.cells #[.int .i64 8,.string xt,.int .i64 xn] 71)=H/\Lk w0 b w r0 H/\H.heap[E.heap.size]?=some (.cells #[.int .i64 8,.string xt,.int .i64 xn] 71 (0,0))):=⟨_,rfl,U.step (q4c E _),heap_alloc_new E _⟩;have X:E.heap.size≠b:=by have:=U.in;omega
 clear U S;go_wp2_with fail;obtain⟨H,L,K,M⟩:=I.o;rw[L];have C:Hid (Lk w0 b w r0 H):=K;have A:Hid (H.heap[E.heap.size]?=some (.cells #[.int .i64 8,.string xt,.int .i64 xn] 71 (0,0))):=M;clear I K M L;go_wp2_with fail;refine(G.o _ C.o.ly).mono ?_;rintro e o c;obtain⟨l,rfl,f,Y⟩:=c.val;replace C:=hid (C.o.then Y);replace A:=hid ((Y.bt.block _ (Array.getElem?_eq_some_iff.1 A.o).1 X).trans A.o);have O:=hid f;clear c f Y;go_wp2_with fail;refine(q2k _ _).mono ?_;rintro e p d;obtain⟨m,rfl,g,P⟩:=d.valB C.o.in;replace C:=hid (C.o.step P);replace A:=hid ((P.block _ (Array.getElem?_eq_some_iff.1 A.o).1).trans A.o);replace O:=hid (O.o.bel P);have Z:=hid g;clear d g P;go_wp2_with fail;refine(q1n _ O.o.val Z.o.val (by first|(simp;done)|(simp;omega))).mono ?_;rintro e Q V
 have i:Hid (NdG w0 b w R [] e Q):=by
  have h:=V.gof C.o;show NdG w0 b w R [] e Q;rw[B.o];exact h
 obtain⟨n,rfl,_,a⟩:=V.val;have J:Q.heap[E.heap.size]?=some (.cells #[.int .i64 8,.string xt,.int .i64 xn] 71 (0,0)):=(a.block _ (Array.getElem?_eq_some_iff.1 A.o).1).trans A.o;have j:Q.cell? ⟨E,0,none⟩=some (.int .i64 8):=by rw[Lib.cell_of_heap J];rfl
 clear V C B O Z a J A;go_wp2;go_ret;exact i.o
theorem j6n{t:List Td}{a:Option Addr}{cap:Nat}{w W:World}{b:Nat}(ht:j1m w)(h:q0c t=0)(h9:opT t≠9)(hc:t.length<=cap)(hN:Tds w a t)(E:w.heap.size<=b)(hx:W.heap[b]?=some (.cells #[.slice a t.length cap] 175 (0,0)))(hb:Below w w W):
  Calls prog 104 #[.pointer (some ⟨b,0,none⟩)] W fun e w'=>NdR w (q0s t).N e w':=by
 obtain⟨M,V,_,_⟩:=q4b h;obtain⟨x,y,k,rfl,H,I,S,K⟩:=z9j h h9;have B:EAL w b (.cons y k .nil):=z8n ht _ H I (by simp only[List.length_cons]at M;omega)
 have Q:(q0m y k.D).N.length<=1000:=by
  have:=(k8a y k .nil).2
  simp only[List.length_cons]at M;omega
 have R:q0s (x::(Fo.cons y k .nil).N)=stD x (q0m y k.D):=z9h H S;have J:x::(Fo.cons y k .nil).N=x::(y::(k.N++[])):=by simp[Fo.N]
 rw[R]
 have P:LyE w b (x::(y::(k.N++[]))) W:=by
  rw[<-J];exact⟨a,cap,hx,hc,hN,hb,E⟩
 have L:Calls prog 104 #[.pointer (some ⟨b,0,none⟩)] W fun e w'=>NdG w b W (stD x (q0m y k.D)).N [] e w':=by
  obtain⟨Y,Z,X⟩:=x;rcases K with⟨C,G,_⟩|⟨C,_,_⟩
  ·dsimp only at C G;subst C;have O:=q5p G;rw[q0b]at O;exact j6o B.1 Q O W P
  ·dsimp only at C;subst C;exact v4o B.1 Q W P
 refine L.mono ?_;rintro e w'⟨A,c,rfl,C,U⟩;exact⟨A,c,rfl,C.down hb.size,hb.trans ((U.bt.mono hb.size).W E)⟩
theorem j5x(t:List Td)(a:Option Addr)(cap:Nat)(w:World)(ht:j1m w)(h:q0c t=0)(h9:opT t≠9)(hc:t.length<=cap)(hN:Tds w a t):Calls prog 60 #[.slice a t.length cap] w fun e w'=>z3g t e w'/\Below w w w':=by
 have B:Hid (∀(W:World)(b:Nat),w.heap.size<=b->W.heap[b]?=some (.cells #[.slice a t.length cap] 175 (0,0))->Below w w W->Calls prog 104 #[.pointer (some ⟨b,0,none⟩)] W fun e w'=>NdR w (q0s t).N e w'):=fun W b hlt hx hb=>j6n ht h h9 hc hN hlt hx hb
 have I:=(z5z h h9).n;by_cases K:400<(q0s t).N.length
 ·obtain⟨G,C,_,_⟩:=v4c h h9 K;have J:Hid (∀W,z3g t (.returned (.tuple #[.slice none 0 0,q1r 3])) W):=fun W=>⟨none,0,by rw[G,C];rfl,by rw[C];exact fun i hi=>by simp at hi,by rw[C];exact Nat.le_refl _⟩
  generalize(q0s t).N=xs at B K I
  have O:(400:Int)<(xs.length:Int):=by omega
  clear h h9 G C hN ht;go_in;go_wp2_with fail;refine(B.o _ _ Zl (heap_alloc_new w _) (q4c w _)).mono ?_;rintro e L⟨A,c,rfl,H,E⟩;have D:Hid (Below w w L):=E;clear H E;go_wp2;go_ret2;exact⟨J.o _,D.o⟩
 ·obtain⟨G,C,_,_⟩:=y1m h h9 K;have J:Hid (∀A c W,q1u W A (q0s t).N->(q0s t).N.length<=c->z3g t (.returned (.tuple #[.slice A (q0s t).N.length c,q1r 0])) W):=fun A c W h h2=>⟨A,c,by rw[G,C],by rw[C];exact h,by rw[C];exact h2⟩
  generalize(q0s t).N=xs at B K I J
  have O:¬(400:Int)<(xs.length:Int):=by omega
  clear h h9 G C hN ht;go_in;go_wp2_with fail;refine(B.o _ _ Zl (heap_alloc_new w _) (q4c w _)).mono ?_;rintro e L⟨A,c,rfl,H,E⟩;have D:Hid (Below w w L):=E;have M:=hid (J.o A c L H.nods (k7r H).2.1);clear H E;go_wp2;go_ret2;exact⟨M.o,D.o⟩
theorem j0o(s:ByteArray)(w:World):
  Calls prog 194 #[.string s,.string ⟨#[32]⟩] w fun e w'=>e=.returned (.int .i64 (Lib.indexByte s.data.toList 32))/\w=w':=by
 go_in;go_wp2_with(go_at_call 141;refine(q6u _ _ _).mono ?_;rintro e w'⟨rfl,rfl⟩)
 ·have h:([32]==s.toList)=true:=by assumption
  go_ret;refine⟨?_,rfl⟩;have e:s.data.toList=[32]:=by rw[<-Lib.toList_data];exact(beq_iff_eq.1 h).symm
  rw[e];simp[Lib.indexByte]
 ·go_ret;exact⟨rfl,rfl⟩
theorem z0b(s:ByteArray)(w:World):
  Calls prog 263 #[.string s,.string ⟨#[32]⟩] w fun e w'=>e=.returned (.int .i64 (Lib.indexByte s.data.toList 32))/\w=w':=by
 go_in;go_wp2_with fail;refine(j0o _ _).mono ?_;rintro e A⟨rfl,rfl⟩;go_wp2;go_ret;exact⟨rfl,rfl⟩
theorem k9l(s:ByteArray)(N:Nat)(w:World)(hs:s.size<=140737488351232)(hN:N=min 61 (s.size+1)):
  Calls prog 238 #[.string s,.string ⟨#[32]⟩,.int .i64 0,.int .i64 61] w fun e w'=>
   e=.returned (.slice (some ⟨w,0,none⟩) (spK (N-1) s).length N)/\w'=w.alloc (.cells (Lib.cellsOf (spK (N-1) s) N) 9):=by
 have S:min (61:Int) ((s.size:Int)+1)=(N:Int):=by omega
 have j:(N:Int)<=(s.size:Int)+1:=by omega
 have f:(1:Int)<=(N:Int):=by omega
 have g:N<=61:=by omega
 clear hN;by_cases d:(s.size:Int)+1<61
 ·have Q:((N:Nat):Int)=(s.size:Int)+1:=by omega
  have I:=run_make_row' (P:=prog) 42 9 (.string ByteArray.empty) 16 Tryz.underlying42 q9d rfl .i64 .i64 N (by omega) (by omega);rw[Q]at I;go_in;go_wp2_with fail;clear I S
  go_loopw [0,10] (fun s0 i wr=>∃(A:List ByteArray)(B:ByteArray),s0=.string B/\i=.int .i64 (A.length:Nat)/\A.length<=N-1/\B.size<=s.size/\
    wr=w.alloc (.cells (Lib.cellsOf A N) 9)/\A++spK (N-1-A.length) B=spK (N-1) s) (fun _ i _=>N-1-(intOf i).toNat)
  case atStart=>exact⟨[],s,rfl,rfl,Nat.zero_le _,Nat.le_refl _,by rw[Lib.cellsOf_nil],rfl⟩
  case round=>
   obtain⟨A,B,rfl,rfl,k,W,rfl,J⟩:=hrel;have M:(Lib.cellsOf A N)[A.length]?=some (.string ByteArray.empty):=Lib.cellsOf_next (by omega);have R:Hid (A++spK (N-1-A.length) B=spK (N-1) s):=J;clear J
   have C:spK (N-1-A.length) B=[B]->(spK (N-1) s).length=A.length+1/\(Lib.cellsOf A N).setIfInBounds A.length (.string B)=Lib.cellsOf (spK (N-1) s) N:=fun h=>by
    have e:=R.o;rw[h]at e;rw[<-e];exact⟨by simp,Lib.cellsOf_set (by omega) B⟩
   by_cases V:A.length<N-1
   ·have H:((A.length:Nat):Int)<(s.size:Int):=by omega
    rcases q8a B with D|⟨i,D,O⟩
    ·obtain⟨E,G⟩:=C (z0q _ D);have K:Hid ((spK (N-1) s).length=A.length+1):=E;have L:=(show Hid (_=_)from G);clear E G C;go_wp2_with fail;refine(z0b B _).mono ?_;rintro e X⟨rfl,rfl⟩;rw[D];go_wp2;go_ret;rw[K.o,<-L.o];exact⟨by first|rfl|(congr 2<;>omega),rfl⟩
    ·have Y:¬((i:Int)<0):=by omega
     have Z:(0:Int)<=↑i:=by omega
     have a:(↑i:Int)<=↑B.size:=by omega
     have b:(0:Int)<=↑i+1:=by omega
     have c:(↑i+1:Int)<=↑B.size:=by omega
     have U:Hid (A++[B.extract 0 i]++spK (N-1-(A.length+1)) (B.extract (i+1) B.size)=spK (N-1) s):=by
      show _=_;rw[<-R.o,show N-1-A.length=(N-1-(A.length+1))+1 by omega,z4t _ D];simp
     clear C;go_wp2_with fail;refine(z0b B _).mono ?_;rintro e X⟨rfl,rfl⟩;rw[D];go_wp2
     go_roundw
     case rel=>exact⟨A++[B.extract 0 i],B.extract (i+1) B.size,rfl,by simp,by simp;omega,by rw[ByteArray.size_extract];omega,by rw[<-Lib.cellsOf_set (by omega)],by rw[List.length_append];exact U.o⟩
     case measure=>simp[intOf];omega
   ·have H:¬(((A.length:Nat):Int)<(s.size:Int)):=by omega
    obtain⟨E,G⟩:=C (by rw[show N-1-A.length=0 by omega];rfl);have K:Hid ((spK (N-1) s).length=A.length+1):=E;have L:=(show Hid (_=_)from G);clear E G C;go_wp2;go_ret;rw[K.o,<-L.o];exact⟨by first|rfl|(congr 2<;>omega),rfl⟩
 ·have Q:((N:Nat):Int)=61:=by omega
  have I:=run_make_row' (P:=prog) 42 9 (.string ByteArray.empty) 16 Tryz.underlying42 q9d rfl .i64 .i64 N (by omega) (by omega);rw[Q]at I;go_in;go_wp2_with fail;clear I S
  go_loopw [0,10] (fun s0 i wr=>∃(A:List ByteArray)(B:ByteArray),s0=.string B/\i=.int .i64 (A.length:Nat)/\A.length<=N-1/\B.size<=s.size/\
    wr=w.alloc (.cells (Lib.cellsOf A N) 9)/\A++spK (N-1-A.length) B=spK (N-1) s) (fun _ i _=>N-1-(intOf i).toNat)
  case atStart=>exact⟨[],s,rfl,rfl,Nat.zero_le _,Nat.le_refl _,by rw[Lib.cellsOf_nil],rfl⟩
  case round=>
   obtain⟨A,B,rfl,rfl,k,W,rfl,J⟩:=hrel;have M:(Lib.cellsOf A N)[A.length]?=some (.string ByteArray.empty):=Lib.cellsOf_next (by omega);have R:Hid (A++spK (N-1-A.length) B=spK (N-1) s):=J;clear J
   have C:spK (N-1-A.length) B=[B]->(spK (N-1) s).length=A.length+1/\(Lib.cellsOf A N).setIfInBounds A.length (.string B)=Lib.cellsOf (spK (N-1) s) N:=fun h=>by
    have e:=R.o;rw[h]at e;rw[<-e];exact⟨by simp,Lib.cellsOf_set (by omega) B⟩
   by_cases V:A.length<N-1
   ·have H:((A.length:Nat):Int)<60:=by omega
    rcases q8a B with D|⟨i,D,O⟩
    ·obtain⟨E,G⟩:=C (z0q _ D);have K:Hid ((spK (N-1) s).length=A.length+1):=E;have L:=(show Hid (_=_)from G);clear E G C;go_wp2_with fail;refine(z0b B _).mono ?_;rintro e X⟨rfl,rfl⟩;rw[D];go_wp2;go_ret;rw[K.o,<-L.o];exact⟨by first|rfl|(congr 2<;>omega),rfl⟩
    ·have Y:¬((i:Int)<0):=by omega
     have Z:(0:Int)<=↑i:=by omega
     have a:(↑i:Int)<=↑B.size:=by omega
     have b:(0:Int)<=↑i+1:=by omega
     have c:(↑i+1:Int)<=↑B.size:=by omega
     have U:Hid (A++[B.extract 0 i]++spK (N-1-(A.length+1)) (B.extract (i+1) B.size)=spK (N-1) s):=by
      show _=_;rw[<-R.o,show N-1-A.length=(N-1-(A.length+1))+1 by omega,z4t _ D];simp
     clear C;go_wp2_with fail;refine(z0b B _).mono ?_;rintro e X⟨rfl,rfl⟩;rw[D];go_wp2
     go_roundw
     case rel=>exact⟨A++[B.extract 0 i],B.extract (i+1) B.size,rfl,by simp,by simp;omega,by rw[ByteArray.size_extract];omega,by rw[<-Lib.cellsOf_set (by omega)],by rw[List.length_append];exact U.o⟩
     case measure=>simp[intOf];omega
   ·have H:¬(((A.length:Nat):Int)<60):=by omega
    obtain⟨E,G⟩:=C (by rw[show N-1-A.length=0 by omega];rfl);have K:Hid ((spK (N-1) s).length=A.length+1):=E;have L:=(show Hid (_=_)from G);clear E G C;go_wp2;go_ret;rw[K.o,<-L.o];exact⟨by first|rfl|(congr 2<;>omega),rfl⟩
theorem j0u(s:ByteArray)(N:Nat)(w:World)(hs:s.size<=140737488351232)(hN:N=min 61 (s.size+1)):
  Calls prog 206 #[.string s,.string ⟨#[32]⟩,.int .i64 61] w fun e w'=>
   e=.returned (.slice (some ⟨w,0,none⟩) (spK (N-1) s).length N)/\w'=w.alloc (.cells (Lib.cellsOf (spK (N-1) s) N) 9):=by
 have A:Hid (N=min 61 (s.size+1)):=hN;clear hN;go_in;go_wp2_with fail;refine(k9l s N _ hs A.o).mono ?_;rintro e B⟨rfl,rfl⟩;go_wp2;go_ret;exact⟨rfl,rfl⟩
theorem v2q{ws:List ByteArray}{N i:Nat}(h:i<ws.length):(Lib.cellsOf ws N)[i]?=some (.string ws[i]):=by
 unfold Lib.cellsOf;rw[List.getElem?_toArray,List.getElem?_append_left (by rw[List.length_map];exact h),List.getElem?_map,List.getElem?_eq_getElem h];rfl
theorem j2z(w:World)(ws:List ByteArray)(N:Nat):Wds (w.alloc (.cells (Lib.cellsOf ws N) 9)) (some ⟨w,0,none⟩) ws:=by
 intro i A;refine⟨w.heap.size,0,rfl,by rw[World.size_alloc];omega,?_⟩
 have h:(w.alloc (.cells (Lib.cellsOf ws N) 9)).heap[w.heap.size]?=some (.cells (Lib.cellsOf ws N) 9):=by
  show(w.heap.push _)[w.heap.size]?=_
  simp
 simp only[World.cell?,Option.isSome_none,Bool.false_eq_true,if_false,h,Nat.zero_add];exact v2q A
theorem q8r{t:ByteArray}(h0:0<(t.size:Int)):(t.toList==[])=false:=by
 rw[Lib.toList_data]
 have:=(show t.data.toList.length=t.size from q0b t)
 cases h:t.data.toList with
 | nil=>rw[h]at this;simp at this;omega
 | cons a b=>rfl
theorem q6i{t:ByteArray}(h0:¬0<(t.size:Int)):t=⟨#[]⟩:=by
 obtain⟨d⟩:=t
 have A:d.size=0:=by
  have:(d.size:Int)=((⟨d⟩:ByteArray).size:Int):=rfl
  omega
 rw[Array.eq_empty_of_size_eq_zero A]
theorem j0y(s:ByteArray)(w:World)(hs:s.size<=140737488351232):Calls prog 159 #[.string s] w fun e w'=>∃(A:Option Addr)(ws:List ByteArray)(c:Nat),e=.returned (.slice A ws.length c)/\Wds w' A ws/\q1c ws=q2x s/\Below w w w':=by
 by_cases B:0<(s.size:Int)
 ·have E:=q8r B;have C:Hid (q1c (spK (min 61 (s.size+1)-1) s)=q2x s):=v4w (by omega) _ (by omega);go_in;go_wp2_with fail;refine(j0u s _ _ hs rfl).mono ?_;rintro e G⟨rfl,rfl⟩;generalize spK (min 61 (s.size+1)-1) s=ws at C⊢;generalize min 61 (s.size+1)=N;go_wp2;go_ret;exact⟨_,ws,N,rfl,j2z w ws N,C.o,Zb.alloc Zl _⟩
 ·have D:Hid (q2x s=0):=j8b (by omega);have e:=q6i B;subst e;clear B;go_in;go_wp2;go_ret;exact⟨none,[],0,rfl,fun i hi=>by simp at hi,by rw[D.o];rfl,Below.refl _ _⟩
theorem v8n{op:Int}{tx:ByteArray}{n:Int}(_h0:op<1):q0q ⟨op,tx,n⟩=1:=by
 unfold q0q
 (repeat' split)<;>first|rfl|(exfalso;omega)|(exfalso;simp_all;done)|(exfalso;simp_all<;>omega)|(simp_all;done)
theorem v8o{op:Int}{tx:ByteArray}{n:Int}(_h0:¬op<1)(_h1:9<op):q0q ⟨op,tx,n⟩=1:=by
 unfold q0q
 (repeat' split)<;>first|rfl|(exfalso;omega)|(exfalso;simp_all;done)|(exfalso;simp_all<;>omega)|(simp_all;done)
theorem v8p{tx:ByteArray}{n:Int}(_h0:n<0):q0q ⟨1,tx,n⟩=1:=by
 have A:q2u 1=false:=rfl;unfold q0q
 (repeat' split)<;>first|rfl|(exfalso;omega)|(exfalso;simp_all;done)|(exfalso;simp_all<;>omega)|(simp_all;done)
theorem v8q{tx:ByteArray}{n:Int}(_h0:¬n<0)(_h1:999999<n):q0q ⟨1,tx,n⟩=1:=by
 have A:q2u 1=false:=rfl;unfold q0q
 (repeat' split)<;>first|rfl|(exfalso;omega)|(exfalso;simp_all;done)|(exfalso;simp_all<;>omega)|(simp_all;done)
theorem v8r{tx:ByteArray}{n:Int}(_h0:¬n<0)(_h1:¬999999<n)(_h2:0<(tx.size:Int)):q0q ⟨1,tx,n⟩=2:=by
 have A:q2u 1=false:=rfl;unfold q0q
 (repeat' split)<;>first|rfl|(exfalso;omega)|(exfalso;simp_all;done)|(exfalso;simp_all<;>omega)|(simp_all;done)
theorem v8s{tx:ByteArray}{n:Int}(_h0:¬n<0)(_h1:¬999999<n)(_h2:¬0<(tx.size:Int)):q0q ⟨1,tx,n⟩=0:=by
 have A:q2u 1=false:=rfl;unfold q0q
 (repeat' split)<;>first|rfl|(exfalso;omega)|(exfalso;simp_all;done)|(exfalso;simp_all<;>omega)|(simp_all;done)
theorem v8t{tx:ByteArray}{n:Int}(_h0:¬n=0):q0q ⟨2,tx,n⟩=2:=by
 have A:q2u 2=true:=rfl;unfold q0q
 (repeat' split)<;>first|rfl|(exfalso;omega)|(exfalso;simp_all;done)|(exfalso;simp_all<;>omega)|(simp_all;done)
theorem v8u{tx:ByteArray}{n:Int}(_h0:n=0)(_h1:q0p tx=true):q0q ⟨2,tx,n⟩=0:=by
 have A:q2u 2=true:=rfl;unfold q0q
 (repeat' split)<;>first|rfl|(exfalso;omega)|(exfalso;simp_all;done)|(exfalso;simp_all<;>omega)|(simp_all;done)
theorem v8v{tx:ByteArray}{n:Int}(_h0:n=0)(_h1:q0p tx=false):q0q ⟨2,tx,n⟩=5:=by
 have A:q2u 2=true:=rfl;unfold q0q
 (repeat' split)<;>first|rfl|(exfalso;omega)|(exfalso;simp_all;done)|(exfalso;simp_all<;>omega)|(simp_all;done)
theorem v8w{tx:ByteArray}{n:Int}(_h0:n<0):q0q ⟨3,tx,n⟩=1:=by
 have A:q2u 3=true:=rfl;unfold q0q
 (repeat' split)<;>first|rfl|(exfalso;omega)|(exfalso;simp_all;done)|(exfalso;simp_all<;>omega)|(simp_all;done)
theorem j7a{tx:ByteArray}{n:Int}(_h0:¬n<0)(_h1:6<n):q0q ⟨3,tx,n⟩=1:=by
 have A:q2u 3=true:=rfl;unfold q0q
 (repeat' split)<;>first|rfl|(exfalso;omega)|(exfalso;simp_all;done)|(exfalso;simp_all<;>omega)|(simp_all;done)
theorem j7b{tx:ByteArray}{n:Int}(_h0:¬n<0)(_h1:¬6<n)(_h2:q0p tx=true):q0q ⟨3,tx,n⟩=0:=by
 have A:q2u 3=true:=rfl;unfold q0q
 (repeat' split)<;>first|rfl|(exfalso;omega)|(exfalso;simp_all;done)|(exfalso;simp_all<;>omega)|(simp_all;done)
theorem j7c{tx:ByteArray}{n:Int}(_h0:¬n<0)(_h1:¬6<n)(_h2:q0p tx=false):q0q ⟨3,tx,n⟩=5:=by
 have A:q2u 3=true:=rfl;unfold q0q
 (repeat' split)<;>first|rfl|(exfalso;omega)|(exfalso;simp_all;done)|(exfalso;simp_all<;>omega)|(simp_all;done)
theorem j7d{tx:ByteArray}{n:Int}(_h0:n<0):q0q ⟨4,tx,n⟩=1:=by
 have A:q2u 4=false:=rfl;unfold q0q
 (repeat' split)<;>first|rfl|(exfalso;omega)|(exfalso;simp_all;done)|(exfalso;simp_all<;>omega)|(simp_all;done)
theorem j7e{tx:ByteArray}{n:Int}(_h0:¬n<0)(_h1:6<n):q0q ⟨4,tx,n⟩=1:=by
 have A:q2u 4=false:=rfl;unfold q0q
 (repeat' split)<;>first|rfl|(exfalso;omega)|(exfalso;simp_all;done)|(exfalso;simp_all<;>omega)|(simp_all;done)
theorem j7f{tx:ByteArray}{n:Int}(_h0:¬n<0)(_h1:¬6<n)(_h2:0<(tx.size:Int)):q0q ⟨4,tx,n⟩=2:=by
 have A:q2u 4=false:=rfl;unfold q0q
 (repeat' split)<;>first|rfl|(exfalso;omega)|(exfalso;simp_all;done)|(exfalso;simp_all<;>omega)|(simp_all;done)
theorem j7g{tx:ByteArray}{n:Int}(_h0:¬n<0)(_h1:¬6<n)(_h2:¬0<(tx.size:Int)):q0q ⟨4,tx,n⟩=0:=by
 have A:q2u 4=false:=rfl;unfold q0q
 (repeat' split)<;>first|rfl|(exfalso;omega)|(exfalso;simp_all;done)|(exfalso;simp_all<;>omega)|(simp_all;done)
theorem j7h{tx:ByteArray}{n:Int}(_h0:¬n=0):q0q ⟨5,tx,n⟩=2:=by
 have A:q2u 5=false:=rfl;unfold q0q
 (repeat' split)<;>first|rfl|(exfalso;omega)|(exfalso;simp_all;done)|(exfalso;simp_all<;>omega)|(simp_all;done)
theorem j7i{tx:ByteArray}{n:Int}(_h0:n=0)(_h1:0<(tx.size:Int)):q0q ⟨5,tx,n⟩=2:=by
 have A:q2u 5=false:=rfl;unfold q0q
 (repeat' split)<;>first|rfl|(exfalso;omega)|(exfalso;simp_all;done)|(exfalso;simp_all<;>omega)|(simp_all;done)
theorem j7j{tx:ByteArray}{n:Int}(_h0:n=0)(_h1:¬0<(tx.size:Int)):q0q ⟨5,tx,n⟩=0:=by
 have A:q2u 5=false:=rfl;unfold q0q
 (repeat' split)<;>first|rfl|(exfalso;omega)|(exfalso;simp_all;done)|(exfalso;simp_all<;>omega)|(simp_all;done)
theorem j7k{tx:ByteArray}{n:Int}(_h0:¬n=0):q0q ⟨6,tx,n⟩=2:=by
 have A:q2u 6=false:=rfl;unfold q0q
 (repeat' split)<;>first|rfl|(exfalso;omega)|(exfalso;simp_all;done)|(exfalso;simp_all<;>omega)|(simp_all;done)
theorem j7l{tx:ByteArray}{n:Int}(_h0:n=0)(_h1:0<(tx.size:Int)):q0q ⟨6,tx,n⟩=2:=by
 have A:q2u 6=false:=rfl;unfold q0q
 (repeat' split)<;>first|rfl|(exfalso;omega)|(exfalso;simp_all;done)|(exfalso;simp_all<;>omega)|(simp_all;done)
theorem j7m{tx:ByteArray}{n:Int}(_h0:n=0)(_h1:¬0<(tx.size:Int)):q0q ⟨6,tx,n⟩=0:=by
 have A:q2u 6=false:=rfl;unfold q0q
 (repeat' split)<;>first|rfl|(exfalso;omega)|(exfalso;simp_all;done)|(exfalso;simp_all<;>omega)|(simp_all;done)
theorem j7n{tx:ByteArray}{n:Int}(_h0:¬n=0):q0q ⟨7,tx,n⟩=2:=by
 have A:q2u 7=true:=rfl;unfold q0q
 (repeat' split)<;>first|rfl|(exfalso;omega)|(exfalso;simp_all;done)|(exfalso;simp_all<;>omega)|(simp_all;done)
theorem j7o{tx:ByteArray}{n:Int}(_h0:n=0)(_h1:q0p tx=true):q0q ⟨7,tx,n⟩=0:=by
 have A:q2u 7=true:=rfl;unfold q0q
 (repeat' split)<;>first|rfl|(exfalso;omega)|(exfalso;simp_all;done)|(exfalso;simp_all<;>omega)|(simp_all;done)
theorem j7p{tx:ByteArray}{n:Int}(_h0:n=0)(_h1:q0p tx=false):q0q ⟨7,tx,n⟩=5:=by
 have A:q2u 7=true:=rfl;unfold q0q
 (repeat' split)<;>first|rfl|(exfalso;omega)|(exfalso;simp_all;done)|(exfalso;simp_all<;>omega)|(simp_all;done)
theorem j7q{tx:ByteArray}{n:Int}(_h0:¬n=0):q0q ⟨8,tx,n⟩=2:=by
 have A:q2u 8=false:=rfl;unfold q0q
 (repeat' split)<;>first|rfl|(exfalso;omega)|(exfalso;simp_all;done)|(exfalso;simp_all<;>omega)|(simp_all;done)
theorem j7r{tx:ByteArray}{n:Int}(_h0:n=0)(_h1:0<(tx.size:Int)):q0q ⟨8,tx,n⟩=2:=by
 have A:q2u 8=false:=rfl;unfold q0q
 (repeat' split)<;>first|rfl|(exfalso;omega)|(exfalso;simp_all;done)|(exfalso;simp_all<;>omega)|(simp_all;done)
theorem j7s{tx:ByteArray}{n:Int}(_h0:n=0)(_h1:¬0<(tx.size:Int)):q0q ⟨8,tx,n⟩=0:=by
 have A:q2u 8=false:=rfl;unfold q0q
 (repeat' split)<;>first|rfl|(exfalso;omega)|(exfalso;simp_all;done)|(exfalso;simp_all<;>omega)|(simp_all;done)
theorem j7t{tx:ByteArray}{n:Int}(_h0:¬n=0):q0q ⟨9,tx,n⟩=2:=by
 have A:q2u 9=true:=rfl;unfold q0q
 (repeat' split)<;>first|rfl|(exfalso;omega)|(exfalso;simp_all;done)|(exfalso;simp_all<;>omega)|(simp_all;done)
theorem j7u{tx:ByteArray}{n:Int}(_h0:n=0)(_h1:q2x tx=0):q0q ⟨9,tx,n⟩=0:=by
 have A:q2u 9=true:=rfl;unfold q0q
 (repeat' split)<;>first|rfl|(exfalso;omega)|(exfalso;simp_all;done)|(exfalso;simp_all<;>omega)|(simp_all;done)
theorem j7v{tx:ByteArray}{n:Int}(_h0:n=0)(_h1:¬q2x tx=0):q0q ⟨9,tx,n⟩=q2x tx:=by
 have A:q2u 9=true:=rfl;unfold q0q
 (repeat' split)<;>first|rfl|(exfalso;omega)|(exfalso;simp_all;done)|(exfalso;simp_all<;>omega)|(simp_all;done)
theorem z6z{ds:List Td}(h:40<ds.length):q0c ds=3:=by rw[q0c,if_pos h]
theorem z7a{ds:List Td}{k:Nat}(hl:ds.length<=40)(hk:k<ds.length)(ha:∀x∈ds.take k,q0q x=0)(h:q0q ds[k]≠0):q0c ds=q0q ds[k]:=by
 have e:=j4q ds k hk ha h;rw[q0c,if_neg (by omega),if_pos (by rw[e];exact h),e]
theorem z0w{ds:List Td}(hl:ds.length<=40)(ha:∀x∈ds,q0q x=0):q0c ds=if q3q ds 0 1=some ds.length/\k5i ds=true then 0 else 2:=by
 rw[q0c,if_neg (by omega),if_neg (by rw[k6r ds ha];simp)]
theorem z6y{ds:List Td}{k:Nat}(h:k<ds.length)(ha:∀x∈ds.take k,q0q x=0)(h0:q0q ds[k]=0):∀x∈ds.take (k+1),q0q x=0:=by
 intro x A;rw[List.take_succ_eq_append_getElem h]at A;rcases List.mem_append.1 A with A|A
 ·exact ha x A
 ·simp at A;subst A;exact h0
theorem k8e{ds:List Td}:k5i ds=true↔∀k(h:k<ds.length),decide (7<=ds[k].op)=decide (k=0):=by
 cases ds with
 | nil=>simp[k5i]
 | cons x r=>
  simp only[k5i,Bool.and_eq_true,decide_eq_true_eq,List.all_eq_true];constructor
  ·rintro⟨C,D⟩k A;cases k with
   | zero=>simpa using C
   | succ k=>
    have:=D (r[k]'(by simpa using A)) (List.getElem_mem _)
    simp only[List.getElem_cons_succ,Nat.add_eq_zero_iff,Nat.one_ne_zero,and_false,decide_false,decide_eq_false_iff_not];omega
  ·intro h;have B:=h 0 (by simp);simp only[List.getElem_cons_zero,decide_true,decide_eq_true_eq]at B;refine⟨B,fun y hy=>?_⟩;obtain⟨k,A,rfl⟩:=List.getElem_of_mem hy
   have:=h (k+1) (by simpa using A)
   simp at this;omega
end Go.Proofs.YthcpdohdppkmkaaGreatDoor
