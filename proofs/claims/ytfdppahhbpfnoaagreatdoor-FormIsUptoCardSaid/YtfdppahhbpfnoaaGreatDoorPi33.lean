import Derived.Test.YtfdppahhbpfnoaaGreatDoorPi32
import Derived.Deep.Slices
import Derived.Carry
import Derived.SizedLaws
open Go.Proofs.Tryz
namespace Go.Proofs.YtfdppahhbpfnoaaGreatDoor
open Go Go.RowKit
set_option maxRecDepth 100000
set_option maxHeartbeats 4000000
theorem j6f{w0:World}{b:Nat}{xt:ByteArray}{xn:Int}{y:Td}{k:Fo}(hX:ExL w0 b y k)(hz:(q0l y k.D).N.length<=1000)(h8:xt.size<=8)(w:World)(hW:LyE w0 b (⟨7,xt,xn⟩::(y::(k.N++[]))) w):
  Calls prog 86 #[.pointer (some ⟨b,0,none⟩)] w fun e w'=>NdG w0 b w (stD ⟨7,xt,xn⟩ (q0l y k.D)).N [] e w':=by
 have a:Hid (Calls prog 134 #[.pointer (some ⟨b,0,none⟩)] w fun e w'=>e=.returned (.agg #[.int .i64 7,.string xt,.int .i64 xn])/\Lk w0 b w (y::(k.N++[])) w'):=q4h hW;have H:Hid (∀W,LyE w0 b (y::(k.N++[])) W->Calls prog 136 #[.pointer (some ⟨b,0,none⟩)] W fun e w'=>NdG w0 b W (q0l y k.D).N [] e w'):=fun W hW=>hX [] W hW
 have C:Hid ((stD ⟨7,xt,xn⟩ (q0l y k.D)).N=⟨8,⟨#[]⟩,0⟩::(⟨6,⟨#[]⟩,0⟩::([⟨1,(⟨#[108,101,116,32]⟩:ByteArray)++xt++(⟨#[32,61]⟩:ByteArray),0⟩]++(⟨7,⟨#[]⟩,2⟩::(⟨6,⟨#[]⟩,0⟩::([⟨2,⟨#[]⟩,0⟩]++(⟨6,⟨#[]⟩,0⟩::((q0l y k.D).N++[⟨1,⟨#[59]⟩,0⟩])))))))):=by
  show _=_
  have e6:wbS ([108,101,116,32]++btL xt++[32,61])=(⟨#[108,101,116,32]⟩:ByteArray)++xt++(⟨#[32,61]⟩:ByteArray):=by
   have q1:wbS [108,101,116,32]++wbS (btL xt)=wbS ([108,101,116,32]++btL xt):=q1z _ _;have q2:wbS ([108,101,116,32]++btL xt)++wbS [32,61]=wbS ([108,101,116,32]++btL xt++[32,61]):=q1z _ _;rw[<-q2,<-q1];rfl
  rw[<-e6];rfl
 generalize(stD ⟨7,xt,xn⟩ (q0l y k.D)).N=R at C⊢
 generalize(q0l y k.D).N=xs at H C hz
 generalize y::(k.N++[])=r0 at a H;have g1:¬9223372036854775807<4+xt.size:=by omega
 have g2:¬9223372036854775807<4+xt.size+2:=by omega
 clear hX hW;go_in;go_wp2_with fail;refine a.o.mono ?_;rintro e G⟨rfl,i⟩;have L:Hid (∃K,G.alloc (.cells #[.int .i64 7,.string xt,.int .i64 xn] 47)=K/\Lk w0 b w r0 K/\K.heap[G.heap.size]?=some (.cells #[.int .i64 7,.string xt,.int .i64 xn] 47 (0,0))):=⟨_,rfl,i.step (q4b G _),heap_alloc_new G _⟩;have j:G.heap.size≠b:=by have:=i.in;omega
 clear i a;go_wp2_with fail;obtain⟨K,Q,P,S⟩:=L.o;rw[Q];have A:Hid (Lk w0 b w r0 K):=P;have B:Hid (K.heap[G.heap.size]?=some (.cells #[.int .i64 7,.string xt,.int .i64 xn] 47 (0,0))):=S;clear L P S Q;go_wp2_with fail;refine(H.o _ A.o.ly).mono ?_;rintro e w3 r;obtain⟨v3,rfl,z,l⟩:=r.val;replace A:=hid (A.o.then l);replace B:=hid ((l.bt.block _ (Array.getElem?_eq_some_iff.1 B.o).1 j).trans B.o);have X:=hid z;clear r z l;go_wp2_with fail;refine(q2k _ _).mono ?_;rintro e w4 s;obtain⟨v4,rfl,n4,Y⟩:=s.valB A.o.in;replace A:=hid (A.o.step Y);replace B:=hid ((Y.block _ (Array.getElem?_eq_some_iff.1 B.o).1).trans B.o);replace X:=hid (X.o.bel Y);have q:=hid n4;clear s n4 Y;go_wp2_with fail;refine(q1m _ X.o.val q.o.val (by first|(simp;done)|(simp;omega))).mono ?_;rintro e w5 t;obtain⟨v5,rfl,n5,c⟩:=t.valB A.o.in;replace A:=hid (A.o.step c);replace B:=hid ((c.block _ (Array.getElem?_eq_some_iff.1 B.o).1).trans B.o);clear X;clear q;have J:=hid n5;clear t n5 c;have d0:w5.cell? ⟨G,0,none⟩=some (.int .i64 7):=by rw[Lib.cell_of_heap B.o];rfl
 have d1:w5.cell? ⟨G,1,none⟩=some (.string xt):=by rw[Lib.cell_of_heap B.o];rfl
 clear B;go_wp2_with fail;refine(q2k _ _).mono ?_;rintro e w6 u;obtain⟨v6,rfl,n6,d⟩:=u.valB A.o.in;replace A:=hid (A.o.step d);replace J:=hid (J.o.bel d);have E:=hid n6;clear u n6 d;clear d0 d1;go_wp2_with fail;refine(z1w _).mono ?_;rintro e w7 v;obtain⟨v7,rfl,n7,Z⟩:=v.valB A.o.in;replace A:=hid (A.o.step Z);replace J:=hid (J.o.bel Z);replace E:=hid (E.o.bel Z);have m:=hid n7;clear v n7 Z;go_wp2_with fail;refine(q1m _ m.o.val J.o.val (by first|(simp;done)|(simp;omega))).mono ?_;rintro e w8 h8;obtain⟨v8,rfl,n8,f⟩:=h8.valB A.o.in;replace A:=hid (A.o.step f);clear m;clear J;replace E:=hid (E.o.bel f);have p:=hid n8;clear h8 n8 f;go_wp2_with fail;refine(q9n _ p.o.val (by first|(simp;done)|(simp;omega))).mono ?_;rintro e w9 x;obtain⟨v9,rfl,n9,g⟩:=x.valB A.o.in;replace A:=hid (A.o.step g);clear p;replace E:=hid (E.o.bel g);have n:=hid n9;clear x n9 g;go_wp2_with fail;refine(q1m _ E.o.val n.o.val (by first|(simp;done)|(simp;omega))).mono ?_;rintro e Ac O;obtain⟨Aa,rfl,U,M⟩:=O.valB A.o.in;replace A:=hid (A.o.step M);clear E;clear n;have o:=hid U;clear O U M;go_wp2_with fail;refine(z1y _ o.o.val (by first|(simp;done)|(simp;omega))).mono ?_;rintro e V I
 have HX:Hid (NdG w0 b w R [] e V):=by
  have h:=I.gof A.o;show NdG w0 b w R [] e V;rw[C.o];exact h
 obtain⟨Ab,rfl,_,_⟩:=I.val;clear I A C o;go_wp2;go_ret;exact HX.o
theorem v3r{w0:World}{b:Nat}{xt:ByteArray}{xn:Int}{y:Td}{k:Fo}(hX:ExL w0 b y k)(hz:(q0l y k.D).N.length<=1000)(w:World)(hW:LyE w0 b (⟨8,xt,xn⟩::(y::(k.N++[]))) w):
  Calls prog 86 #[.pointer (some ⟨b,0,none⟩)] w fun e w'=>NdG w0 b w (stD ⟨8,xt,xn⟩ (q0l y k.D)).N [] e w':=by
 have S:Hid (Calls prog 134 #[.pointer (some ⟨b,0,none⟩)] w fun e w'=>e=.returned (.agg #[.int .i64 8,.string xt,.int .i64 xn])/\Lk w0 b w (y::(k.N++[])) w'):=q4h hW;have G:Hid (∀W,LyE w0 b (y::(k.N++[])) W->Calls prog 136 #[.pointer (some ⟨b,0,none⟩)] W fun e w'=>NdG w0 b W (q0l y k.D).N [] e w'):=fun W hW=>hX [] W hW
 have B:Hid ((stD ⟨8,xt,xn⟩ (q0l y k.D)).N=⟨6,⟨#[]⟩,0⟩::((q0l y k.D).N++[⟨1,⟨#[59]⟩,0⟩])):=rfl
 generalize(stD ⟨8,xt,xn⟩ (q0l y k.D)).N=R at B⊢
 generalize(q0l y k.D).N=xs at G B hz
 generalize y::(k.N++[])=r0 at S G;clear hX hW;go_in;go_wp2_with fail;refine S.o.mono ?_;rintro e E⟨rfl,U⟩;have I:Hid (∃H,E.alloc (.cells #[.int .i64 8,.string xt,.int .i64 xn] 47)=H/\Lk w0 b w r0 H/\H.heap[E.heap.size]?=some (.cells #[.int .i64 8,.string xt,.int .i64 xn] 47 (0,0))):=⟨_,rfl,U.step (q4b E _),heap_alloc_new E _⟩;have X:E.heap.size≠b:=by have:=U.in;omega
 clear U S;go_wp2_with fail;obtain⟨H,L,K,M⟩:=I.o;rw[L];have C:Hid (Lk w0 b w r0 H):=K;have A:Hid (H.heap[E.heap.size]?=some (.cells #[.int .i64 8,.string xt,.int .i64 xn] 47 (0,0))):=M;clear I K M L;go_wp2_with fail;refine(G.o _ C.o.ly).mono ?_;rintro e o c;obtain⟨l,rfl,f,Y⟩:=c.val;replace C:=hid (C.o.then Y);replace A:=hid ((Y.bt.block _ (Array.getElem?_eq_some_iff.1 A.o).1 X).trans A.o);have O:=hid f;clear c f Y;go_wp2_with fail;refine(q2k _ _).mono ?_;rintro e p d;obtain⟨m,rfl,g,P⟩:=d.valB C.o.in;replace C:=hid (C.o.step P);replace A:=hid ((P.block _ (Array.getElem?_eq_some_iff.1 A.o).1).trans A.o);replace O:=hid (O.o.bel P);have Z:=hid g;clear d g P;go_wp2_with fail;refine(q1m _ O.o.val Z.o.val (by first|(simp;done)|(simp;omega))).mono ?_;rintro e Q V
 have i:Hid (NdG w0 b w R [] e Q):=by
  have h:=V.gof C.o;show NdG w0 b w R [] e Q;rw[B.o];exact h
 obtain⟨n,rfl,_,a⟩:=V.val;have J:Q.heap[E.heap.size]?=some (.cells #[.int .i64 8,.string xt,.int .i64 xn] 47 (0,0)):=(a.block _ (Array.getElem?_eq_some_iff.1 A.o).1).trans A.o;have j:Q.cell? ⟨E,0,none⟩=some (.int .i64 8):=by rw[Lib.cell_of_heap J];rfl
 clear V C B O Z a J A;go_wp2;go_ret;exact i.o
theorem j6e{t:List Td}{a:Option Addr}{cap:Nat}{w W:World}{b:Nat}(ht:j1n w)(h:q0b t=0)(h9:opT t≠9)(hc:t.length<=cap)(hN:Tds w a t)(E:w.heap.size<=b)(hx:W.heap[b]?=some (.cells #[.slice a t.length cap] 144 (0,0)))(hb:Below w w W):
  Calls prog 86 #[.pointer (some ⟨b,0,none⟩)] W fun e w'=>NdR w (q0q t).N e w':=by
 obtain⟨M,V,_,_⟩:=q4y h;obtain⟨x,y,k,rfl,H,I,S,K⟩:=z9k h h9;have B:EAL w b (.cons y k .nil):=z8o ht _ H I (by simp only[List.length_cons]at M;omega)
 have Q:(q0l y k.D).N.length<=1000:=by
  have:=(k7u y k .nil).2
  simp only[List.length_cons]at M;omega
 have R:q0q (x::(Fo.cons y k .nil).N)=stD x (q0l y k.D):=z9i H S;have J:x::(Fo.cons y k .nil).N=x::(y::(k.N++[])):=by simp[Fo.N]
 rw[R]
 have P:LyE w b (x::(y::(k.N++[]))) W:=by
  rw[<-J];exact⟨a,cap,hx,hc,hN,hb,E⟩
 have L:Calls prog 86 #[.pointer (some ⟨b,0,none⟩)] W fun e w'=>NdG w b W (stD x (q0l y k.D)).N [] e w':=by
  obtain⟨Y,Z,X⟩:=x;rcases K with⟨C,G,_⟩|⟨C,_,_⟩
  ·dsimp only at C G;subst C;have O:=q5q G;rw[q0c]at O;exact j6f B.1 Q O W P
  ·dsimp only at C;subst C;exact v3r B.1 Q W P
 refine L.mono ?_;rintro e w'⟨A,c,rfl,C,U⟩;exact⟨A,c,rfl,C.down hb.size,hb.trans ((U.bt.mono hb.size).W E)⟩
theorem j6a(t:List Td)(a:Option Addr)(cap:Nat)(w:World)(ht:j1n w)(h:q0b t=0)(h9:opT t≠9)(hc:t.length<=cap)(hN:Tds w a t):Calls prog 47 #[.slice a t.length cap] w fun e w'=>z3i t e w'/\Below w w w':=by
 have B:Hid (∀(W:World)(b:Nat),w.heap.size<=b->W.heap[b]?=some (.cells #[.slice a t.length cap] 144 (0,0))->Below w w W->Calls prog 86 #[.pointer (some ⟨b,0,none⟩)] W fun e w'=>NdR w (q0q t).N e w'):=fun W b hlt hx hb=>j6e ht h h9 hc hN hlt hx hb
 have I:=(z6c h h9).n;by_cases K:400<(q0q t).N.length
 ·obtain⟨G,C,_,_⟩:=v3i h h9 K;have J:Hid (∀W,z3i t (.returned (.tuple #[.slice none 0 0,q1v 3])) W):=fun W=>⟨none,0,by rw[G,C];rfl,by rw[C];exact fun i hi=>by simp at hi,by rw[C];exact Nat.le_refl _⟩
  generalize(q0q t).N=xs at B K I
  have O:(400:Int)<(xs.length:Int):=by omega
  clear h h9 G C hN ht;go_in;go_wp2_with fail;refine(B.o _ _ Zl (heap_alloc_new w _) (q4b w _)).mono ?_;rintro e L⟨A,c,rfl,H,E⟩;have D:Hid (Below w w L):=E;clear H E;go_wp2;go_ret2;exact⟨J.o _,D.o⟩
 ·obtain⟨G,C,_,_⟩:=y0m h h9 K;have J:Hid (∀A c W,q1p W A (q0q t).N->(q0q t).N.length<=c->z3i t (.returned (.tuple #[.slice A (q0q t).N.length c,q1v 0])) W):=fun A c W h h2=>⟨A,c,by rw[G,C],by rw[C];exact h,by rw[C];exact h2⟩
  generalize(q0q t).N=xs at B K I J
  have O:¬(400:Int)<(xs.length:Int):=by omega
  clear h h9 G C hN ht;go_in;go_wp2_with fail;refine(B.o _ _ Zl (heap_alloc_new w _) (q4b w _)).mono ?_;rintro e L⟨A,c,rfl,H,E⟩;have D:Hid (Below w w L):=E;have M:=hid (J.o A c L H.nods (k7n H).2.1);clear H E;go_wp2;go_ret2;exact⟨M.o,D.o⟩
theorem z2q(l:List UInt8):(wbS l).size=l.length:=by rw[<-q0c];rfl
def pgE(t:List Td):Int:=if opT t=9 then 0 else if 400<(q0q t).N.length then 3 else 0
theorem k4q{t:List Td}{wd:Int}(hw:¬(wd<10\/100<wd))(h:q0b t=0):z2v t wd=pgE t:=by
 rw[z2v,if_neg hw,if_neg (by simp[h])];rfl
theorem z9d{t:List Td}(h9:opT t=9):pgE t=0:=by rw[pgE,if_pos h9]
theorem k4x{t:List Td}(h:q0b t=0)(h9:opT t≠9):pgE t=q9d t:=by
 have e:q9d t=if opT t=9 then 2 else if 400<(q0q t).N.length then 3 else 0:=by rw[q9d,if_neg (by simp[h])]
 rw[e,if_neg h9,pgE,if_neg h9]
def k4r(t:List Td)(wd:Int):ByteArray:=if z2v t wd=0 then wbS (z3g wd.toNat t)else⟨#[]⟩
def fmE:List (List Td)->Int
 | []=>0
 | t::r=>if pgE t≠0 then pgE t else fmE r
theorem k6l{t:List Td}{r:List (List Td)}(h:pgE t=0):fmE (t::r)=fmE r:=by rw[fmE,if_neg (by simp[h])]
theorem j4j{t:List Td}{r:List (List Td)}(h:pgE t≠0):fmE (t::r)=pgE t:=by rw[fmE,if_pos h]
inductive z5t (s:ByteArray) (wd:Int):ByteArray->Int->Int->Prop where
 | range (h:wd<10\/100<wd):z5t s wd ⟨#[]⟩ 0 1
 | bad {ps k f} (h:¬(wd<10\/100<wd)) (hp:q6r s ps k f) (hf:f≠0):z5t s wd ⟨#[]⟩ k f
 | full {ps} (h:¬(wd<10\/100<wd)) (hp:q6r s ps 0 0) (hf:fmE ps≠0):z5t s wd ⟨#[]⟩ 0 (fmE ps)
 | ok {ps} (h:¬(wd<10\/100<wd)) (hp:q6r s ps 0 0) (hf:fmE ps=0):z5t s wd (wbS (q9k wd.toNat ps)) 0 0
theorem v2z{s t:ByteArray}{wd:Int}{ps:List (List Td)}(hs:q6r s ps 0 0)(ht:q6r t ps 0 0){a b:ByteArray}{k k' f f':Int}(ha:z5t s wd a k f)(hb:z5t t wd b k' f'):a=b/\k=k'/\f=f':=by
 cases ha with
 | range h=>cases hb with
  | range=>exact⟨rfl,rfl,rfl⟩
  | bad h'=>exact absurd h h'
  | full h'=>exact absurd h h'
  | ok h'=>exact absurd h h'
 | bad h hp hf=>exact absurd (q2z hp hs).2.2 hf
 | full h hp hf=>cases hb with
  | range h'=>exact absurd h' h
  | bad h' hp' hf'=>exact absurd (q2z hp' ht).2.2 hf'
  | full h' hp' hf'=>
   obtain⟨rfl,_⟩:=q2z hp hs;obtain⟨rfl,_⟩:=q2z hp' ht;exact⟨rfl,rfl,rfl⟩
  | ok h' hp' hf'=>
   obtain⟨rfl,_⟩:=q2z hp hs;obtain⟨rfl,_⟩:=q2z hp' ht;exact absurd hf' hf
 | ok h hp hf=>cases hb with
  | range h'=>exact absurd h' h
  | bad h' hp' hf'=>exact absurd (q2z hp' ht).2.2 hf'
  | full h' hp' hf'=>
   obtain⟨rfl,_⟩:=q2z hp hs;obtain⟨rfl,_⟩:=q2z hp' ht;exact absurd hf hf'
  | ok h' hp' hf'=>
   obtain⟨rfl,_⟩:=q2z hp hs;obtain⟨rfl,_⟩:=q2z hp' ht;exact⟨rfl,rfl,rfl⟩
theorem q6w{s:ByteArray}{wd:Int}{a b:ByteArray}{k k' f f':Int}(ha:z5t s wd a k f)(hb:z5t s wd b k' f'):a=b/\k=k'/\f=f':=by
 have A:∀{ps:List (List Td)},q6r s ps 0 0->a=b/\k=k'/\f=f':=fun hp=>v2z hp hp ha hb
 cases ha with
 | range h=>cases hb with
  | range=>exact⟨rfl,rfl,rfl⟩
  | bad h'=>exact absurd h h'
  | full h' hp' _=>exact A hp'
  | ok h' hp' _=>exact A hp'
 | bad h hp hf=>cases hb with
  | range h'=>exact absurd h' h
  | bad h' hp' hf'=>
   obtain⟨_,rfl,rfl⟩:=q2z hp hp';exact⟨rfl,rfl,rfl⟩
  | full h' hp' _=>exact A hp'
  | ok h' hp' _=>exact A hp'
 | full h hp hf=>exact A hp
 | ok h hp hf=>exact A hp
theorem q4s{s:ByteArray}{ps:List (List Td)}{k:Int}(h:q6r s ps k 0):k=0/\(q0r ps).2=0/\ps.length<=20/\∀t∈ps,q0b t=0:=by
 generalize A:(0:Int)=z at h;cases h with
 | lex h1=>exact absurd A.symm h1
 | bad=>cases A
 | full _ _ h1=>exact absurd A.symm h1
 | ok h1 h2 h3=>exact⟨rfl,h3,(k4z h3).1,k4p _ _ (k4z h3).2⟩
theorem z8g(wd:Nat):∀(n:Nat)(ws:List ByteArray),ws.length<=n->Few ws->∀l∈q1s wd ws,l.size<=1260
 | 0,ws,h,hF,l,hl=>by
  have:ws=[]:=List.eq_nil_of_length_eq_zero (by omega)
  subst this;rw[q4f]at hl;cases hl
 | n+1,ws,h,hF,l,hl=>by
  by_cases h0:ws=[]
  ·subst h0;rw[q4f]at hl;cases hl
  ·have hp:=z1l wd h0;rw[q3v wd h0]at hl;rcases List.mem_cons.1 hl with rfl|hl
   ·rw[z3d];exact(hF.take _).ln
   ·exact z8g wd n (ws.drop (agF wd ws)) (by simp only[List.length_drop];omega) (hF.drop _) l hl
abbrev ntF(l:ByteArray):List UInt8:=35::32::(btL l++[10])
theorem k3p{f:ByteArray->List UInt8}{b:Nat}:∀(ls:List ByteArray),(∀l∈ls,(f l).length<=b)->(ls.flatMap f).length<=ls.length*b
 | [],_=>by simp
 | l::r,h=>by
  have h1:=k3p r fun x hx=>h x (by simp[hx])
  have h2:=h l (by simp);rw[List.flatMap_cons,List.length_append,List.length_cons,Nat.add_mul];omega
theorem z8v{tx:ByteArray}(h:q2x tx=0):Few ((q0e (btL tx)).map wbS):=v7a h
theorem j7u{tx:ByteArray}(h:q2x tx=0)(wd:Nat):(ntL wd tx).length<=100000:=by
 have A:=z8v h;rw[ntL]
 split
 ·simp
 ·have B:=q7x (wd-2) _ ((q0e (btL tx)).map wbS) Zl
  have C:=k3p (f:=ntF) (b:=1300) (q1s (wd-2) ((q0e (btL tx)).map wbS)) fun l hl=>by
   have:=z8g (wd-2) _ _ Zl A l hl
   simp only[ntF,List.length_cons,List.length_append,List.length_nil,q0c];omega
  have D:=A.1
  show((q1s (wd-2) ((q0e (btL tx)).map wbS)).flatMap ntF).length<=100000
  have E:(q1s (wd-2) ((q0e (btL tx)).map wbS)).length*1300<=60*1300:=Nat.mul_le_mul_right _ (by omega);omega
theorem j5l{t:List Td}(h:q9d t=0){ws:List Int}{r:List UInt8}(hs:(q0q t).show ws=.ok r):r.length<=2000000:=by
 obtain⟨C,D,H,I⟩:=j5m h;unfold Tr.show at hs
 split at hs
 ·cases B:(q0q t).lay 0 ws with
  | error e=>rw[B]at hs;cases hs
  | ok p=>
   obtain⟨E,A⟩:=p;rw[B]at hs;have G:=q5t _ 0 ws E A (z6c C D).w B (by omega);cases A with
   | nil=>
    cases hs;omega
   | cons a b=>cases hs
 ·cases hs
theorem v9s{t:List Td}(h:q9d t=0)(wd:Nat):(dcL wd t).length<=2000001:=by
 obtain⟨u,_,e,A,_⟩:=v4f (t:=t) wd
 have:=j5l h A
 rw[e,List.length_append];simp only[List.length_cons,List.length_nil];omega
theorem z4n{t:List Td}(h:q0b t=0)(h9:opT t=9)(wd:Nat):z3g wd t=ntL wd (txT t):=by
 obtain⟨x,rfl,A,_⟩:=k1x h h9;rw[z3g,if_pos A];rfl
theorem z8y{t:List Td}(h:q0b t=0)(h9:opT t≠9)(wd:Nat):z3g wd t=dcL wd t:=by
 cases t with
 | nil=>exact absurd h (by decide)
 | cons x r=>exact if_neg (show ¬x.op=9 from h9)
theorem j8f{t:List Td}(h:q0b t=0)(hp:pgE t=0)(wd:Nat):(z3g wd t).length<=2000001:=by
 by_cases A:opT t=9
 ·rw[z4n h A];obtain⟨x,rfl,_,B,_⟩:=k1x h A
  have:=j7u B wd
  show(ntL wd x.tx).length<=2000001
  omega
 ·rw[z8y h A];exact v9s (by rw[<-k4x h A];exact hp) wd
end Go.Proofs.YtfdppahhbpfnoaaGreatDoor
namespace Go.Proofs.YtfdppahhbpfnoaaGreatDoor
open Go Go.ChangeShapes Go.WideShapes Go.RowKit
theorem v3h:laidOutB prog=true:=by kernel_rfl
theorem j2z:prog.cellsOf 47=3:=by kernel_rfl
theorem v9o:prog.cellsOf 3=1:=by kernel_rfl
theorem v9p:prog.cellsOf 9=1:=by kernel_rfl
theorem j1y(b o n:Nat):(⟨b,o,none⟩:Addr).add n=⟨b,o+n,none⟩:=by
 unfold Addr.add
 split
 ·rename_i h;subst h;rfl
 ·rfl
theorem v8h{α:Type}{l:List α}(h:l.length=3):∃a b c,l=[a,b,c]:=by
 match l,h with
 | [a,b,c],_=>exact⟨a,b,c,rfl⟩
theorem k0l{H:Type}{d:DataW H}{l:List (DataW H)}(h:d∈l):Rows.uptoBulk d<=Rows.uptoBulkAll l:=by
 induction l with
 | nil=>cases h
 | cons x r ih=>
  simp only[Rows.uptoBulkAll];cases List.mem_cons.1 h with
  | inl e=>subst e;omega
  | inr e=>have:=ih e;omega
theorem k8v{H:Type}{d:DataW H}{l s:List (DataW H)}(h:d∈l):Rows.uptoBulk d<=Rows.uptoBulk (.slice l s):=by
 have:=k0l h
 simp only[Rows.uptoBulk];omega
section
variable {H:Type} {enc:TypeId × Value→H} {W:World}
theorem z1e{P:Program}{e:TypeId}:∀{l:List (DataW H)}{d:DataW H},d∈l->∀n∈d.weights P e,n∈DataW.weightsAll P e l
 | d'::r,d,hd,n,hn=>by
  simp only[DataW.weightsAll,List.mem_append];rcases List.mem_cons.1 hd with rfl|h
  ·exact Or.inl hn
  ·exact Or.inr (z1e h n hn)
theorem k4u{M:Nat}{a0:Option Addr}{l0 c0:Nat}{d:DataW H}{p:List MemPlace}(hf:DataW.trod enc prog W 0 (fun _=>true) true M 22 [.slice a0 l0 c0]=some (d,p)):
  ∃ds:List Td,l0=ds.length/\ds.length<=c0/\Tds W a0 ds/\∀x∈ds,x.tx.size<=Rows.uptoBulk d/\x.tx.size∈d.weights prog 22:=by
 rcases Deep.open_slice Tryz.underlying22 hf with⟨N,_⟩|⟨a,Ac,u,m,n,D,Pl,N,_,r,_,hm,hd,P⟩
 ·simp only[List.cons.injEq,and_true,Value.slice.injEq]at N;obtain⟨rfl,rfl,rfl⟩:=N;exact⟨[],rfl,Nat.le_refl _,fun i G=>by simp at G,fun x P=>by cases P⟩
 ·simp only[List.cons.injEq,and_true,Value.slice.injEq]at N;obtain⟨rfl,rfl,rfl⟩:=N;have Aa:l0<=m:=by rw[hm];simp only[if_true];exact r
  have L:∀i,i<l0->∃x:Td,W.cell? ((a.add (i*3)).add 0)=some (.int .i64 x.op)/\W.cell? ((a.add (i*3)).add 1)=some (.string x.tx)/\W.cell? ((a.add (i*3)).add 2)=some (.int .i64 x.n)/\x.tx.size<=Rows.uptoBulk (D i)/\x.tx.size∈(D i).weights prog 47:=by
   intro i G;obtain⟨v,l,w⟩:=P i (by omega);rw[j2z]at l;obtain⟨_,I,A⟩:=World.cells?_some l;obtain⟨xs,k,_,X,_,Q,J⟩:=DataW.trod_struct Tryz.underlying47 w;have B:=J 0 _ rfl;have C:=J 1 _ rfl;have E:=J 2 _ rfl;obtain⟨y0,y1,y2,rfl⟩:=v8h Q;obtain⟨v0,v1,v2,rfl⟩:=v8h I;clear Q I;simp[v9o,v9p]at B C E;obtain⟨z0,f,_,_⟩:=DataW.trod_int Tryz.underlying3 B;obtain⟨Y,g,S,_⟩:=DataW.trod_string Tryz.underlying9 C;obtain⟨z2,h,_,_⟩:=DataW.trod_int Tryz.underlying3 E;simp only[List.cons.injEq,and_true]at f g h;subst f g h;refine⟨⟨z0,Y,z2⟩,A 0 (by omega),A 1 (by omega),A 2 (by omega),?_⟩;have z:D i=.agg ([y0,y1,y2].map (·.1)):=(Prod.mk.inj X).1;rw[z,S];have e:Y.data.toList.length=Y.size:=by rw[Array.length_toList];rfl
   refine⟨?_,?_⟩
   ·simp only[List.map_cons,List.map_nil,Rows.uptoBulk,Rows.uptoBulkAll];omega
   ·simp only[DataW.weights,Tryz.underlying47];refine DataW.weights_mem_each (j:=1) (t:=9) rfl rfl _ ?_;rw[<-e];exact List.mem_singleton.2 rfl
  have Ab:Inhabited Td:=⟨⟨0,⟨#[]⟩,0⟩⟩;obtain⟨q,V⟩:=Deep.choose_lt L;refine⟨(List.range l0).map q,by simp,by simpa using r,?_,?_⟩
  ·intro i G;have K:i<l0:=by simpa using G
   obtain⟨c0,Z,c,_,_⟩:=V i K;obtain⟨R,_,_,_,_⟩:=V 0 (by omega)
   have s:a.spot=none:=by
    have:=World.cell?_spot R
    simpa[Addr.add]using this
   obtain⟨b,o,sp⟩:=a;simp only at s;subst s;simp only[j1y,Nat.add_zero]at c0 Z c
   have hb:b<W.heap.size:=by
    rcases Nat.lt_or_ge b W.heap.size with U|U
    ·exact U
    ·simp[World.cell?,Array.getElem?_eq_none U]at c0
   refine⟨b,o,rfl,hb,?_,?_,?_⟩
   ·simpa using c0
   ·simpa using Z
   ·simpa using c
  ·intro x P;obtain⟨i,G,rfl⟩:=List.mem_map.1 P;have K:=List.mem_range.1 G;obtain⟨_,_,_,h4,y⟩:=V i K;have O:d=_:=(Prod.mk.inj hd).1
   have h5:Rows.uptoBulk (D i)<=Rows.uptoBulk d:=by
    rw[O];exact k8v (List.mem_map.2 ⟨i,G,rfl⟩)
   refine⟨by omega,?_⟩;rw[O];simp only[DataW.weights,Tryz.underlying22];exact List.mem_cons_of_mem _ (List.mem_append_left _ (z1e (List.mem_map.2 ⟨i,G,rfl⟩) _ y))
theorem k4t{A:Nat}{a0:Option Addr}{l0 c0:Nat}{d:DataW H}{p:List MemPlace}(hf:DataW.trod enc prog W 0 (fun _=>true) true A 22 [.slice a0 l0 c0]=some (d,p)):
  ∃ds:List Td,l0=ds.length/\ds.length<=c0/\Tds W a0 ds/\∀x∈ds,x.tx.size<=Rows.uptoBulk d:=by
 obtain⟨ds,B,C,D,E⟩:=k4u hf;exact⟨ds,B,C,D,fun x hx=>(E x hx).1⟩
theorem j0e{a0:Option Addr}{l0 c0:Nat}{d:DataW H}{p:List MemPlace}(h:DataW.Trod enc prog W 0 (fun _=>true) true 22 (.slice a0 l0 c0) d p):
  ∃ds:List Td,l0=ds.length/\ds.length<=c0/\Tds W a0 ds/\∀x∈ds,x.tx.size<=Rows.uptoBulk d:=by
 obtain⟨A,B⟩:=h;exact k4t B
end
end Go.Proofs.YtfdppahhbpfnoaaGreatDoor
