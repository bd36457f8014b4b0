import Derived.Test.YtfdppahhbpfnoaaGreatDoorPi33
import Derived.Test.YtfdppahhbpfnoaaGreatDoorPi34
open Go.Proofs.Tryz
namespace Go.Proofs.YtfdppahhbpfnoaaGreatDoor
open Go Go.RowKit
set_option maxRecDepth 100000
set_option maxHeartbeats 2000000
theorem j9j:∀W:List Wd,(∀w∈W,w.length<=20)->szW W<=21*W.length
 | [],_=>Nat.le_refl _
 | x::r,h=>by
  have h1:=j9j r fun w hw=>h w (by simp[hw])
  have h2:=h x (by simp);rw[q2j,List.length_cons];omega
theorem z8w{tx:ByteArray}(h:q2x tx=0):Lib.fields (btL tx)=q0e (btL tx)/\(btL tx).length<=2000/\∀b∈btL tx,b.toNat<128:=by
 obtain⟨I,E⟩:=j7t h;by_cases B:btL tx=[]
 ·rw[B];exact⟨rfl,by simp,fun b A=>by cases A⟩
 ·have H:q0e (btL tx)=q5n (btL tx):=by rw[q0e,if_neg B]
  rw[H]at I E⊢;have G:=j5b (btL tx)
  have C:∀b∈btL tx,prB b=true:=by
   intro b A;rw[<-G]at A;refine k6q (p:=prB) rfl (q5n (btL tx)) (fun w D b A=>?_) b A;have J:=(E w D).2.2 b A;simp only[q8h,Bool.and_eq_true,decide_eq_true_eq]at J;simp only[prB,Bool.and_eq_true,decide_eq_true_eq];omega
  refine⟨?_,?_,fun b A=>?_⟩
  ·rw[z1q fun b A hs=>y4w (C b A) hs,List.filter_eq_self];intro w D
   have:=(E w D).1
   cases w with
   | nil=>exact absurd rfl this
   | cons=>rfl
  ·have K:=y0i (q5n (btL tx));have L:=j9j (q5n (btL tx)) fun w D=>(E w D).2.1
   rw[G]at K;omega
  ·have:=C b A
   simp only[prB,Bool.and_eq_true,decide_eq_true_eq]at this;omega
theorem k4c{tx:ByteArray}(h:q2x tx=0)(w:World)(ht:z2u w):Calls prog 103 #[.string tx] w fun e w'=>(∃g,e=.returned (.slice (some ⟨g,0,none⟩) (q0e (btL tx)).length (q0e (btL tx)).length)/\Wds w' (some ⟨g,0,none⟩) ((q0e (btL tx)).map wbS))/\Below w w w':=by
 obtain⟨B,C,D⟩:=z8w h;rw[<-B];rw[q0c]at C;refine(fields_sh tx w (by omega) (fun j c hj=>D c (List.mem_of_getElem? hj)) ht.spc).mono ?_;rintro e w'⟨rfl,rfl⟩;refine⟨⟨w.heap.size,rfl,?_⟩,q4b w _⟩;intro i E;have A:i<(Lib.fields (btL tx)).length:=by simpa using E
 refine⟨w.heap.size,0,rfl,by rw[World.size_alloc];omega,?_⟩;rw[Nat.zero_add];have G:=heap_alloc_new w (.cells ((Lib.fields (btL tx)).map fun l=>Value.string ⟨l.toArray⟩).toArray 9);rw[Lib.cell_of_heap G]
 show((Lib.fields (btL tx)).map fun l=>Value.string ⟨l.toArray⟩).toArray[i]?=_
 rw[List.getElem?_toArray,List.getElem?_map,show(Lib.fields (btL tx))[i]?=some (Lib.fields (btL tx))[i]from List.getElem?_eq_getElem A];simp[wbS]
theorem z4p{t:List Td}{a:Option Addr}{w:World}(h:q0b t=0)(hN:Tds w a t):0<t.length/\∃b o,a=some ⟨b,o,none⟩/\b<w.heap.size/\w.cell? ⟨b,o,none⟩=some (.int .i64 (opT t))/\w.cell? ⟨b,o+1,none⟩=some (.string (txT t)):=by
 have A:=z0z h;obtain⟨b,o,e,D,B,C,_⟩:=hN 0 A;refine⟨A,b,o,e,D,?_,?_⟩
 ·rw[z4o A];simpa using B
 ·cases t with
  | nil=>simp at A
  | cons x r=>simpa[txT]using C
theorem z4j{b o cap n:Nat}{op:Int}{w:World}(hn:0<n)(h:w.cell? ⟨b,o,none⟩=some (.int .i64 op)):Calls prog 46 #[.slice (some ⟨b,o,none⟩) n cap] w fun e w'=>e=.returned (.bool (op==9))/\w=w':=by
 have A:(0:Int)<(n:Int):=by omega
 go_in;go_wp2;go_ret;exact⟨rfl,rfl⟩
theorem k9r(t:List Td)(a:Option Addr)(cap:Nat)(w:World)(ht:j1n w)(hc:t.length<=cap)(hN:Tds w a t)(M:k8g t):Calls prog 18 #[.slice a t.length cap] w fun e w'=>z3i t e w'/\Below w w w':=by
 have O:Hid (Calls prog 29 #[.slice a t.length cap] w fun e w'=>e=.returned (q1v (q0b t))/\Below w w w'):=q7h t a cap w hc hN M;have S:Hid (Tds w a t):=hN;have d:Hid (j1n w):=ht;clear hN M ht;by_cases D:q0b t=0
 ·obtain⟨L,b,o,rfl,g,V,f⟩:=z4p D S.o;have P:Hid (∀W:World,Below w w W->Calls prog 46 #[.slice (some ⟨b,o,none⟩) t.length cap] W fun e w'=>e=.returned (.bool (opT t==9))/\W=w'):=fun W h=>z4j L (((q1y h).1 _ _ g).trans V)
  rw[D]at O;clear V f;by_cases I:opT t=9
  ·obtain⟨K,C,_,_⟩:=z8m D I;have G:Hid (∀W,z3i t (.returned (.tuple #[.slice none 0 0,q1v 2])) W):=fun W=>⟨none,0,by rw[K,C];rfl,by rw[C];exact fun i hi=>by simp at hi,by rw[C];exact Nat.le_refl _⟩
   rw[show(opT t==9)=true by simp[I]]at P;clear D I K C;go_in;go_wp2_with fail;refine O.o.mono ?_;rintro e N⟨rfl,H⟩;rw[q1l];have B:Hid (Below w w N):=H;clear H;go_wp2_with fail;refine(P.o _ B.o).mono ?_;rintro e j⟨rfl,rfl⟩;go_wp2;go_ret2;exact⟨G.o _,B.o⟩
  ·have E:Hid (∀W:World,Below w w W->Calls prog 47 #[.slice (some ⟨b,o,none⟩) t.length cap] W fun e w'=>(∃A c,e=.returned (.tuple #[.slice A (q8q t).length c,q1v (q9d t)])/\q1p w' A (q8q t)/\(q8q t).length<=c)/\Below W W w'):=fun W h=>j6a t _ cap W (d.o.W h) D I hc (S.o.W h)
   have G:Hid (∀A c W,q1p W A (q8q t)->(q8q t).length<=c->z3i t (.returned (.tuple #[.slice A (q8q t).length c,q1v (q9d t)])) W):=fun A c W h h2=>⟨A,c,rfl,h,h2⟩
   rw[show(opT t==9)=false by simp[I]]at P;generalize q8q t=xs at E G;generalize q1v (q9d t)=er at E G;clear D I;go_in;go_wp2_with fail;refine O.o.mono ?_;rintro e N⟨rfl,H⟩;rw[q1l];have B:Hid (Below w w N):=H;clear H;go_wp2_with fail;refine(P.o _ B.o).mono ?_;rintro e j⟨rfl,rfl⟩;go_wp2_with fail;refine(E.o _ B.o).mono ?_;rintro e Z⟨⟨A,c,rfl,X,Y⟩,U⟩;have Q:Hid (Below w w Z):=q0d B.o Zl U;have J:=hid (G.o A c Z X Y);clear X Y U;generalize xs.length=nx at J⊢;go_wp2;go_ret2;exact⟨J.o,Q.o⟩
 ·obtain⟨K,C,_,_⟩:=j5j D;have R:Hid (q1v (q0b t)=.iface 23 (.int .i64 (q0b t))):=q0t D;have G:Hid (∀W,z3i t (.returned (.tuple #[.slice none 0 0,q1v (q0b t)])) W):=fun W=>⟨none,0,by rw[K,C];rfl,by rw[C];exact fun i hi=>by simp at hi,by rw[C];exact Nat.le_refl _⟩
  clear K C D;go_in;go_wp2_with fail;refine O.o.mono ?_;rintro e N⟨rfl,H⟩;rw[R.o];go_wp2;go_ret2;exact⟨by have:=G.o N;rw[R.o]at this;exact this,H⟩
theorem k4n{t:List Td}(h:q0b t=0)(h9:opT t=9):q2x (txT t)=0:=by
 rcases z9j h with⟨x,rfl,_,_,A⟩|⟨x,F,rfl,_,_,_,C⟩
 ·exact A
 ·exfalso;have e:opT (x::F.N)=x.op:=rfl;rcases C with⟨B,_⟩|⟨B,_⟩<;>omega
theorem k3z(t:List Td)(a:Option Addr)(cap:Nat)(w:World)(ht:z2u w)(hc:t.length<=cap)(hN:Tds w a t)(R:k8g t):Calls prog 68 #[.slice a t.length cap] w fun e w'=>z7n t e w'/\Below w w w':=by
 have S:Hid (Calls prog 29 #[.slice a t.length cap] w fun e w'=>e=.returned (q1v (q0b t))/\Below w w w'):=q7h t a cap w hc hN R;have n:Hid (Tds w a t):=hN;have p:Hid (z2u w):=ht;clear hN R ht;by_cases D:q0b t=0
 ·obtain⟨Q,b,o,rfl,l,j,V⟩:=z4p D n.o;have U:Hid (∀W:World,Below w w W->Calls prog 46 #[.slice (some ⟨b,o,none⟩) t.length cap] W fun e w'=>e=.returned (.bool (opT t==9))/\W=w'):=fun W h=>z4j Q (((q1y h).1 _ _ l).trans j)
  have H:Hid (∀W:World,Below w w W->W.cell? ⟨b,o+1,none⟩=some (.string (txT t))):=fun W h=>((q1y h).1 _ _ l).trans V
  rw[D]at S;have q:(0:Int)<(t.length:Int):=by omega
  clear j V;by_cases J:opT t=9
  ·obtain⟨_,_,G,B⟩:=z8m D J;have K:=k4n D J;have Y:(txT t).size<=2000:=by rw[<-q0c];exact(z8w K).2.1
   have O:Hid (∀W:World,Calls prog 78 #[.string (txT t)] W fun e w'=>e=.returned (.string (txT t))/\Below W W w'):=fun W=>q8p _ W (by omega)
   have I:Hid (∀W:World,Below w w W->Calls prog 103 #[.string (txT t)] W fun e w'=>(∃g,e=.returned (.slice (some ⟨g,0,none⟩) (q0e (btL (txT t))).length (q0e (btL (txT t))).length)/\Wds w' (some ⟨g,0,none⟩) ((q0e (btL (txT t))).map wbS))/\Below W W w'):=fun W h=>k4c K W (p.o.W h)
   have L:Hid (∀A c W,Wds W A ((q0e (btL (txT t))).map wbS)->(q0e (btL (txT t))).length<=c->z7n t (.returned (.tuple #[.slice A (q0e (btL (txT t))).length c,q1v 0])) W):=fun A c W h h2=>⟨A,c,by rw[G,B,List.length_map],by rw[B];exact h,by rw[B,List.length_map];exact h2⟩
   rw[show(opT t==9)=true by simp[J]]at U;generalize q0e (btL (txT t))=ws at I L;generalize txT t=tx at I H O;clear D J G B Y K;go_in;go_wp2_with fail;refine S.o.mono ?_;rintro e M⟨rfl,E⟩;rw[q1l];have V:=H.o M E;have C:Hid (Below w w M):=E;clear E;go_wp2_with fail;refine(U.o _ C.o).mono ?_;rintro e r⟨rfl,rfl⟩;go_wp2_with fail;refine(O.o _).mono ?_;rintro e s⟨rfl,d⟩;have N:Hid (Below w w s):=q0d C.o Zl d;clear d;go_wp2_with fail;refine(I.o _ N.o).mono ?_;rintro e m⟨⟨g,rfl,k⟩,f⟩;have X:Hid (Below w w m):=q0d N.o Zl f;have P:=hid (L.o _ ws.length m k Zl);clear k f V;generalize ws.length=nw at P⊢;go_wp2;go_ret2;exact⟨P.o,X.o⟩
  ·have L:Hid (∀W,z7n t (.returned (.tuple #[.slice none 0 0,q1v 2])) W):=fun W=>by
    have G:k2v t=2:=by rw[k2v,if_neg (by simp[D]),if_neg J]
    have B:k9s t=[]:=by rw[k9s,if_neg (by rw[G];decide)]
    exact⟨none,0,by rw[G,B];rfl,by rw[B];exact fun i hi=>by simp at hi,by rw[B];exact Nat.le_refl _⟩
   rw[show(opT t==9)=false by simp[J]]at U;clear D J H;go_in;go_wp2_with fail;refine S.o.mono ?_;rintro e M⟨rfl,E⟩;rw[q1l];have C:Hid (Below w w M):=E;clear E;go_wp2_with fail;refine(U.o _ C.o).mono ?_;rintro e r⟨rfl,rfl⟩;go_wp2;go_ret2;exact⟨L.o _,C.o⟩
 ·obtain⟨_,_,G,B⟩:=j5j D;have Z:Hid (q1v (q0b t)=.iface 23 (.int .i64 (q0b t))):=q0t D;have L:Hid (∀W,z7n t (.returned (.tuple #[.slice none 0 0,q1v (q0b t)])) W):=fun W=>⟨none,0,by rw[G,B];rfl,by rw[B];exact fun i hi=>by simp at hi,by rw[B];exact Nat.le_refl _⟩
  clear G B D;go_in;go_wp2_with fail;refine S.o.mono ?_;rintro e M⟨rfl,E⟩;rw[Z.o];go_wp2;go_ret2;exact⟨by have:=L.o M;rw[Z.o]at this;exact this,E⟩
abbrev y3d:Prop:=∀(t:List Td)(a:Option Addr)(cap:Nat)(wd:Int)(w:World),t.length<=cap->Tds w a t->k8g t->z2u w->
 Calls prog 9 #[.slice a t.length cap,.int .i64 wd] w fun e w'=>e=.returned (.tuple #[.string (k4r t wd),q1v (z2v t wd)])/\Below w w w'
def z3j(s:ByteArray)(wd:Int)(w:World)(e:Ending)(w':World):Prop:=∃T k f,e=.returned (.tuple #[.string T,.int .i64 k,q1v f])/\z5t s wd T k f/\Below w w w'
abbrev y2z:Prop:=∀(s:ByteArray)(wd:Int)(w:World),z2u w->Calls prog 13 #[.string s,.int .i64 wd] w fun e w'=>z3j s wd w e w'
theorem z2b{t:List Td}{wd:Int}(h:z2v t wd≠0):k4r t wd=⟨#[]⟩:=by rw[k4r,if_neg h]
theorem k4s{t:List Td}{n:Nat}(h:z2v t (n:Int)=0):k4r t (n:Int)=wbS (z3g n t):=by rw[k4r,if_pos h];rfl
theorem k7d{n:Nat}(h1:10<=n)(h2:n<=100):¬((n:Int)<10\/100<(n:Int)):=by omega
end Go.Proofs.YtfdppahhbpfnoaaGreatDoor
