import Derived.Test.YtfdppahhbpfnoaaGreatDoorPi04
import Derived.Test.YtfdppahhbpfnoaaGreatDoorPi05
import Derived.Deep.RegionHeld3
import Derived.Deep.DeepCutAuto
import Derived.BigQuiet
import Derived.BigRegion
open Go.Proofs.Tryz
namespace Go.Proofs.YtfdppahhbpfnoaaGreatDoor
open Go Go.RowKit
structure Q where
 op:Int
 tx:ByteArray
 n:Int
 en:Int
 nx:Int
 dp:Int
 lg:Int
def q0:Q:=⟨0,⟨#[]⟩,0,0,0,0,0⟩
def q1(r:Pl):Q:=⟨r.nd.op,r.nd.tx,r.nd.n,r.en,0,0,0⟩
def q2(r:Pl):Q:=⟨r.nd.op,r.nd.tx,r.nd.n,r.en,r.nx,r.dp,r.lg⟩
structure z3l(w:World)(g j:Nat)(q:Q):Prop where
 c0:w.cell? ⟨g,j*7,none⟩=some (.int .i64 q.op)
 c1:w.cell? ⟨g,j*7+1,none⟩=some (.string q.tx)
 c2:w.cell? ⟨g,j*7+2,none⟩=some (.int .i64 q.n)
 c3:w.cell? ⟨g,j*7+3,none⟩=some (.int .i64 q.en)
 c4:w.cell? ⟨g,j*7+4,none⟩=some (.int .i64 q.nx)
 c5:w.cell? ⟨g,j*7+5,none⟩=some (.int .i64 q.dp)
 c6:w.cell? ⟨g,j*7+6,none⟩=some (.int .i64 q.lg)
def q7u(w:World)(b:Nat):Prop:=∃cs T,w.heap[b]?=some (.cells cs T (0,0))
theorem q7u.frozen{w:World}{b i:Nat}(h:q7u w b):w.frozen? ⟨b,i,none⟩=false:=by
 obtain⟨A,T,h⟩:=h;simp[World.frozen?,h]
theorem q7u.lt{w:World}{b:Nat}(h:q7u w b):b<w.heap.size:=by
 obtain⟨B,T,h⟩:=h;rcases Nat.lt_or_ge b w.heap.size with A|A
 ·exact A
 ·simp[Array.getElem?_eq_none A]at h
theorem q7u.kept{w w':World}{b:Nat}(h:q7u w b)(hb:w'.heap[b]?=w.heap[b]?):q7u w' b:=by
 obtain⟨A,T,h⟩:=h;exact⟨A,T,hb.trans h⟩
theorem q7u.set{w:World}{b c i:Nat}{v:Value}(h:q7u w b):q7u (w.setCell ⟨c,i,none⟩ v) b:=by
 by_cases e:c=b
 ·subst e;obtain⟨A,T,h⟩:=h;exact⟨A.setIfInBounds i v,T,by simp[World.setCell,Array.getElem?_modify,h]⟩
 ·exact h.kept (Below.heap_setCell _ _ _ _ (Ne.symm e))
structure PwR(w:World)(g n:Nat)(F:Nat->Q):Prop where
 get:∀j,j<n->z3l w g j (F j)
 row:q7u w g
theorem z3l.kept{w w':World}{g j:Nat}{q:Q}(h:z3l w g j q)(hb:w'.heap[g]?=w.heap[g]?):z3l w' g j q:=by
 have A:∀k,w'.cell? ⟨g,k,none⟩=w.cell? ⟨g,k,none⟩:=fun k=>World.cell?_of_block (w:=w) (a:=⟨g,k,none⟩) hb
 exact⟨(A _).trans h.c0,(A _).trans h.c1,(A _).trans h.c2,(A _).trans h.c3,(A _).trans h.c4,(A _).trans h.c5,(A _).trans h.c6⟩
theorem PwR.kept{w w':World}{g n:Nat}{F:Nat->Q}(h:PwR w g n F)(hb:w'.heap[g]?=w.heap[g]?):PwR w' g n F:=⟨fun j hj=>(h.get j hj).kept hb,h.row.kept hb⟩
theorem PwR.congr{w:World}{g n:Nat}{F G:Nat->Q}(h:PwR w g n F)(e:∀j,j<n->F j=G j):PwR w g n G:=⟨fun j hj=>e j hj ▸ h.get j hj,h.row⟩
theorem z3l.other{w:World}{g j k f:Nat}{q:Q}{v:Value}(h:z3l w g k q)(hf:f<7)(hk:k≠j):z3l (w.setCell ⟨g,j*7+f,none⟩ v) g k q:=
 ⟨(cso (by omega)).trans h.c0,(cso (by omega)).trans h.c1,(cso (by omega)).trans h.c2,(cso (by omega)).trans h.c3,(cso (by omega)).trans h.c4,(cso (by omega)).trans h.c5,(cso (by omega)).trans h.c6⟩
def upd(F:Nat->Q)(j:Nat)(q:Q):Nat->Q:=fun k=>if k=j then q else F k
theorem q0m(F:Nat->Q)(j:Nat)(q:Q):upd F j q j=q:=by simp[upd]
theorem q1j{F:Nat->Q}{j k:Nat}{q:Q}(h:k≠j):upd F j q k=F k:=by simp[upd,h]
theorem PwR.put{w:World}{g n j f:Nat}{F:Nat->Q}{v:Value}{q:Q}(h:PwR w g n F)(hf:f<7)(hq:z3l (w.setCell ⟨g,j*7+f,none⟩ v) g j q):PwR (w.setCell ⟨g,j*7+f,none⟩ v) g n (upd F j q) where
 get k hk:=by
  by_cases e:k=j
  ·subst e;rw[q0m];exact hq
  ·rw[q1j e];exact(h.get k hk).other hf e
 row:=h.row.set
section
variable {w:World} {g n j:Nat} {F:Nat→Q}
theorem PwR.putOp(h:PwR w g n F)(hj:j<n)(x:Int):PwR (w.setCell ⟨g,j*7,none⟩ (.int .i64 x)) g n (upd F j {F j with op:=x}):=by
 have k:=h.get j hj;exact h.put (f:=0) (by omega) ⟨css k.c0,(cso (by omega)).trans k.c1,(cso (by omega)).trans k.c2,(cso (by omega)).trans k.c3,(cso (by omega)).trans k.c4,(cso (by omega)).trans k.c5,(cso (by omega)).trans k.c6⟩
theorem PwR.putTx(h:PwR w g n F)(hj:j<n)(x:ByteArray):PwR (w.setCell ⟨g,j*7+1,none⟩ (.string x)) g n (upd F j {F j with tx:=x}):=by
 have k:=h.get j hj;exact h.put (f:=1) (by omega) ⟨(cso (by omega)).trans k.c0,css k.c1,(cso (by omega)).trans k.c2,(cso (by omega)).trans k.c3,(cso (by omega)).trans k.c4,(cso (by omega)).trans k.c5,(cso (by omega)).trans k.c6⟩
theorem PwR.putN(h:PwR w g n F)(hj:j<n)(x:Int):PwR (w.setCell ⟨g,j*7+2,none⟩ (.int .i64 x)) g n (upd F j {F j with n:=x}):=by
 have k:=h.get j hj;exact h.put (f:=2) (by omega) ⟨(cso (by omega)).trans k.c0,(cso (by omega)).trans k.c1,css k.c2,(cso (by omega)).trans k.c3,(cso (by omega)).trans k.c4,(cso (by omega)).trans k.c5,(cso (by omega)).trans k.c6⟩
theorem PwR.putEn(h:PwR w g n F)(hj:j<n)(x:Int):PwR (w.setCell ⟨g,j*7+3,none⟩ (.int .i64 x)) g n (upd F j {F j with en:=x}):=by
 have k:=h.get j hj;exact h.put (f:=3) (by omega) ⟨(cso (by omega)).trans k.c0,(cso (by omega)).trans k.c1,(cso (by omega)).trans k.c2,css k.c3,(cso (by omega)).trans k.c4,(cso (by omega)).trans k.c5,(cso (by omega)).trans k.c6⟩
theorem PwR.putNx(h:PwR w g n F)(hj:j<n)(x:Int):PwR (w.setCell ⟨g,j*7+4,none⟩ (.int .i64 x)) g n (upd F j {F j with nx:=x}):=by
 have k:=h.get j hj;exact h.put (f:=4) (by omega) ⟨(cso (by omega)).trans k.c0,(cso (by omega)).trans k.c1,(cso (by omega)).trans k.c2,(cso (by omega)).trans k.c3,css k.c4,(cso (by omega)).trans k.c5,(cso (by omega)).trans k.c6⟩
theorem PwR.putDp(h:PwR w g n F)(hj:j<n)(x:Int):PwR (w.setCell ⟨g,j*7+5,none⟩ (.int .i64 x)) g n (upd F j {F j with dp:=x}):=by
 have k:=h.get j hj;exact h.put (f:=5) (by omega) ⟨(cso (by omega)).trans k.c0,(cso (by omega)).trans k.c1,(cso (by omega)).trans k.c2,(cso (by omega)).trans k.c3,(cso (by omega)).trans k.c4,css k.c5,(cso (by omega)).trans k.c6⟩
theorem PwR.putLg(h:PwR w g n F)(hj:j<n)(x:Int):PwR (w.setCell ⟨g,j*7+6,none⟩ (.int .i64 x)) g n (upd F j {F j with lg:=x}):=by
 have k:=h.get j hj;exact h.put (f:=6) (by omega) ⟨(cso (by omega)).trans k.c0,(cso (by omega)).trans k.c1,(cso (by omega)).trans k.c2,(cso (by omega)).trans k.c3,(cso (by omega)).trans k.c4,(cso (by omega)).trans k.c5,css k.c6⟩
end
theorem z9s(F:Nat->Q)(j:Nat)(p q:Q):upd (upd F j p) j q=upd F j q:=by
 funext k
 simp only[upd]
 split<;>rfl
theorem ka{w:World}{b o:Nat}{v:Value}(h:w.cell? ⟨b,o,none⟩=some v)(O:Obj):(w.alloc O).cell? ⟨b,o,none⟩=some v:=
 (((Below.refl _ w).alloc Zl O).cell (p:=⟨b,o,none⟩) (World.block_lt_of_cell? w _ h)).trans h
theorem kaf{w:World}{b o:Nat}(hb:b<w.heap.size)(h:w.frozen? ⟨b,o,none⟩=false)(O:Obj):(w.alloc O).frozen? ⟨b,o,none⟩=false:=
 (((Below.refl _ w).alloc Zl O).frozen (p:=⟨b,o,none⟩) hb).trans h
theorem z5s{i n:Nat}(hn:n<=400)(hi:(i:Int)<n):IntKind.i64.wrap ((i:Int)+1)=(i:Int)+1:=by
 rw[IntKind.wrap_i64];omega
set_option maxRecDepth 100000
set_option maxHeartbeats 4000000
theorem j2k(bp g n i:Nat)(op:Int)(w:World)(hn:n<=400)(hi:(i:Int)<n)
  (c0:w.cell? ⟨bp,0,none⟩=some (.slice (some ⟨g,0,none⟩) n n)) (d1:w.cell? ⟨g,i*7,none⟩=some (.int .i64 op)) (h6:(op==6)=false) (h9:(op==9)=false) (h7:(op==7)=false) (h8:(op==8)=false):
  Calls prog 160 #[.pointer (some ⟨bp,0,none⟩),.int .i64 i] w fun e w'=>e=.returned (.int .i64 ((i:Int)+1))/\∃q,w'=w.drewN q:=by
 have B:=z5s hn hi;have A:(0:Int)<=(i:Int):=by omega
 go_in;go_wp2;go_ret;exact⟨rfl,0,rfl⟩
theorem v1n(bp g n i:Nat)(op x:Int)(w:World)(hn:n<=400)(hi:(i:Int)<n)(B:(i:Int)+1<n)
  (c0:w.cell? ⟨bp,0,none⟩=some (.slice (some ⟨g,0,none⟩) n n)) (d1:w.cell? ⟨g,i*7,none⟩=some (.int .i64 op)) (d2:w.cell? ⟨g,(i+1)*7+3,none⟩=some (.int .i64 x)) (A:op=7\/op=8):
  Calls prog 160 #[.pointer (some ⟨bp,0,none⟩),.int .i64 i] w fun e w'=>e=.returned (.int .i64 x)/\∃q,w'=w.drewN q:=by
 have G:=z5s hn hi;have C:(0:Int)<=(i:Int):=by omega
 have D:(0:Int)<=(i:Int)+1:=by omega
 have E:((i:Int)+1).toNat=i+1:=by omega
 rcases A with rfl|rfl
 all_goals
  go_in;go_wp2;go_ret;exact⟨rfl,0,rfl⟩
theorem v1o(bp g n i j:Nat)(op x:Int)(w:World)(hn:n<=400)(hi:(i:Int)<n)(B:(i:Int)+1<n)(hj:(j:Int)<n)
  (c0:w.cell? ⟨bp,0,none⟩=some (.slice (some ⟨g,0,none⟩) n n)) (d1:w.cell? ⟨g,i*7,none⟩=some (.int .i64 op)) (d2:w.cell? ⟨g,(i+1)*7+3,none⟩=some (.int .i64 (j:Int))) (d3:w.cell? ⟨g,j*7+3,none⟩=some (.int .i64 x)) (A:op=6\/op=9):
  Calls prog 160 #[.pointer (some ⟨bp,0,none⟩),.int .i64 i] w fun e w'=>e=.returned (.int .i64 x)/\∃q,w'=w.drewN q:=by
 have H:=z5s hn hi;have C:(0:Int)<=(i:Int):=by omega
 have D:(0:Int)<=(i:Int)+1:=by omega
 have G:((i:Int)+1).toNat=i+1:=by omega
 have E:(0:Int)<=(j:Int):=by omega
 rcases A with rfl|rfl
 all_goals
  go_in;go_wp2_with fail
  go_quiet (fail)
  go_wp2;go_ret;exact⟨rfl,_,rfl⟩
def y3e(g a b:Nat)(e f:Value)(w w':World):Prop:=
 w'.os=w.os/\w'.tape=w.tape/\w'.output=w.output/\w'.heap=((w.setCell ⟨g,a,none⟩ e).setCell ⟨g,b,none⟩ f).heap
theorem j2x(bp g n i:Nat)(x y:Int)(w:World)(hi:(i:Int)<n)
  (c0:w.cell? ⟨bp,0,none⟩=some (.slice (some ⟨g,0,none⟩) n n)) (y1 y2:Value) (e5:w.cell? ⟨g,i*7+4,none⟩=some y1) (e6:w.cell? ⟨g,i*7+5,none⟩=some y2) (z1:w.frozen? ⟨g,i*7+4,none⟩=false) (z2:w.frozen? ⟨g,i*7+5,none⟩=false):
  Calls prog 193 #[.pointer (some ⟨bp,0,none⟩),.int .i64 i,.int .i64 x,.int .i64 y] w fun e w'=>e=.returned (.tuple #[])/\y3e g (i*7+4) (i*7+5) (.int .i64 x) (.int .i64 y) w w':=by
 have A:(0:Int)<=(i:Int):=by omega
 go_in
 go_region_held3 (fun w'=>w'.cell? ⟨bp,0,none⟩=some (.slice (some ⟨g,0,none⟩) n n))
  (first|exact c0|exact(cso (by omega)).trans c0|exact(cso (by omega)).trans ((cso (by omega)).trans c0)) (fail)
 all_goals
  go_wp2
  go_end0
  exact⟨rfl,rfl,rfl,rfl,rfl⟩
theorem y7d(w:World)(O1 O2 O3:Obj):Below w w (((w.alloc O1).alloc O2).alloc O3):=(((Below.refl _ w).alloc Zl _).alloc (by simp) _).alloc (by simp;omega) _
theorem z1o(bp wd p c k:Nat)(w:World)(hw:wd<=100)(hc:c<=100)(hk:k<=20000)
  (c1:w.cell? ⟨bp,1,none⟩=some (.int .i64 wd)):
  Calls prog 237 #[.pointer (some ⟨bp,0,none⟩),.agg #[.int .i64 p,.int .i64 c],.int .i64 k] w fun e w'=>e=.returned (.tuple #[.agg #[.int .i64 p,.int .i64 ((min (c+k) wd:Nat):Int)],.agg #[.int .i64 ((c+k-wd:Nat):Int),.int .i64 0]])/\Below w w w':=by
 have H:IntKind.i64.wrap ((c:Int)+(k:Int))=(c:Int)+(k:Int):=by rw[IntKind.wrap_i64];omega
 have I:IntKind.i64.wrap ((c:Int)+(k:Int)-(wd:Int))=(c:Int)+(k:Int)-(wd:Int):=by rw[IntKind.wrap_i64];omega
 have D:=World.block_lt_of_cell? w ⟨bp,1,none⟩ c1;have A:=fun O1 O2 O3=>y7d w O1 O2 O3
 have C:∀O1 O2 O3,(((w.alloc O1).alloc O2).alloc O3).cell? ⟨bp,1,none⟩=some (.int .i64 wd):=fun O1 O2 O3=>((A O1 O2 O3).cell (p:=⟨bp,1,none⟩) D).trans c1
 have B:∀O2 O3,(((w.alloc (.cells #[.int .i64 p,.int .i64 c] 172)).alloc O2).alloc O3).cell? ⟨w,0,none⟩=some (.int .i64 p):=fun O2 O3=>by simp[go_sem]
 have E:((min (c+k) wd:Nat):Int)=min ((c:Int)+k) wd:=by omega
 have G:((c+k-wd:Nat):Int)=max ((c:Int)+k-wd) 0:=by omega
 rw[E,G];clear E G;go_in;go_wp2_with fail
 go_region_held3 (fun w'=>w'.cell? ⟨bp,1,none⟩=some (.int .i64 wd)/\w'.cell? ⟨w,0,none⟩=some (.int .i64 p)) (exact⟨C _ _ _,B _ _⟩) (fail)
 all_goals
  go_wp2;exact bodyPost_ret (v:=.tuple #[.agg #[.int .i64 p,.int .i64 (min ((c:Int)+k) wd)],.agg #[.int .i64 (max ((c:Int)+k-wd) 0),.int .i64 0]]) (by simp[results,Tryz.results237,go_sem]) rfl ⟨rfl,(A _ _ _).drew⟩
theorem k3d(bp wd p k:Nat)(w:World)(hw:wd<=100)(hk:k<=20000)(c1:w.cell? ⟨bp,1,none⟩=some (.int .i64 wd)):
  Calls prog 237 #[.pointer (some ⟨bp,0,none⟩),.agg #[.int .i64 p,.int .i64 0],.int .i64 k] w fun e w'=>e=.returned (.tuple #[.agg #[.int .i64 p,.int .i64 ((min k wd:Nat):Int)],.agg #[.int .i64 ((k-wd:Nat):Int),.int .i64 0]])/\Below w w w':=by
 have h:=z1o bp wd p 0 k w hw (by omega) hk c1;rw[Nat.zero_add]at h;exact h
theorem q9x(op:Int)(tx:ByteArray)(a b c d e:Int)(w:World):
  Calls prog 164 #[.agg #[.int .i64 op,.string tx,.int .i64 a,.int .i64 b,.int .i64 c,.int .i64 d,.int .i64 e]] w fun e w'=>e=.returned (.bool (z1v op))/\Below w w w':=by
 cases B:(op==8)with
 | true=>
  have A:z1v op=true:=by simp[z1v,beq_iff_eq.1 B]
  rw[A];go_in;go_wp2;go_ret;exact⟨rfl,Zb.alloc Zl _⟩
 | false=>
  cases C:(op==9)with
  | true=>
   have A:z1v op=true:=by simp[z1v,beq_iff_eq.1 C]
   rw[A];go_in;go_wp2;go_ret;exact⟨rfl,Zb.alloc Zl _⟩
  | false=>
   have A:z1v op=false:=by simp[z1v,beq_eq_false_iff_ne.1 B,beq_eq_false_iff_ne.1 C]
   rw[A];go_in;go_wp2;go_ret;exact⟨rfl,Zb.alloc Zl _⟩
theorem k1z{a b:Nat}(ha:a<=1000000)(hb:b<=1000000):okC ((a:Int),(b:Int))=true:=by
 simp[okC,j4c];omega
theorem j2o(a b c d:Nat)(ha:a<=1000000)(hb:b<=1000000)(hc:c<=1000000)(hd:d<=1000000)(w:World):
  Calls prog 196 #[.agg #[.int .i64 a,.int .i64 b],.agg #[.int .i64 c,.int .i64 d]] w fun e w'=>e=.returned (.bool (decide (q2w (a,b) (c,d))))/\Below w w w':=by
 have B:decide (q2w (a,b) (c,d))=z8n ((a:Int),(b:Int)) ((c:Int),(d:Int)):=by
  rw[Bool.eq_iff_iff,decide_eq_true_eq];unfold z8n q2w;dsimp only
  split
  ·rw[decide_eq_true_eq];omega
  ·rw[decide_eq_true_eq];omega
 rw[B]
 have C:Hid (∀w,Calls prog 219 #[.agg #[.int .i64 a,.int .i64 b],.agg #[.int .i64 c,.int .i64 d]] w fun e w'=>e=.returned (.tuple #[.bool (z8n ((a:Int),(b:Int)) ((c:Int),(d:Int))),.nilIface])/\Below w w w'):=fun w=>
  y0r ((a:Int),(b:Int)) ((c:Int),(d:Int)) w (k1z ha hb) (k1z hc hd)
 clear B;generalize z8n ((a:Int),(b:Int)) ((c:Int),(d:Int))=v at *;go_in;go_wp2_with fail;refine(C.o _).mono ?_;rintro e D⟨rfl,A⟩;go_wp2;go_ret;exact⟨rfl,(((Below.refl _ w).alloc Zl _).alloc (by simp) _).trans (A.mono (by simp;omega))⟩
theorem v1u(a b c d:Nat)(ha:a<=400000)(hb:b<=400000)(hc:c<=400000)(hd:d<=400000)(w:World):
  Calls prog 218 #[.agg #[.int .i64 a,.int .i64 b],.agg #[.int .i64 c,.int .i64 d]] w fun e w'=>e=.returned (.agg #[.int .i64 ((a+c:Nat):Int),.int .i64 ((b+d:Nat):Int)])/\Below w w w':=by
 have E:((a+c:Nat):Int)=(a:Int)+c:=by omega
 have G:((b+d:Nat):Int)=(b:Int)+d:=by omega
 have H:okC (y6s ((a:Int),(b:Int)) ((c:Int),(d:Int)))=true:=by
  have:=k1z (a:=a+c) (b:=b+d) (by omega) (by omega)
  rw[E,G]at this;exact this
 rw[E,G]
 have I:Hid (∀w,Calls prog 238 #[.agg #[.int .i64 a,.int .i64 b],.agg #[.int .i64 c,.int .i64 d]] w fun e w'=>e=.returned (.tuple #[.agg #[.int .i64 ((a:Int)+c),.int .i64 ((b:Int)+d)],.nilIface])/\Below w w w'):=fun w=>
  y3f ((a:Int),(b:Int)) ((c:Int),(d:Int)) w (k1z (by omega) (by omega)) (k1z (by omega) (by omega)) H
 clear E G H
 generalize(a:Int)+c=v1 at *
 generalize(b:Int)+d=v2 at *
 go_in;go_wp2_with fail;refine(I.o _).mono ?_;rintro e A⟨rfl,B⟩;obtain⟨C,D⟩:=q1y B;have K:w.heap.size+1+1+1<=A.heap.size:=by have:=B.size;simpa using this
 have L:∀O,(A.alloc O).cell? ⟨w.heap.size+1+1,0,none⟩=some (.int .i64 0):=fun O=>(((Below.refl _ A).alloc Zl O).cell (p:=⟨w.heap.size+1+1,0,none⟩) (by simp;omega)).trans ((C _ _ (by simp)).trans (by simp[go_sem]))
 have M:∀O,(A.alloc O).cell? ⟨w.heap.size+1+1,1,none⟩=some (.int .i64 0):=fun O=>(((Below.refl _ A).alloc Zl O).cell (p:=⟨w.heap.size+1+1,1,none⟩) (by simp;omega)).trans ((C _ _ (by simp)).trans (by simp[go_sem]))
 have N:∀O,(A.alloc O).frozen? ⟨w.heap.size+1+1,0,none⟩=false:=fun O=>(((Below.refl _ A).alloc Zl O).frozen (p:=⟨w.heap.size+1+1,0,none⟩) (by simp;omega)).trans ((D _ _ (by simp)).trans (by simp[go_sem]))
 have P:∀O,(A.alloc O).frozen? ⟨w.heap.size+1+1,1,none⟩=false:=fun O=>(((Below.refl _ A).alloc Zl O).frozen (p:=⟨w.heap.size+1+1,1,none⟩) (by simp;omega)).trans ((D _ _ (by simp)).trans (by simp[go_sem]))
 have J:Below w w A:=(y7d w _ _ _).trans (B.mono (by simp;omega));clear C D B;go_wp2;exact bodyPost_ret (v:=.agg #[.int .i64 v1,.int .i64 v2]) (by simp[results,Tryz.results218,go_sem,L,M]) rfl ⟨rfl,((J.alloc (by omega) _).setCell (p:=⟨w.heap.size+1+1,0,none⟩) (by simp;omega) _).setCell (p:=⟨w.heap.size+1+1,1,none⟩) (by simp;omega) _⟩
theorem v6u(w:World)(O1 O2 O3 O4:Obj):Below w w ((((w.alloc O1).alloc O2).alloc O3).alloc O4):=(y7d w O1 O2 O3).alloc (by simp;omega) _
theorem k3{w:World}{b o:Nat}{v:Value}(h:w.cell? ⟨b,o,none⟩=some v)(O1 O2 O3:Obj):(((w.alloc O1).alloc O2).alloc O3).cell? ⟨b,o,none⟩=some v:=ka (ka (ka h _) _) _
theorem k4{w:World}{b o:Nat}{v:Value}(h:w.cell? ⟨b,o,none⟩=some v)(O1 O2 O3 O4:Obj):((((w.alloc O1).alloc O2).alloc O3).alloc O4).cell? ⟨b,o,none⟩=some v:=ka (k3 h _ _ _) _
theorem k4d{w:World}{b o:Nat}{v:Value}(h:w.cell? ⟨b,o,none⟩=some v)(O1 O2 O3 O4:Obj):((((w.alloc O1).alloc O2).alloc O3).alloc O4).drew.cell? ⟨b,o,none⟩=some v:=k4 h _ _ _ _
theorem k8s(bp g n wd i c:Nat)(tx:ByteArray)(nn en:Int)(nx dp:Nat)(lg:Int)(ch:Nat)(w:World)(hi:(i:Int)<n)(hw:wd<=100)(hc:c<=100)(hk:tx.size<=20000)
  (c0:w.cell? ⟨bp,0,none⟩=some (.slice (some ⟨g,0,none⟩) n n)) (c1:w.cell? ⟨bp,1,none⟩=some (.int .i64 wd))
  (d0:w.cell? ⟨g,i*7,none⟩=some (.int .i64 1)) (d1:w.cell? ⟨g,i*7+1,none⟩=some (.string tx)) (d2:w.cell? ⟨g,i*7+2,none⟩=some (.int .i64 nn)) (d3:w.cell? ⟨g,i*7+3,none⟩=some (.int .i64 en)) (d4:w.cell? ⟨g,i*7+4,none⟩=some (.int .i64 nx)) (d5:w.cell? ⟨g,i*7+5,none⟩=some (.int .i64 dp)) (d6:w.cell? ⟨g,i*7+6,none⟩=some (.int .i64 lg)):
  Calls prog 217 #[.pointer (some ⟨bp,0,none⟩),.agg #[.int .i64 i,.int .i64 c],.int .i64 ch] w fun e w'=>e=.returned (.tuple #[.agg #[.int .i64 nx,.int .i64 ((min (c+tx.size) wd:Nat):Int)],.agg #[.int .i64 ((c+tx.size-wd:Nat):Int),.int .i64 0]])/\Below w w w':=by
 have O:(0:Int)<=(i:Int):=by omega
 have N:=World.block_lt_of_cell? w ⟨bp,0,none⟩ c0;have H:=World.block_lt_of_cell? w ⟨g,i*7,none⟩ d0;have E:∀O2 O3,(((w.alloc (.cells #[.int .i64 i,.int .i64 c] 172)).alloc O2).alloc O3).cell? ⟨w,0,none⟩=some (.int .i64 i):=fun O2 O3=>by simp[go_sem]
 have G:∀O2 O3 O4,((((w.alloc (.cells #[.int .i64 i,.int .i64 c] 172)).alloc O2).alloc O3).alloc O4).cell? ⟨w,0,none⟩=some (.int .i64 i):=fun O2 O3 O4=>ka (E O2 O3) O4
 go_in;go_wp2_with fail
 go_region_held3 (fun w'=>w'.cell? ⟨bp,0,none⟩=some (.slice (some ⟨g,0,none⟩) n n)/\w'.cell? ⟨w,0,none⟩=some (.int .i64 i)/\w'.cell? ⟨g,i*7,none⟩=some (.int .i64 1)/\w'.cell? ⟨g,i*7+1,none⟩=some (.string tx)/\w'.cell? ⟨g,i*7+2,none⟩=some (.int .i64 nn)/\w'.cell? ⟨g,i*7+3,none⟩=some (.int .i64 en)/\w'.cell? ⟨g,i*7+4,none⟩=some (.int .i64 nx)/\w'.cell? ⟨g,i*7+5,none⟩=some (.int .i64 dp)/\w'.cell? ⟨g,i*7+6,none⟩=some (.int .i64 lg))
  (first|exact⟨k3 c0 _ _ _,E _ _,k3 d0 _ _ _,k3 d1 _ _ _,k3 d2 _ _ _,k3 d3 _ _ _,k3 d4 _ _ _,k3 d5 _ _ _,k3 d6 _ _ _⟩|exact⟨k4 c0 _ _ _ _,G _ _ _,k4 d0 _ _ _ _,k4 d1 _ _ _ _,k4 d2 _ _ _ _,k4 d3 _ _ _ _,k4 d4 _ _ _ _,k4 d5 _ _ _ _,k4 d6 _ _ _ _⟩) (fail)
 all_goals
  go_wp2_with fail;refine(z1o bp wd nx c tx.size _ hw hc hk (k4d c1 _ _ _ _)).mono ?_;rintro e C⟨rfl,D⟩;obtain⟨A,B⟩:=q1y D;have P:w.heap.size+1+1+1+1<=C.heap.size:=by have:=D.size;simpa using this
  have I:C.cell? ⟨w.heap.size+1,0,none⟩=some (.int .i64 0):=(A _ _ (by simp)).trans (by simp[go_sem]);have J:C.cell? ⟨w.heap.size+1,1,none⟩=some (.int .i64 0):=(A _ _ (by simp)).trans (by simp[go_sem]);have K:C.cell? ⟨w.heap.size+1+1,0,none⟩=some (.int .i64 0):=(A _ _ (by simp)).trans (by simp[go_sem]);have L:C.cell? ⟨w.heap.size+1+1,1,none⟩=some (.int .i64 0):=(A _ _ (by simp)).trans (by simp[go_sem]);have Q:C.frozen? ⟨w.heap.size+1,0,none⟩=false:=(B _ _ (by simp)).trans (by simp[go_sem]);have R:C.frozen? ⟨w.heap.size+1,1,none⟩=false:=(B _ _ (by simp)).trans (by simp[go_sem]);have S:C.frozen? ⟨w.heap.size+1+1,0,none⟩=false:=(B _ _ (by simp)).trans (by simp[go_sem]);have U:C.frozen? ⟨w.heap.size+1+1,1,none⟩=false:=(B _ _ (by simp)).trans (by simp[go_sem]);have M:Below w w C:=(v6u w _ _ _ _).drew.trans (D.mono (by simp;omega));clear A B D;go_wp2;exact bodyPost_ret (v:=.tuple #[.agg #[.int .i64 nx,.int .i64 ((min (c+tx.size) wd:Nat):Int)],.agg #[.int .i64 ((c+tx.size-wd:Nat):Int),.int .i64 0]]) (by simp[results,Tryz.results217,go_sem,I,J,K,L]) rfl ⟨rfl,(((M.setCell (p:=⟨w.heap.size+1,0,none⟩) (by simp) _).setCell (p:=⟨w.heap.size+1,1,none⟩) (by simp) _).setCell (p:=⟨w.heap.size+1+1,0,none⟩) (by simp;omega) _).setCell (p:=⟨w.heap.size+1+1,1,none⟩) (by simp;omega) _⟩
theorem k8q(bp g n wd i c:Nat)(tx:ByteArray)(nn en:Int)(nx dp:Nat)(lg:Nat)(w:World)(hi:(i:Int)<n)(hw:wd<=100)(hc:c<=100)(hk:lg<=20000)
  (c0:w.cell? ⟨bp,0,none⟩=some (.slice (some ⟨g,0,none⟩) n n)) (c1:w.cell? ⟨bp,1,none⟩=some (.int .i64 wd))
  (d0:w.cell? ⟨g,i*7,none⟩=some (.int .i64 8)) (d1:w.cell? ⟨g,i*7+1,none⟩=some (.string tx)) (d2:w.cell? ⟨g,i*7+2,none⟩=some (.int .i64 nn)) (d3:w.cell? ⟨g,i*7+3,none⟩=some (.int .i64 en)) (d4:w.cell? ⟨g,i*7+4,none⟩=some (.int .i64 nx)) (d5:w.cell? ⟨g,i*7+5,none⟩=some (.int .i64 dp)) (d6:w.cell? ⟨g,i*7+6,none⟩=some (.int .i64 lg)):
  Calls prog 217 #[.pointer (some ⟨bp,0,none⟩),.agg #[.int .i64 i,.int .i64 c],.int .i64 0] w fun e w'=>e=.returned (.tuple #[.agg #[.int .i64 nx,.int .i64 ((min (c+lg) wd:Nat):Int)],.agg #[.int .i64 ((c+lg-wd:Nat):Int),.int .i64 0]])/\Below w w w':=by
 have O:(0:Int)<=(i:Int):=by omega
 have N:=World.block_lt_of_cell? w ⟨bp,0,none⟩ c0;have H:=World.block_lt_of_cell? w ⟨g,i*7,none⟩ d0;have E:∀O2 O3,(((w.alloc (.cells #[.int .i64 i,.int .i64 c] 172)).alloc O2).alloc O3).cell? ⟨w,0,none⟩=some (.int .i64 i):=fun O2 O3=>by simp[go_sem]
 have G:∀O2 O3 O4,((((w.alloc (.cells #[.int .i64 i,.int .i64 c] 172)).alloc O2).alloc O3).alloc O4).cell? ⟨w,0,none⟩=some (.int .i64 i):=fun O2 O3 O4=>ka (E O2 O3) O4
 go_in;go_wp2_with fail
 go_region_held3 (fun w'=>w'.cell? ⟨bp,0,none⟩=some (.slice (some ⟨g,0,none⟩) n n)/\w'.cell? ⟨w,0,none⟩=some (.int .i64 i)/\w'.cell? ⟨g,i*7,none⟩=some (.int .i64 8)/\w'.cell? ⟨g,i*7+1,none⟩=some (.string tx)/\w'.cell? ⟨g,i*7+2,none⟩=some (.int .i64 nn)/\w'.cell? ⟨g,i*7+3,none⟩=some (.int .i64 en)/\w'.cell? ⟨g,i*7+4,none⟩=some (.int .i64 nx)/\w'.cell? ⟨g,i*7+5,none⟩=some (.int .i64 dp)/\w'.cell? ⟨g,i*7+6,none⟩=some (.int .i64 lg))
  (first|exact⟨k3 c0 _ _ _,E _ _,k3 d0 _ _ _,k3 d1 _ _ _,k3 d2 _ _ _,k3 d3 _ _ _,k3 d4 _ _ _,k3 d5 _ _ _,k3 d6 _ _ _⟩|exact⟨k4 c0 _ _ _ _,G _ _ _,k4 d0 _ _ _ _,k4 d1 _ _ _ _,k4 d2 _ _ _ _,k4 d3 _ _ _ _,k4 d4 _ _ _ _,k4 d5 _ _ _ _,k4 d6 _ _ _ _⟩) (fail)
 all_goals
  go_wp2_with fail;refine(z1o bp wd nx c lg _ hw hc hk (k4d c1 _ _ _ _)).mono ?_;rintro e C⟨rfl,D⟩;obtain⟨A,B⟩:=q1y D;have P:w.heap.size+1+1+1+1<=C.heap.size:=by have:=D.size;simpa using this
  have I:C.cell? ⟨w.heap.size+1,0,none⟩=some (.int .i64 0):=(A _ _ (by simp)).trans (by simp[go_sem]);have J:C.cell? ⟨w.heap.size+1,1,none⟩=some (.int .i64 0):=(A _ _ (by simp)).trans (by simp[go_sem]);have K:C.cell? ⟨w.heap.size+1+1,0,none⟩=some (.int .i64 0):=(A _ _ (by simp)).trans (by simp[go_sem]);have L:C.cell? ⟨w.heap.size+1+1,1,none⟩=some (.int .i64 0):=(A _ _ (by simp)).trans (by simp[go_sem]);have Q:C.frozen? ⟨w.heap.size+1,0,none⟩=false:=(B _ _ (by simp)).trans (by simp[go_sem]);have R:C.frozen? ⟨w.heap.size+1,1,none⟩=false:=(B _ _ (by simp)).trans (by simp[go_sem]);have S:C.frozen? ⟨w.heap.size+1+1,0,none⟩=false:=(B _ _ (by simp)).trans (by simp[go_sem]);have U:C.frozen? ⟨w.heap.size+1+1,1,none⟩=false:=(B _ _ (by simp)).trans (by simp[go_sem]);have M:Below w w C:=(v6u w _ _ _ _).drew.trans (D.mono (by simp;omega));clear A B D;go_wp2;exact bodyPost_ret (v:=.tuple #[.agg #[.int .i64 nx,.int .i64 ((min (c+lg) wd:Nat):Int)],.agg #[.int .i64 ((c+lg-wd:Nat):Int),.int .i64 0]]) (by simp[results,Tryz.results217,go_sem,I,J,K,L]) rfl ⟨rfl,(((M.setCell (p:=⟨w.heap.size+1,0,none⟩) (by simp) _).setCell (p:=⟨w.heap.size+1,1,none⟩) (by simp) _).setCell (p:=⟨w.heap.size+1+1,0,none⟩) (by simp;omega) _).setCell (p:=⟨w.heap.size+1+1,1,none⟩) (by simp;omega) _⟩
theorem q1e(s:ByteArray)(w:World):Calls prog 23 #[.string s] w fun e w'=>e=.returned (.bool (q0o s))/\w=w':=by
 by_cases P:(s.size:Int)<1
 ·have B:Hid (q0o s=false):=z4l (by omega);go_in;go_wp2;go_ret;exact⟨by rw[B.o];rfl,rfl⟩
 by_cases Q:8<(s.size:Int)
 ·have B:Hid (q0o s=false):=z6s (by omega);go_in;go_wp2;go_ret;exact⟨by rw[B.o];rfl,rfl⟩
 by_cases D:s=⟨#[108,101,116]⟩
 ·subst D;go_in;go_wp2;go_ret;exact⟨by rfl,rfl⟩
 have N:Hid (¬s=⟨#[108,101,116]⟩):=D
 have J:¬s.toList=[108,101,116]:=by
  rw[ByteArray.toList_eq];intro e;exact D (j5q.1 e)
 have L:(s.toList==[108,101,116])=false:=beq_false_of_ne J;have M:(⟨#[108,101,116]⟩:ByteArray).toList=[108,101,116]:=by rw[ByteArray.toList_eq]
 clear D;go_in;go_wp2
 go_loopw [3] (fun i wr=>wr=w/\∃k:Nat,k<=s.size/\i=.int .i64 k/\∀j(h:j<s.size),j<k->q2b s[j]=true) (fun i _=>s.size-(intOf i).toNat)
 case atStart=>exact⟨rfl,0,Nat.zero_le _,rfl,fun j _ hj=>by omega⟩
 case round=>
  obtain⟨rfl,k,R,rfl,A⟩:=hrel;have K:Hid (∀j(h:j<s.size),j<k->q2b s[j]=true):=A;clear A;by_cases I:k<s.size
  ·cases C:q2b s[k]with
   | false=>
    have B:Hid (q0o s=false):=k1v I C;have G:Hid (q2b s[k]=false):=C;clear C;go_wp2_with(go_at_call 53;refine(q6j _ _).mono ?_;rintro e O⟨rfl,rfl⟩;rw[G.o]);go_ret;exact⟨by rw[B.o];rfl,rfl⟩
   | true=>
    have G:Hid (q2b s[k]=true):=C
    have E:Hid (∀j(h:j<s.size),j<k+1->q2b s[j]=true):=fun j h hj=>by
     by_cases H:j=k
     ·subst H;exact C
     ·exact K.o j h (by omega)
    clear C;go_wp2_with(go_at_call 53;refine(q6j _ _).mono ?_;rintro e O⟨rfl,rfl⟩;rw[G.o])
    go_roundw
    case rel=>exact⟨by trivial,k+1,by omega,by go_num,E.o⟩
    case measure=>simp[intOf];omega
  ·have B:Hid (q0o s=true):=k1u (by omega) (by omega) N.o fun j h=>K.o j h (by omega)
   go_wp2;go_ret;exact⟨by rw[B.o];rfl,rfl⟩
theorem v0a(s:ByteArray)(i e:Nat)(h1:i<=e)(h2:e<=s.size)(W:World):(Instr.slice 9 (.string s) (some (.int .i64 (i:Int))) (some (.int .i64 ((e:Nat):Int))) none).run prog W=.ok (.string (wbS (((btL s).drop i).take (e-i)))) W:=by
 have h:=run_slice_string (P:=prog) (w:=W) 9 s .i64 .i64 (i:Int) (e:Int) Tryz.underlying9 (by omega) (by omega) (by omega);rw[Int.toNat_natCast,Int.toNat_natCast,q9s]at h;exact h
structure y6l(s:ByteArray)(w:World)(fr i:Nat)(dn:List (List UInt8))(A:Option Addr)(c:Nat)(wr:World):Prop where
 b:Below w w wr
 le:fr<=i
 li:i<=s.size
 ln:dn.length<=fr
 no:∀j(h:j<s.size),fr<=j->j<i->s[j]≠32
 eq:q5n (btL s)=dn++q5n ((btL s).drop fr)
 ro:wr.ownsRow w.heap.size 9 1 (.slice A dn.length c) dn.length (strCells (dn.map wbS))
theorem k7f{s:ByteArray}{fr i:Nat}(h:fr<=i)(hi:i<=s.size)(no:∀j(h:j<s.size),fr<=j->j<i->s[j]≠32):∀b∈((btL s).drop fr).take (i-fr),b≠32:=by
 intro b A;obtain⟨j,B,rfl⟩:=List.getElem_of_mem A;rw[List.length_take,List.length_drop,q0c]at B;rw[List.getElem_take,List.getElem_drop];exact no (fr+j) (by omega) (by omega) (by omega)
theorem v4c{s:ByteArray}{fr i:Nat}(h:fr<=i)(hi:i<s.size):(btL s).drop fr=((btL s).drop fr).take (i-fr)++s[i]::(btL s).drop (i+1):=by
 have A:=(List.take_append_drop (i-fr) ((btL s).drop fr)).symm;rw[List.drop_drop,show fr+(i-fr)=i by omega,q1g hi]at A;exact A
theorem j7z{s:ByteArray}{fr:Nat}:((btL s).drop fr).take (s.size-fr)=(btL s).drop fr:=by
 rw[List.take_of_length_le (by rw[List.length_drop,q0c];exact Nat.le_refl _)]
theorem q4d(s:ByteArray)(w:World)(Aa:s.size<=1000000000000):Calls prog 22 #[.string s] w fun e w'=>(∃A c,e=.returned (.slice A (q0e (btL s)).length c)/\q2g w (.slice A (q0e (btL s)).length c) ((q0e (btL s)).map wbS) w')/\Below w w w':=by
 by_cases l:s.size=0
 ·have o:Hid (q0e (btL s)=[]):=by
   show q0e (btL s)=[];rw[q0e,if_pos (List.eq_nil_of_length_eq_zero (by rw[q0c];exact l))]
  have q:((s.size:Int)==0)=true:=beq_iff_eq.2 (by omega);clear l;go_in;go_wp2;go_ret;rw[o.o];exact⟨⟨none,0,rfl,World.ownsRow_nil _ _ _ _⟩,Below.refl _ _⟩
 ·have o:Hid (q0e (btL s)=q5n (btL s)):=by
   show q0e (btL s)=_;rw[q0e,if_neg];intro e
   have:=congrArg List.length e
   rw[q0c,List.length_nil]at this;exact l this
  have q:((s.size:Int)==0)=false:=beq_false_of_ne (by omega);clear l;obtain⟨i0,X,a,d,g⟩:=info_parts z0t;go_in;go_wp2
  go_loopw [3,4,5] (fun x f i wr=>∃(E k:Nat)(H:List (List UInt8))(A:Option Addr)(c:Nat),x=.slice A H.length c/\f=.int .i64 (E:Int)/\i=.int .i64 (k:Int)/\y6l s w E k H A c wr) (fun _ _ i _=>s.size-(intOf i).toNat)
  case atStart=>exact⟨0,0,[],none,0,rfl,rfl,rfl,{b:=Below.refl _ _,le:=Nat.le_refl _,li:=Nat.zero_le _,ln:=Nat.le_refl _,no:=fun j _ _ h=>by omega,eq:=rfl,ro:=World.ownsRow_nil _ _ _ _}⟩
  case round=>
   obtain⟨E,k,H,A,c,rfl,rfl,rfl,R⟩:=hrel;have G:Hid (y6l s w E k H A c wr):=R;have L:=R.le;have N:=R.li;have y:=R.ln;have Y:=R.b.size;clear R;by_cases O:k<s.size
   ·have v:(k:Int)<(s.size:Int):=by omega
    cases S:(s[k]==32)with
    | true=>
     have r:((s[k].toNat:Int)==32)=true:=by rw[show(32:Int)=((32:Nat):Int)from rfl,q5z _ 32 (by decide)];exact S
     have Q:=v0a s E k L N
     have I:Hid (q5n (btL s)=(H++[((btL s).drop E).take (k-E)])++q5n ((btL s).drop (k+1))):=by
      show _=_;have M:=v4c L O;rw[beq_iff_eq.1 S]at M;rw[G.o.eq,List.append_assoc]
      congr 1
      conv=>lhs;rw[M]
      rw[k7s _ _ (k7f L N G.o.no)];rfl
     generalize((btL s).drop E).take (k-E)=W at Q I
     clear S;go_wp2_with(at_builtin;refine wpList_append_lies _ rfl _ _ 58 rfl w.heap.size 9 i0 _ 1 16 Tryz.underlying58 X a d g rfl (by decide) _ _ _ rfl (World.ownsRow.alloc G.o.ro _) ⟨wr,0,none⟩ 1 1 [.string (wbS W)] rfl rfl (cell_one_new wr _ _) (by intro u Z;simp at Z;subst Z;rfl) (by decide) (by unfold maxLen;omega) (by omega) (by simp;omega) (wr.heap.size+1) (by simp) ?_);intro U D m C B J K
     have p:Hid (y6l s w (k+1) (k+1) (H++[W]) (some ⟨U,0,none⟩) D m):=by
      refine{b:=(G.o.b.alloc Y (.cells #[.string (wbS W)] 9)).grown B (by simp;omega) (fun j hj=>(World.ownsRow.lt G.o.ro j hj).1),le:=Nat.le_refl _,li:=O,ln:=by simp;omega,no:=fun j _ _ h=>by omega,eq:=I.o,ro:=?_};rw[List.length_append,List.map_append,q2f];exact C
     clear C B J K;go_wp2
     go_roundw
     case rel=>exact⟨k+1,k+1,H++[W],some ⟨U,0,none⟩,D,by rw[List.length_append];rfl,by go_num,by go_num,p.o⟩
     case measure=>simp[intOf];omega
    | false=>
     have r:((s[k].toNat:Int)==32)=false:=by rw[show(32:Int)=((32:Nat):Int)from rfl,q5z _ 32 (by decide)];exact S
     have p:Hid (y6l s w E (k+1) H A c wr):=by
      refine{b:=G.o.b,le:=by omega,li:=O,ln:=y,no:=fun j h M h2=>?_,eq:=G.o.eq,ro:=G.o.ro};by_cases t:j=k
      ·subst t;simpa using S
      ·exact G.o.no j h M (by omega)
     clear S;go_wp2
     go_roundw
     case rel=>exact⟨E,k+1,H,A,c,rfl,rfl,by go_num,p.o⟩
     case measure=>simp[intOf];omega
   ·obtain rfl:k=s.size:=by omega
    have v:¬(s.size:Int)<(s.size:Int):=by omega
    have Q:∀W:World,(Instr.slice 9 (.string s) (some (.int .i64 (E:Int))) none none).run prog W=.ok (.string (wbS ((btL s).drop E))) W:=fun W=>by
     have h:=run_slice_string_l (P:=prog) W 9 s Tryz.underlying9 .i64 (E:Int) (by omega) (by omega);rw[Int.toNat_natCast,q9s,j7z]at h;exact h
    have I:Hid (q0e (btL s)=H++[(btL s).drop E]):=by
     show _=_;rw[o.o,G.o.eq,k7t];have M:=k7f L N G.o.no;rw[j7z]at M;exact M
    generalize(btL s).drop E=W at Q I
    go_wp2_with(at_builtin;refine wpList_append_lies _ rfl _ _ 58 rfl w.heap.size 9 i0 _ 1 16 Tryz.underlying58 X a d g rfl (by decide) _ _ _ rfl (World.ownsRow.alloc G.o.ro _) ⟨wr,0,none⟩ 1 1 [.string (wbS W)] rfl rfl (cell_one_new wr _ _) (by intro u Z;simp at Z;subst Z;rfl) (by decide) (by unfold maxLen;omega) (by omega) (by simp;omega) (wr.heap.size+1) (by simp) ?_);intro U D m C B J K;have V:=(G.o.b.alloc Y (.cells #[.string (wbS W)] 9)).grown B (by simp;omega) (fun j hj=>(World.ownsRow.lt G.o.ro j hj).1)
    have z:q2g w (.slice (some ⟨U,0,none⟩) (H.length+1) D) ((H++[W]).map wbS) m:=by
     show m.ownsRow _ _ _ _ _ _;rw[List.length_map,List.length_append,List.map_append,q2f];exact C
    have HO:=hid z;have n:=hid V;clear C B J K z V;go_wp2;go_ret;rw[I.o,List.length_append];exact⟨⟨some ⟨U,0,none⟩,D,rfl,HO.o⟩,n.o⟩
end Go.Proofs.YtfdppahhbpfnoaaGreatDoor
