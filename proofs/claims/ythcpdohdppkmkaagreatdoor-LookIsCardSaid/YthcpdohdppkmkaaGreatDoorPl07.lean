import Derived.Test.YthcpdohdppkmkaaGreatDoorPl06
import Derived.Deep.RegionHeld3
import Derived.Deep.OwnRows
import Derived.Deep.DeepCutAuto
import Derived.BigQuiet
import Derived.BigRegion
open Go.Proofs.Tryz
namespace Go.Proofs.YthcpdohdppkmkaaGreatDoor
open Go Go.RowKit
structure Q where
 op:Int
 tx:ByteArray
 n:Int
 en:Int
 nx:Int
 dp:Int
 lg:Int
def q0:Q:=⟨0,⟨#[]⟩,0,0,0,0,0⟩
def q1(r:Pl):Q:=⟨r.nd.op,r.nd.tx,r.nd.n,r.en,0,0,0⟩
def q2(r:Pl):Q:=⟨r.nd.op,r.nd.tx,r.nd.n,r.en,r.nx,r.dp,r.lg⟩
structure z3j(w:World)(g j:Nat)(q:Q):Prop where
 c0:w.cell? ⟨g,j*7,none⟩=some (.int .i64 q.op)
 c1:w.cell? ⟨g,j*7+1,none⟩=some (.string q.tx)
 c2:w.cell? ⟨g,j*7+2,none⟩=some (.int .i64 q.n)
 c3:w.cell? ⟨g,j*7+3,none⟩=some (.int .i64 q.en)
 c4:w.cell? ⟨g,j*7+4,none⟩=some (.int .i64 q.nx)
 c5:w.cell? ⟨g,j*7+5,none⟩=some (.int .i64 q.dp)
 c6:w.cell? ⟨g,j*7+6,none⟩=some (.int .i64 q.lg)
def q7n(w:World)(b:Nat):Prop:=∃cs T,w.heap[b]?=some (.cells cs T (0,0))
theorem q7n.frozen{w:World}{b i:Nat}(h:q7n w b):w.frozen? ⟨b,i,none⟩=false:=by
 obtain⟨A,T,h⟩:=h;simp[World.frozen?,h]
theorem q7n.lt{w:World}{b:Nat}(h:q7n w b):b<w.heap.size:=by
 obtain⟨B,T,h⟩:=h;rcases Nat.lt_or_ge b w.heap.size with A|A
 ·exact A
 ·simp[Array.getElem?_eq_none A]at h
theorem q7n.kept{w w':World}{b:Nat}(h:q7n w b)(hb:w'.heap[b]?=w.heap[b]?):q7n w' b:=by
 obtain⟨A,T,h⟩:=h;exact⟨A,T,hb.trans h⟩
theorem q7n.set{w:World}{b c i:Nat}{v:Value}(h:q7n w b):q7n (w.setCell ⟨c,i,none⟩ v) b:=by
 by_cases e:c=b
 ·subst e;obtain⟨A,T,h⟩:=h;exact⟨A.setIfInBounds i v,T,by simp[World.setCell,Array.getElem?_modify,h]⟩
 ·exact h.kept (Below.heap_setCell _ _ _ _ (Ne.symm e))
structure PwR(w:World)(g n:Nat)(F:Nat->Q):Prop where
 get:∀j,j<n->z3j w g j (F j)
 row:q7n w g
theorem z3j.kept{w w':World}{g j:Nat}{q:Q}(h:z3j w g j q)(hb:w'.heap[g]?=w.heap[g]?):z3j w' g j q:=by
 have A:∀k,w'.cell? ⟨g,k,none⟩=w.cell? ⟨g,k,none⟩:=fun k=>World.cell?_of_block (w:=w) (a:=⟨g,k,none⟩) hb
 exact⟨(A _).trans h.c0,(A _).trans h.c1,(A _).trans h.c2,(A _).trans h.c3,(A _).trans h.c4,(A _).trans h.c5,(A _).trans h.c6⟩
theorem PwR.kept{w w':World}{g n:Nat}{F:Nat->Q}(h:PwR w g n F)(hb:w'.heap[g]?=w.heap[g]?):PwR w' g n F:=⟨fun j hj=>(h.get j hj).kept hb,h.row.kept hb⟩
theorem PwR.congr{w:World}{g n:Nat}{F G:Nat->Q}(h:PwR w g n F)(e:∀j,j<n->F j=G j):PwR w g n G:=⟨fun j hj=>e j hj ▸ h.get j hj,h.row⟩
theorem z3j.other{w:World}{g j k f:Nat}{q:Q}{v:Value}(h:z3j w g k q)(hf:f<7)(hk:k≠j):z3j (w.setCell ⟨g,j*7+f,none⟩ v) g k q:=
 ⟨(cso (by omega)).trans h.c0,(cso (by omega)).trans h.c1,(cso (by omega)).trans h.c2,(cso (by omega)).trans h.c3,(cso (by omega)).trans h.c4,(cso (by omega)).trans h.c5,(cso (by omega)).trans h.c6⟩
def upd(F:Nat->Q)(j:Nat)(q:Q):Nat->Q:=fun k=>if k=j then q else F k
theorem q0n(F:Nat->Q)(j:Nat)(q:Q):upd F j q j=q:=by simp[upd]
theorem q1l{F:Nat->Q}{j k:Nat}{q:Q}(h:k≠j):upd F j q k=F k:=by simp[upd,h]
theorem PwR.put{w:World}{g n j f:Nat}{F:Nat->Q}{v:Value}{q:Q}(h:PwR w g n F)(hf:f<7)(hq:z3j (w.setCell ⟨g,j*7+f,none⟩ v) g j q):PwR (w.setCell ⟨g,j*7+f,none⟩ v) g n (upd F j q) where
 get k hk:=by
  by_cases e:k=j
  ·subst e;rw[q0n];exact hq
  ·rw[q1l e];exact(h.get k hk).other hf e
 row:=h.row.set
section
variable {w:World} {g n j:Nat} {F:Nat→Q}
theorem PwR.putOp(h:PwR w g n F)(hj:j<n)(x:Int):PwR (w.setCell ⟨g,j*7,none⟩ (.int .i64 x)) g n (upd F j {F j with op:=x}):=by
 have k:=h.get j hj;exact h.put (f:=0) (by omega) ⟨css k.c0,(cso (by omega)).trans k.c1,(cso (by omega)).trans k.c2,(cso (by omega)).trans k.c3,(cso (by omega)).trans k.c4,(cso (by omega)).trans k.c5,(cso (by omega)).trans k.c6⟩
theorem PwR.putTx(h:PwR w g n F)(hj:j<n)(x:ByteArray):PwR (w.setCell ⟨g,j*7+1,none⟩ (.string x)) g n (upd F j {F j with tx:=x}):=by
 have k:=h.get j hj;exact h.put (f:=1) (by omega) ⟨(cso (by omega)).trans k.c0,css k.c1,(cso (by omega)).trans k.c2,(cso (by omega)).trans k.c3,(cso (by omega)).trans k.c4,(cso (by omega)).trans k.c5,(cso (by omega)).trans k.c6⟩
theorem PwR.putN(h:PwR w g n F)(hj:j<n)(x:Int):PwR (w.setCell ⟨g,j*7+2,none⟩ (.int .i64 x)) g n (upd F j {F j with n:=x}):=by
 have k:=h.get j hj;exact h.put (f:=2) (by omega) ⟨(cso (by omega)).trans k.c0,(cso (by omega)).trans k.c1,css k.c2,(cso (by omega)).trans k.c3,(cso (by omega)).trans k.c4,(cso (by omega)).trans k.c5,(cso (by omega)).trans k.c6⟩
theorem PwR.putEn(h:PwR w g n F)(hj:j<n)(x:Int):PwR (w.setCell ⟨g,j*7+3,none⟩ (.int .i64 x)) g n (upd F j {F j with en:=x}):=by
 have k:=h.get j hj;exact h.put (f:=3) (by omega) ⟨(cso (by omega)).trans k.c0,(cso (by omega)).trans k.c1,(cso (by omega)).trans k.c2,css k.c3,(cso (by omega)).trans k.c4,(cso (by omega)).trans k.c5,(cso (by omega)).trans k.c6⟩
theorem PwR.putNx(h:PwR w g n F)(hj:j<n)(x:Int):PwR (w.setCell ⟨g,j*7+4,none⟩ (.int .i64 x)) g n (upd F j {F j with nx:=x}):=by
 have k:=h.get j hj;exact h.put (f:=4) (by omega) ⟨(cso (by omega)).trans k.c0,(cso (by omega)).trans k.c1,(cso (by omega)).trans k.c2,(cso (by omega)).trans k.c3,css k.c4,(cso (by omega)).trans k.c5,(cso (by omega)).trans k.c6⟩
theorem PwR.putDp(h:PwR w g n F)(hj:j<n)(x:Int):PwR (w.setCell ⟨g,j*7+5,none⟩ (.int .i64 x)) g n (upd F j {F j with dp:=x}):=by
 have k:=h.get j hj;exact h.put (f:=5) (by omega) ⟨(cso (by omega)).trans k.c0,(cso (by omega)).trans k.c1,(cso (by omega)).trans k.c2,(cso (by omega)).trans k.c3,(cso (by omega)).trans k.c4,css k.c5,(cso (by omega)).trans k.c6⟩
theorem PwR.putLg(h:PwR w g n F)(hj:j<n)(x:Int):PwR (w.setCell ⟨g,j*7+6,none⟩ (.int .i64 x)) g n (upd F j {F j with lg:=x}):=by
 have k:=h.get j hj;exact h.put (f:=6) (by omega) ⟨(cso (by omega)).trans k.c0,(cso (by omega)).trans k.c1,(cso (by omega)).trans k.c2,(cso (by omega)).trans k.c3,(cso (by omega)).trans k.c4,(cso (by omega)).trans k.c5,css k.c6⟩
end
theorem z9r(F:Nat->Q)(j:Nat)(p q:Q):upd (upd F j p) j q=upd F j q:=by
 funext k
 simp only[upd]
 split<;>rfl
theorem ka{w:World}{b o:Nat}{v:Value}(h:w.cell? ⟨b,o,none⟩=some v)(O:Obj):(w.alloc O).cell? ⟨b,o,none⟩=some v:=
 (((Below.refl _ w).alloc Zl O).cell (p:=⟨b,o,none⟩) (World.block_lt_of_cell? w _ h)).trans h
theorem kaf{w:World}{b o:Nat}(hb:b<w.heap.size)(h:w.frozen? ⟨b,o,none⟩=false)(O:Obj):(w.alloc O).frozen? ⟨b,o,none⟩=false:=
 (((Below.refl _ w).alloc Zl O).frozen (p:=⟨b,o,none⟩) hb).trans h
theorem z5o{i n:Nat}(hn:n<=400)(hi:(i:Int)<n):IntKind.i64.wrap ((i:Int)+1)=(i:Int)+1:=by
 rw[IntKind.wrap_i64];omega
set_option maxRecDepth 100000
set_option maxHeartbeats 4000000
theorem j2k(bp g n i:Nat)(op:Int)(w:World)(hn:n<=400)(hi:(i:Int)<n)
  (c0:w.cell? ⟨bp,0,none⟩=some (.slice (some ⟨g,0,none⟩) n n)) (d1:w.cell? ⟨g,i*7,none⟩=some (.int .i64 op)) (h6:(op==6)=false) (h9:(op==9)=false) (h7:(op==7)=false) (h8:(op==8)=false):
  Calls prog 107 #[.pointer (some ⟨bp,0,none⟩),.int .i64 i] w fun e w'=>e=.returned (.int .i64 ((i:Int)+1))/\∃q,w'=w.drewN q:=by
 have B:=z5o hn hi;have A:(0:Int)<=(i:Int):=by omega
 go_in;go_wp2;go_ret;exact⟨rfl,0,rfl⟩
theorem v2f(bp g n i:Nat)(op x:Int)(w:World)(hn:n<=400)(hi:(i:Int)<n)(B:(i:Int)+1<n)
  (c0:w.cell? ⟨bp,0,none⟩=some (.slice (some ⟨g,0,none⟩) n n)) (d1:w.cell? ⟨g,i*7,none⟩=some (.int .i64 op)) (d2:w.cell? ⟨g,(i+1)*7+3,none⟩=some (.int .i64 x)) (A:op=7\/op=8):
  Calls prog 107 #[.pointer (some ⟨bp,0,none⟩),.int .i64 i] w fun e w'=>e=.returned (.int .i64 x)/\∃q,w'=w.drewN q:=by
 have G:=z5o hn hi;have C:(0:Int)<=(i:Int):=by omega
 have D:(0:Int)<=(i:Int)+1:=by omega
 have E:((i:Int)+1).toNat=i+1:=by omega
 rcases A with rfl|rfl
 all_goals
  go_in;go_wp2;go_ret;exact⟨rfl,0,rfl⟩
theorem v2g(bp g n i j:Nat)(op x:Int)(w:World)(hn:n<=400)(hi:(i:Int)<n)(B:(i:Int)+1<n)(hj:(j:Int)<n)
  (c0:w.cell? ⟨bp,0,none⟩=some (.slice (some ⟨g,0,none⟩) n n)) (d1:w.cell? ⟨g,i*7,none⟩=some (.int .i64 op)) (d2:w.cell? ⟨g,(i+1)*7+3,none⟩=some (.int .i64 (j:Int))) (d3:w.cell? ⟨g,j*7+3,none⟩=some (.int .i64 x)) (A:op=6\/op=9):
  Calls prog 107 #[.pointer (some ⟨bp,0,none⟩),.int .i64 i] w fun e w'=>e=.returned (.int .i64 x)/\∃q,w'=w.drewN q:=by
 have H:=z5o hn hi;have C:(0:Int)<=(i:Int):=by omega
 have D:(0:Int)<=(i:Int)+1:=by omega
 have G:((i:Int)+1).toNat=i+1:=by omega
 have E:(0:Int)<=(j:Int):=by omega
 rcases A with rfl|rfl
 all_goals
  go_in;go_wp2_with fail
  go_quiet (fail)
  go_wp2;go_ret;exact⟨rfl,_,rfl⟩
def y4f(g a b:Nat)(e f:Value)(w w':World):Prop:=
 w'.os=w.os/\w'.tape=w.tape/\w'.output=w.output/\w'.heap=((w.setCell ⟨g,a,none⟩ e).setCell ⟨g,b,none⟩ f).heap
theorem j2x(bp g n i:Nat)(x y:Int)(w:World)(hi:(i:Int)<n)
  (c0:w.cell? ⟨bp,0,none⟩=some (.slice (some ⟨g,0,none⟩) n n)) (y1 y2:Value) (e5:w.cell? ⟨g,i*7+4,none⟩=some y1) (e6:w.cell? ⟨g,i*7+5,none⟩=some y2) (z1:w.frozen? ⟨g,i*7+4,none⟩=false) (z2:w.frozen? ⟨g,i*7+5,none⟩=false):
  Calls prog 178 #[.pointer (some ⟨bp,0,none⟩),.int .i64 i,.int .i64 x,.int .i64 y] w fun e w'=>e=.returned (.tuple #[])/\y4f g (i*7+4) (i*7+5) (.int .i64 x) (.int .i64 y) w w':=by
 have A:(0:Int)<=(i:Int):=by omega
 go_in
 go_region_held3 (fun w'=>w'.cell? ⟨bp,0,none⟩=some (.slice (some ⟨g,0,none⟩) n n))
  (first|exact c0|exact(cso (by omega)).trans c0|exact(cso (by omega)).trans ((cso (by omega)).trans c0)) (fail)
 all_goals
  go_wp2
  go_end0
  exact⟨rfl,rfl,rfl,rfl,rfl⟩
def j4e(n:Int):Bool:=decide (0<=n)&&decide (n<=1000000)
def okC(c:Int × Int):Bool:=j4e c.1&&j4e c.2
theorem z3y{n:Int}(h:j4e n=true):0<=n/\n<=1000000:=by simpa[j4e]using h
theorem k9i{n:Int}(h:j4e n=false):n<0\/(0<=n/\1000000<n):=by
 simp[j4e]at h;omega
theorem z8g(n:Int)(w:World):Calls prog 117 #[.int .i64 n] w fun e w'=>e=.returned (.bool (j4e n))/\w=w':=by
 cases h:j4e n with
 | true=>
  obtain⟨A,C⟩:=z3y h;clear h;go_in;go_wp2;go_ret;exact⟨rfl,rfl⟩
 | false=>
  rcases k9i h with A|⟨A,C⟩
  ·have B:¬0<=n:=by omega
   clear h;go_in;go_wp2;go_ret;exact⟨rfl,rfl⟩
  ·have D:¬n<=1000000:=by omega
   clear h;go_in;go_wp2;go_ret;exact⟨rfl,rfl⟩
theorem k0l(cs:List (Int × Int))(B:Nat)(w:World)(hB:B<w.heap.size)(M:cs.length<=2)
  (hc:∀j(h:j<cs.length),w.cell? ⟨B,j*2,none⟩=some (.int .i64 cs[j].1)/\w.cell? ⟨B,j*2+1,none⟩=some (.int .i64 cs[j].2)):
  Calls prog 71 #[.slice (some ⟨B,0,none⟩) cs.length cs.length] w fun e w'=>((∃c∈cs,okC c=false)/\e=.returned (.iface 22 (.int .i64 1))\/(∀c∈cs,okC c=true)/\e=.returned .nilIface)/\Below w w w':=by
 go_in;go_wp2
 go_loopw [7] (fun i wr=>∃k:Nat,k<=cs.length/\i=.int .i64 k/\(∀c∈cs.take k,okC c=true)/\Below w w wr) (fun i _=>cs.length-(intOf i).toNat)
 case atStart=>exact⟨0,Nat.zero_le _,rfl,by simp,Below.refl _ _⟩
 case round=>
  obtain⟨k,P,rfl,D,G⟩:=hrel;by_cases A:k<cs.length
  ·have I:=(hc k A).1;have J:=(hc k A).2;have N:wr.cell? ⟨B,k*2,none⟩=some (.int .i64 cs[k].1):=(G.cell (p:=⟨B,k*2,none⟩) hB).trans I;have O:wr.cell? ⟨B,k*2+1,none⟩=some (.int .i64 cs[k].2):=(G.cell (p:=⟨B,k*2+1,none⟩) hB).trans J;clear I J hc;have H:w.heap.size<=wr.heap.size:=G.size;have E:Below w w (wr.alloc (.cells #[.int .i64 cs[k].1,.int .i64 cs[k].2] 57)):=G.alloc H _;cases K:j4e cs[k].1 with
   | false=>
    go_wp2_with(go_at_call 117;refine(z8g _ _).mono ?_;rintro e w'⟨rfl,rfl⟩);go_ret;exact⟨.inl ⟨⟨cs[k],List.getElem_mem A,by simp[okC,K]⟩,rfl⟩,E⟩
   | true=>
    cases L:j4e cs[k].2 with
    | false=>
     go_wp2_with(go_at_call 117;refine(z8g _ _).mono ?_;rintro e w'⟨rfl,rfl⟩);go_ret;exact⟨.inl ⟨⟨cs[k],List.getElem_mem A,by simp[okC,L]⟩,rfl⟩,E⟩
    | true=>
     go_wp2_with(go_at_call 117;refine(z8g _ _).mono ?_;rintro e w'⟨rfl,rfl⟩)
     go_roundw
     case rel=>
      refine⟨k+1,by omega,by go_num,?_,E⟩;intro c C;rw[List.take_succ_eq_append_getElem A]at C;rcases List.mem_append.1 C with h|h
      ·exact D c h
      ·simp at h;subst h;simp[okC,K,L]
     case measure=>simp[intOf];omega
  ·go_wp2;go_ret;exact⟨.inr ⟨fun c C=>D c (by rw[List.take_of_length_le (by omega)];exact C),rfl⟩,G⟩
theorem z3p(a b:Int × Int)(B:Nat)(w:World)(hB:B<w.heap.size)(ha:okC a=true)(hb:okC b=true)
  (h0:w.cell? ⟨B,0,none⟩=some (.int .i64 a.1)) (h1:w.cell? ⟨B,1,none⟩=some (.int .i64 a.2)) (h2:w.cell? ⟨B,2,none⟩=some (.int .i64 b.1)) (h3:w.cell? ⟨B,3,none⟩=some (.int .i64 b.2)):
  Calls prog 71 #[.slice (some ⟨B,0,none⟩) 2 2] w fun e w'=>e=.returned .nilIface/\Below w w w':=by
 refine(k0l [a,b] B w hB (by simp) ?_).mono ?_
 ·intro j E
  match j,E with
  | 0,_=>exact⟨h0,h1⟩
  | 1,_=>exact⟨h2,h3⟩
 ·rintro e w'⟨⟨⟨c,C,A⟩,D⟩|⟨_,D⟩,hB⟩
  ·simp at C;rcases C with rfl|rfl
   ·rw[ha]at A;cases A
   ·rw[hb]at A;cases A
  ·exact⟨D,hB⟩
theorem j3b(a:Int × Int)(B:Nat)(w:World)(hB:B<w.heap.size)(ha:okC a=true)
  (h0:w.cell? ⟨B,0,none⟩=some (.int .i64 a.1)) (h1:w.cell? ⟨B,1,none⟩=some (.int .i64 a.2)):
  Calls prog 71 #[.slice (some ⟨B,0,none⟩) 1 1] w fun e w'=>e=.returned .nilIface/\Below w w w':=by
 refine(k0l [a] B w hB (by simp) ?_).mono ?_
 ·intro j E
  match j,E with
  | 0,_=>exact⟨h0,h1⟩
 ·rintro e w'⟨⟨⟨c,A,D⟩,C⟩|⟨_,C⟩,hB⟩
  ·simp at A;subst A;rw[ha]at D;cases D
  ·exact⟨C,hB⟩
abbrev v2t(a:Int × Int):Value:=.agg #[.int .i64 a.1,.int .i64 a.2]
def z8m(a b:Int × Int):Bool:=if a.1=b.1 then decide (a.2<b.2)else decide (a.1<b.1)
theorem v7r{w w1:World}{A B C:Obj}(hb:Below (((w.alloc A).alloc B).alloc C).heap.size (((w.alloc A).alloc B).alloc C) w1):Below w w w1:=
 (((Zb.alloc Zl _).alloc (by simp) _).alloc (by simp;omega) _).trans (hb.mono (by simp;omega))
theorem y1r(a b:Int × Int)(w:World)(ha:okC a=true)(hb:okC b=true):
  Calls prog 27 #[v2t a,v2t b] w fun e w'=>e=.returned (.tuple #[.bool (z8m a b),.nilIface])/\Below w w w':=by
 have D:Hid (okC a=true):=ha;have E:Hid (okC b=true):=hb;clear ha hb;by_cases h:a.1=b.1
 ·have C:z8m a b=decide (a.2<b.2):=by simp[z8m,h]
  rw[C];have G:(a.1 != b.1)=false:=by simp[h]
  clear h C;go_in;go_wp2_with fail;refine(z3p a b (w.heap.size+1+1) _ (by simp) D.o E.o (by simp[go_sem]) (by simp[go_sem]) (by simp[go_sem]) (by simp[go_sem])).mono ?_;rintro e I⟨rfl,A⟩;have B:=v7r A;obtain⟨H,_⟩:=q1z A;clear A;go_wp2;go_ret2;exact⟨rfl,B⟩
 ·have C:z8m a b=decide (a.1<b.1):=by simp[z8m,h]
  rw[C];have G:(a.1 != b.1)=true:=by simp[h]
  clear h C;go_in;go_wp2_with fail;refine(z3p a b (w.heap.size+1+1) _ (by simp) D.o E.o (by simp[go_sem]) (by simp[go_sem]) (by simp[go_sem]) (by simp[go_sem])).mono ?_;rintro e I⟨rfl,A⟩;have B:=v7r A;obtain⟨H,_⟩:=q1z A;clear A;go_wp2;go_ret2;exact⟨rfl,B⟩
theorem y4j{w w1:World}{A B C D:Obj}(hb:Below ((((w.alloc A).alloc B).alloc C).alloc D).heap.size ((((w.alloc A).alloc B).alloc C).alloc D) w1):Below w w w1:=
 ((((Zb.alloc Zl _).alloc (by simp) _).alloc (by simp;omega) _).alloc (by simp;omega) _).trans (hb.mono (by simp;omega))
theorem v7q{n:Nat}{w w1 w2:World}{A B:Obj}(h1:Below n w w1)(hn:n<=w.heap.size)(hb:Below ((w1.alloc A).alloc B).heap.size ((w1.alloc A).alloc B) w2):Below n w w2:=
 have h2:=h1.size
 ((h1.alloc (by omega) _).alloc (by simp;omega) _).trans (hb.mono (by simp;omega))
theorem v8z{a:Int × Int}(h:okC a=true):(0<=a.1/\a.1<=1000000)/\(0<=a.2/\a.2<=1000000):=by
 simp only[okC,Bool.and_eq_true]at h;exact⟨z3y h.1,z3y h.2⟩
abbrev y7v(a b:Int × Int):Int × Int:=(a.1+b.1,a.2+b.2)
theorem y4g(a b:Int × Int)(w:World)(ha:okC a=true)(hb:okC b=true)(hn:okC (y7v a b)=true):
  Calls prog 247 #[v2t a,v2t b] w fun e w'=>e=.returned (.tuple #[.agg #[.int .i64 (a.1+b.1),.int .i64 (a.2+b.2)],.nilIface])/\Below w w w':=by
 obtain⟨⟨c,d⟩,⟨f,g⟩⟩:=v8z ha;obtain⟨⟨h,i⟩,⟨j,k⟩⟩:=v8z hb;have R:Hid (okC a=true):=ha;have S:Hid (okC b=true):=hb;have U:Hid (okC (y7v a b)=true):=hn;clear hn ha hb;go_in;go_wp2_with fail;refine(z3p a b (w.heap.size+1+1+1) _ (by simp) R.o S.o (by simp[go_sem]) (by simp[go_sem]) (by simp[go_sem]) (by simp[go_sem])).mono ?_;rintro e A⟨rfl,C⟩;have I:=y4j C;obtain⟨E,K⟩:=q1z C;have Z:w.heap.size+1+1+1<A.heap.size:=by have:=C.size;simp at this;omega
 clear C;have P:A.cell? ⟨w.heap.size+1+1,0,none⟩=some (.int .i64 0):=(E _ _ (by simp only[World.size_alloc];omega)).trans (by simp[go_sem]);have Q:A.cell? ⟨w.heap.size+1+1,1,none⟩=some (.int .i64 0):=(E _ _ (by simp only[World.size_alloc];omega)).trans (by simp[go_sem]);have N:A.frozen? ⟨w.heap.size+1+1,0,none⟩=false:=(K _ _ (by simp only[World.size_alloc];omega)).trans (by simp[go_sem]);have O:A.frozen? ⟨w.heap.size+1+1,1,none⟩=false:=(K _ _ (by simp only[World.size_alloc];omega)).trans (by simp[go_sem]);have u0:A.cell? ⟨w,0,none⟩=some (.int .i64 a.1):=(E _ _ (by simp only[World.size_alloc];omega)).trans (by simp[go_sem]);have u1:A.cell? ⟨w,1,none⟩=some (.int .i64 a.2):=(E _ _ (by simp only[World.size_alloc];omega)).trans (by simp[go_sem]);have X:A.cell? ⟨w.heap.size+1,0,none⟩=some (.int .i64 b.1):=(E _ _ (by simp only[World.size_alloc];omega)).trans (by simp[go_sem]);have Y:A.cell? ⟨w.heap.size+1,1,none⟩=some (.int .i64 b.2):=(E _ _ (by simp only[World.size_alloc];omega)).trans (by simp[go_sem]);clear E K;go_wp2_with fail;refine(j3b (y7v a b) (A.heap.size+1) _ (by simp) U.o (by simp[go_sem]) (by simp[go_sem])).mono ?_;rintro e H⟨rfl,D⟩;have J:=v7q I Zl D;have B:=v7q (Below.refl A.heap.size A) Zl D;obtain⟨G,_⟩:=q1z D;clear D;have L:H.cell? ⟨w.heap.size+1+1,0,none⟩=some (.int .i64 0):=(B.cell (p:=⟨w.heap.size+1+1,0,none⟩) (show w.heap.size+1+1<A.heap.size by omega)).trans P;have M:H.cell? ⟨w.heap.size+1+1,1,none⟩=some (.int .i64 0):=(B.cell (p:=⟨w.heap.size+1+1,1,none⟩) (show w.heap.size+1+1<A.heap.size by omega)).trans Q;have V:H.frozen? ⟨w.heap.size+1+1,0,none⟩=false:=(B.frozen (p:=⟨w.heap.size+1+1,0,none⟩) (show w.heap.size+1+1<A.heap.size by omega)).trans N;have W:H.frozen? ⟨w.heap.size+1+1,1,none⟩=false:=(B.frozen (p:=⟨w.heap.size+1+1,1,none⟩) (show w.heap.size+1+1<A.heap.size by omega)).trans O;have l:H.cell? ⟨A,0,none⟩=some (.int .i64 (a.1+b.1)):=(G _ _ (by simp only[World.size_alloc];omega)).trans (by simp[go_sem]);have m:H.cell? ⟨A,1,none⟩=some (.int .i64 (a.2+b.2)):=(G _ _ (by simp only[World.size_alloc];omega)).trans (by simp[go_sem]);clear G I B P Q N O u0 u1 X Y;go_wp2;exact bodyPost_ret (v:=.tuple #[.agg #[.int .i64 (a.1+b.1),.int .i64 (a.2+b.2)],.nilIface]) (by simp[results,Tryz.results247,go_sem,L,M]) rfl ⟨rfl,(J.setCell (p:=⟨w.heap.size+1+1,0,none⟩) (by simp;omega) _).setCell (p:=⟨w.heap.size+1+1,1,none⟩) (by simp;omega) _⟩
theorem y8g(w:World)(O1 O2 O3:Obj):Below w w (((w.alloc O1).alloc O2).alloc O3):=(((Below.refl _ w).alloc Zl _).alloc (by simp) _).alloc (by simp;omega) _
theorem z1l(bp wd p c k:Nat)(w:World)(hw:wd<=100)(hc:c<=100)(hk:k<=20000)
  (c1:w.cell? ⟨bp,1,none⟩=some (.int .i64 wd)):
  Calls prog 246 #[.pointer (some ⟨bp,0,none⟩),.agg #[.int .i64 p,.int .i64 c],.int .i64 k] w fun e w'=>e=.returned (.tuple #[.agg #[.int .i64 p,.int .i64 ((min (c+k) wd:Nat):Int)],.agg #[.int .i64 ((c+k-wd:Nat):Int),.int .i64 0]])/\Below w w w':=by
 have H:IntKind.i64.wrap ((c:Int)+(k:Int))=(c:Int)+(k:Int):=by rw[IntKind.wrap_i64];omega
 have I:IntKind.i64.wrap ((c:Int)+(k:Int)-(wd:Int))=(c:Int)+(k:Int)-(wd:Int):=by rw[IntKind.wrap_i64];omega
 have D:=World.block_lt_of_cell? w ⟨bp,1,none⟩ c1;have A:=fun O1 O2 O3=>y8g w O1 O2 O3
 have C:∀O1 O2 O3,(((w.alloc O1).alloc O2).alloc O3).cell? ⟨bp,1,none⟩=some (.int .i64 wd):=fun O1 O2 O3=>((A O1 O2 O3).cell (p:=⟨bp,1,none⟩) D).trans c1
 have B:∀O2 O3,(((w.alloc (.cells #[.int .i64 p,.int .i64 c] 121)).alloc O2).alloc O3).cell? ⟨w,0,none⟩=some (.int .i64 p):=fun O2 O3=>by simp[go_sem]
 have E:((min (c+k) wd:Nat):Int)=min ((c:Int)+k) wd:=by omega
 have G:((c+k-wd:Nat):Int)=max ((c:Int)+k-wd) 0:=by omega
 rw[E,G];clear E G;go_in;go_wp2_with fail
 go_region_held3 (fun w'=>w'.cell? ⟨bp,1,none⟩=some (.int .i64 wd)/\w'.cell? ⟨w,0,none⟩=some (.int .i64 p)) (exact⟨C _ _ _,B _ _⟩) (fail)
 all_goals
  go_wp2;exact bodyPost_ret (v:=.tuple #[.agg #[.int .i64 p,.int .i64 (min ((c:Int)+k) wd)],.agg #[.int .i64 (max ((c:Int)+k-wd) 0),.int .i64 0]]) (by simp[results,Tryz.results246,go_sem]) rfl ⟨rfl,(A _ _ _).drew⟩
theorem k3e(bp wd p k:Nat)(w:World)(hw:wd<=100)(hk:k<=20000)(c1:w.cell? ⟨bp,1,none⟩=some (.int .i64 wd)):
  Calls prog 246 #[.pointer (some ⟨bp,0,none⟩),.agg #[.int .i64 p,.int .i64 0],.int .i64 k] w fun e w'=>e=.returned (.tuple #[.agg #[.int .i64 p,.int .i64 ((min k wd:Nat):Int)],.agg #[.int .i64 ((k-wd:Nat):Int),.int .i64 0]])/\Below w w w':=by
 have h:=z1l bp wd p 0 k w hw (by omega) hk c1;rw[Nat.zero_add]at h;exact h
theorem q9u(op:Int)(tx:ByteArray)(a b c d e:Int)(w:World):
  Calls prog 111 #[.agg #[.int .i64 op,.string tx,.int .i64 a,.int .i64 b,.int .i64 c,.int .i64 d,.int .i64 e]] w fun e w'=>e=.returned (.bool (z1s op))/\Below w w w':=by
 cases B:(op==8)with
 | true=>
  have A:z1s op=true:=by simp[z1s,beq_iff_eq.1 B]
  rw[A];go_in;go_wp2;go_ret;exact⟨rfl,Zb.alloc Zl _⟩
 | false=>
  cases C:(op==9)with
  | true=>
   have A:z1s op=true:=by simp[z1s,beq_iff_eq.1 C]
   rw[A];go_in;go_wp2;go_ret;exact⟨rfl,Zb.alloc Zl _⟩
  | false=>
   have A:z1s op=false:=by simp[z1s,beq_eq_false_iff_ne.1 B,beq_eq_false_iff_ne.1 C]
   rw[A];go_in;go_wp2;go_ret;exact⟨rfl,Zb.alloc Zl _⟩
theorem k1z{a b:Nat}(ha:a<=1000000)(hb:b<=1000000):okC ((a:Int),(b:Int))=true:=by
 simp[okC,j4e];omega
theorem j2o(a b c d:Nat)(ha:a<=1000000)(hb:b<=1000000)(hc:c<=1000000)(hd:d<=1000000)(w:World):
  Calls prog 181 #[.agg #[.int .i64 a,.int .i64 b],.agg #[.int .i64 c,.int .i64 d]] w fun e w'=>e=.returned (.bool (decide (q2w (a,b) (c,d))))/\Below w w w':=by
 have B:decide (q2w (a,b) (c,d))=z8m ((a:Int),(b:Int)) ((c:Int),(d:Int)):=by
  rw[Bool.eq_iff_iff,decide_eq_true_eq];unfold z8m q2w;dsimp only
  split
  ·rw[decide_eq_true_eq];omega
  ·rw[decide_eq_true_eq];omega
 rw[B]
 have C:Hid (∀w,Calls prog 27 #[.agg #[.int .i64 a,.int .i64 b],.agg #[.int .i64 c,.int .i64 d]] w fun e w'=>e=.returned (.tuple #[.bool (z8m ((a:Int),(b:Int)) ((c:Int),(d:Int))),.nilIface])/\Below w w w'):=fun w=>
  y1r ((a:Int),(b:Int)) ((c:Int),(d:Int)) w (k1z ha hb) (k1z hc hd)
 clear B;generalize z8m ((a:Int),(b:Int)) ((c:Int),(d:Int))=v at *;go_in;go_wp2_with fail;refine(C.o _).mono ?_;rintro e D⟨rfl,A⟩;go_wp2;go_ret;exact⟨rfl,(((Below.refl _ w).alloc Zl _).alloc (by simp) _).trans (A.mono (by simp;omega))⟩
theorem v2m(a b c d:Nat)(ha:a<=400000)(hb:b<=400000)(hc:c<=400000)(hd:d<=400000)(w:World):
  Calls prog 218 #[.agg #[.int .i64 a,.int .i64 b],.agg #[.int .i64 c,.int .i64 d]] w fun e w'=>e=.returned (.agg #[.int .i64 ((a+c:Nat):Int),.int .i64 ((b+d:Nat):Int)])/\Below w w w':=by
 have E:((a+c:Nat):Int)=(a:Int)+c:=by omega
 have G:((b+d:Nat):Int)=(b:Int)+d:=by omega
 have H:okC (y7v ((a:Int),(b:Int)) ((c:Int),(d:Int)))=true:=by
  have:=k1z (a:=a+c) (b:=b+d) (by omega) (by omega)
  rw[E,G]at this;exact this
 rw[E,G]
 have I:Hid (∀w,Calls prog 247 #[.agg #[.int .i64 a,.int .i64 b],.agg #[.int .i64 c,.int .i64 d]] w fun e w'=>e=.returned (.tuple #[.agg #[.int .i64 ((a:Int)+c),.int .i64 ((b:Int)+d)],.nilIface])/\Below w w w'):=fun w=>
  y4g ((a:Int),(b:Int)) ((c:Int),(d:Int)) w (k1z (by omega) (by omega)) (k1z (by omega) (by omega)) H
 clear E G H
 generalize(a:Int)+c=v1 at *
 generalize(b:Int)+d=v2 at *
 go_in;go_wp2_with fail;refine(I.o _).mono ?_;rintro e A⟨rfl,B⟩;obtain⟨C,D⟩:=q1z B;have K:w.heap.size+1+1+1<=A.heap.size:=by have:=B.size;simpa using this
 have L:∀O,(A.alloc O).cell? ⟨w.heap.size+1+1,0,none⟩=some (.int .i64 0):=fun O=>(((Below.refl _ A).alloc Zl O).cell (p:=⟨w.heap.size+1+1,0,none⟩) (by simp;omega)).trans ((C _ _ (by simp)).trans (by simp[go_sem]))
 have M:∀O,(A.alloc O).cell? ⟨w.heap.size+1+1,1,none⟩=some (.int .i64 0):=fun O=>(((Below.refl _ A).alloc Zl O).cell (p:=⟨w.heap.size+1+1,1,none⟩) (by simp;omega)).trans ((C _ _ (by simp)).trans (by simp[go_sem]))
 have N:∀O,(A.alloc O).frozen? ⟨w.heap.size+1+1,0,none⟩=false:=fun O=>(((Below.refl _ A).alloc Zl O).frozen (p:=⟨w.heap.size+1+1,0,none⟩) (by simp;omega)).trans ((D _ _ (by simp)).trans (by simp[go_sem]))
 have P:∀O,(A.alloc O).frozen? ⟨w.heap.size+1+1,1,none⟩=false:=fun O=>(((Below.refl _ A).alloc Zl O).frozen (p:=⟨w.heap.size+1+1,1,none⟩) (by simp;omega)).trans ((D _ _ (by simp)).trans (by simp[go_sem]))
 have J:Below w w A:=(y8g w _ _ _).trans (B.mono (by simp;omega));clear C D B;go_wp2;exact bodyPost_ret (v:=.agg #[.int .i64 v1,.int .i64 v2]) (by simp[results,Tryz.results218,go_sem,L,M]) rfl ⟨rfl,((J.alloc (by omega) _).setCell (p:=⟨w.heap.size+1+1,0,none⟩) (by simp;omega) _).setCell (p:=⟨w.heap.size+1+1,1,none⟩) (by simp;omega) _⟩
theorem v7t(w:World)(O1 O2 O3 O4:Obj):Below w w ((((w.alloc O1).alloc O2).alloc O3).alloc O4):=(y8g w O1 O2 O3).alloc (by simp;omega) _
theorem k3{w:World}{b o:Nat}{v:Value}(h:w.cell? ⟨b,o,none⟩=some v)(O1 O2 O3:Obj):(((w.alloc O1).alloc O2).alloc O3).cell? ⟨b,o,none⟩=some v:=ka (ka (ka h _) _) _
theorem k4{w:World}{b o:Nat}{v:Value}(h:w.cell? ⟨b,o,none⟩=some v)(O1 O2 O3 O4:Obj):((((w.alloc O1).alloc O2).alloc O3).alloc O4).cell? ⟨b,o,none⟩=some v:=ka (k3 h _ _ _) _
theorem k4d{w:World}{b o:Nat}{v:Value}(h:w.cell? ⟨b,o,none⟩=some v)(O1 O2 O3 O4:Obj):((((w.alloc O1).alloc O2).alloc O3).alloc O4).drew.cell? ⟨b,o,none⟩=some v:=k4 h _ _ _ _
theorem k8w(bp g n wd i c:Nat)(tx:ByteArray)(nn en:Int)(nx dp:Nat)(lg:Int)(ch:Nat)(w:World)(hi:(i:Int)<n)(hw:wd<=100)(hc:c<=100)(hk:tx.size<=20000)
  (c0:w.cell? ⟨bp,0,none⟩=some (.slice (some ⟨g,0,none⟩) n n)) (c1:w.cell? ⟨bp,1,none⟩=some (.int .i64 wd))
  (d0:w.cell? ⟨g,i*7,none⟩=some (.int .i64 1)) (d1:w.cell? ⟨g,i*7+1,none⟩=some (.string tx)) (d2:w.cell? ⟨g,i*7+2,none⟩=some (.int .i64 nn)) (d3:w.cell? ⟨g,i*7+3,none⟩=some (.int .i64 en)) (d4:w.cell? ⟨g,i*7+4,none⟩=some (.int .i64 nx)) (d5:w.cell? ⟨g,i*7+5,none⟩=some (.int .i64 dp)) (d6:w.cell? ⟨g,i*7+6,none⟩=some (.int .i64 lg)):
  Calls prog 217 #[.pointer (some ⟨bp,0,none⟩),.agg #[.int .i64 i,.int .i64 c],.int .i64 ch] w fun e w'=>e=.returned (.tuple #[.agg #[.int .i64 nx,.int .i64 ((min (c+tx.size) wd:Nat):Int)],.agg #[.int .i64 ((c+tx.size-wd:Nat):Int),.int .i64 0]])/\Below w w w':=by
 have O:(0:Int)<=(i:Int):=by omega
 have N:=World.block_lt_of_cell? w ⟨bp,0,none⟩ c0;have H:=World.block_lt_of_cell? w ⟨g,i*7,none⟩ d0;have E:∀O2 O3,(((w.alloc (.cells #[.int .i64 i,.int .i64 c] 121)).alloc O2).alloc O3).cell? ⟨w,0,none⟩=some (.int .i64 i):=fun O2 O3=>by simp[go_sem]
 have G:∀O2 O3 O4,((((w.alloc (.cells #[.int .i64 i,.int .i64 c] 121)).alloc O2).alloc O3).alloc O4).cell? ⟨w,0,none⟩=some (.int .i64 i):=fun O2 O3 O4=>ka (E O2 O3) O4
 go_in;go_wp2_with fail
 go_region_held3 (fun w'=>w'.cell? ⟨bp,0,none⟩=some (.slice (some ⟨g,0,none⟩) n n)/\w'.cell? ⟨w,0,none⟩=some (.int .i64 i)/\w'.cell? ⟨g,i*7,none⟩=some (.int .i64 1)/\w'.cell? ⟨g,i*7+1,none⟩=some (.string tx)/\w'.cell? ⟨g,i*7+2,none⟩=some (.int .i64 nn)/\w'.cell? ⟨g,i*7+3,none⟩=some (.int .i64 en)/\w'.cell? ⟨g,i*7+4,none⟩=some (.int .i64 nx)/\w'.cell? ⟨g,i*7+5,none⟩=some (.int .i64 dp)/\w'.cell? ⟨g,i*7+6,none⟩=some (.int .i64 lg))
  (first|exact⟨k3 c0 _ _ _,E _ _,k3 d0 _ _ _,k3 d1 _ _ _,k3 d2 _ _ _,k3 d3 _ _ _,k3 d4 _ _ _,k3 d5 _ _ _,k3 d6 _ _ _⟩|exact⟨k4 c0 _ _ _ _,G _ _ _,k4 d0 _ _ _ _,k4 d1 _ _ _ _,k4 d2 _ _ _ _,k4 d3 _ _ _ _,k4 d4 _ _ _ _,k4 d5 _ _ _ _,k4 d6 _ _ _ _⟩) (fail)
 all_goals
  go_wp2_with fail;refine(z1l bp wd nx c tx.size _ hw hc hk (k4d c1 _ _ _ _)).mono ?_;rintro e C⟨rfl,D⟩;obtain⟨A,B⟩:=q1z D;have P:w.heap.size+1+1+1+1<=C.heap.size:=by have:=D.size;simpa using this
  have I:C.cell? ⟨w.heap.size+1,0,none⟩=some (.int .i64 0):=(A _ _ (by simp)).trans (by simp[go_sem]);have J:C.cell? ⟨w.heap.size+1,1,none⟩=some (.int .i64 0):=(A _ _ (by simp)).trans (by simp[go_sem]);have K:C.cell? ⟨w.heap.size+1+1,0,none⟩=some (.int .i64 0):=(A _ _ (by simp)).trans (by simp[go_sem]);have L:C.cell? ⟨w.heap.size+1+1,1,none⟩=some (.int .i64 0):=(A _ _ (by simp)).trans (by simp[go_sem]);have Q:C.frozen? ⟨w.heap.size+1,0,none⟩=false:=(B _ _ (by simp)).trans (by simp[go_sem]);have R:C.frozen? ⟨w.heap.size+1,1,none⟩=false:=(B _ _ (by simp)).trans (by simp[go_sem]);have S:C.frozen? ⟨w.heap.size+1+1,0,none⟩=false:=(B _ _ (by simp)).trans (by simp[go_sem]);have U:C.frozen? ⟨w.heap.size+1+1,1,none⟩=false:=(B _ _ (by simp)).trans (by simp[go_sem]);have M:Below w w C:=(v7t w _ _ _ _).drew.trans (D.mono (by simp;omega));clear A B D;go_wp2;exact bodyPost_ret (v:=.tuple #[.agg #[.int .i64 nx,.int .i64 ((min (c+tx.size) wd:Nat):Int)],.agg #[.int .i64 ((c+tx.size-wd:Nat):Int),.int .i64 0]]) (by simp[results,Tryz.results217,go_sem,I,J,K,L]) rfl ⟨rfl,(((M.setCell (p:=⟨w.heap.size+1,0,none⟩) (by simp) _).setCell (p:=⟨w.heap.size+1,1,none⟩) (by simp) _).setCell (p:=⟨w.heap.size+1+1,0,none⟩) (by simp;omega) _).setCell (p:=⟨w.heap.size+1+1,1,none⟩) (by simp;omega) _⟩
theorem k8u(bp g n wd i c:Nat)(tx:ByteArray)(nn en:Int)(nx dp:Nat)(lg:Nat)(w:World)(hi:(i:Int)<n)(hw:wd<=100)(hc:c<=100)(hk:lg<=20000)
  (c0:w.cell? ⟨bp,0,none⟩=some (.slice (some ⟨g,0,none⟩) n n)) (c1:w.cell? ⟨bp,1,none⟩=some (.int .i64 wd))
  (d0:w.cell? ⟨g,i*7,none⟩=some (.int .i64 8)) (d1:w.cell? ⟨g,i*7+1,none⟩=some (.string tx)) (d2:w.cell? ⟨g,i*7+2,none⟩=some (.int .i64 nn)) (d3:w.cell? ⟨g,i*7+3,none⟩=some (.int .i64 en)) (d4:w.cell? ⟨g,i*7+4,none⟩=some (.int .i64 nx)) (d5:w.cell? ⟨g,i*7+5,none⟩=some (.int .i64 dp)) (d6:w.cell? ⟨g,i*7+6,none⟩=some (.int .i64 lg)):
  Calls prog 217 #[.pointer (some ⟨bp,0,none⟩),.agg #[.int .i64 i,.int .i64 c],.int .i64 0] w fun e w'=>e=.returned (.tuple #[.agg #[.int .i64 nx,.int .i64 ((min (c+lg) wd:Nat):Int)],.agg #[.int .i64 ((c+lg-wd:Nat):Int),.int .i64 0]])/\Below w w w':=by
 have O:(0:Int)<=(i:Int):=by omega
 have N:=World.block_lt_of_cell? w ⟨bp,0,none⟩ c0;have H:=World.block_lt_of_cell? w ⟨g,i*7,none⟩ d0;have E:∀O2 O3,(((w.alloc (.cells #[.int .i64 i,.int .i64 c] 121)).alloc O2).alloc O3).cell? ⟨w,0,none⟩=some (.int .i64 i):=fun O2 O3=>by simp[go_sem]
 have G:∀O2 O3 O4,((((w.alloc (.cells #[.int .i64 i,.int .i64 c] 121)).alloc O2).alloc O3).alloc O4).cell? ⟨w,0,none⟩=some (.int .i64 i):=fun O2 O3 O4=>ka (E O2 O3) O4
 go_in;go_wp2_with fail
 go_region_held3 (fun w'=>w'.cell? ⟨bp,0,none⟩=some (.slice (some ⟨g,0,none⟩) n n)/\w'.cell? ⟨w,0,none⟩=some (.int .i64 i)/\w'.cell? ⟨g,i*7,none⟩=some (.int .i64 8)/\w'.cell? ⟨g,i*7+1,none⟩=some (.string tx)/\w'.cell? ⟨g,i*7+2,none⟩=some (.int .i64 nn)/\w'.cell? ⟨g,i*7+3,none⟩=some (.int .i64 en)/\w'.cell? ⟨g,i*7+4,none⟩=some (.int .i64 nx)/\w'.cell? ⟨g,i*7+5,none⟩=some (.int .i64 dp)/\w'.cell? ⟨g,i*7+6,none⟩=some (.int .i64 lg))
  (first|exact⟨k3 c0 _ _ _,E _ _,k3 d0 _ _ _,k3 d1 _ _ _,k3 d2 _ _ _,k3 d3 _ _ _,k3 d4 _ _ _,k3 d5 _ _ _,k3 d6 _ _ _⟩|exact⟨k4 c0 _ _ _ _,G _ _ _,k4 d0 _ _ _ _,k4 d1 _ _ _ _,k4 d2 _ _ _ _,k4 d3 _ _ _ _,k4 d4 _ _ _ _,k4 d5 _ _ _ _,k4 d6 _ _ _ _⟩) (fail)
 all_goals
  go_wp2_with fail;refine(z1l bp wd nx c lg _ hw hc hk (k4d c1 _ _ _ _)).mono ?_;rintro e C⟨rfl,D⟩;obtain⟨A,B⟩:=q1z D;have P:w.heap.size+1+1+1+1<=C.heap.size:=by have:=D.size;simpa using this
  have I:C.cell? ⟨w.heap.size+1,0,none⟩=some (.int .i64 0):=(A _ _ (by simp)).trans (by simp[go_sem]);have J:C.cell? ⟨w.heap.size+1,1,none⟩=some (.int .i64 0):=(A _ _ (by simp)).trans (by simp[go_sem]);have K:C.cell? ⟨w.heap.size+1+1,0,none⟩=some (.int .i64 0):=(A _ _ (by simp)).trans (by simp[go_sem]);have L:C.cell? ⟨w.heap.size+1+1,1,none⟩=some (.int .i64 0):=(A _ _ (by simp)).trans (by simp[go_sem]);have Q:C.frozen? ⟨w.heap.size+1,0,none⟩=false:=(B _ _ (by simp)).trans (by simp[go_sem]);have R:C.frozen? ⟨w.heap.size+1,1,none⟩=false:=(B _ _ (by simp)).trans (by simp[go_sem]);have S:C.frozen? ⟨w.heap.size+1+1,0,none⟩=false:=(B _ _ (by simp)).trans (by simp[go_sem]);have U:C.frozen? ⟨w.heap.size+1+1,1,none⟩=false:=(B _ _ (by simp)).trans (by simp[go_sem]);have M:Below w w C:=(v7t w _ _ _ _).drew.trans (D.mono (by simp;omega));clear A B D;go_wp2;exact bodyPost_ret (v:=.tuple #[.agg #[.int .i64 nx,.int .i64 ((min (c+lg) wd:Nat):Int)],.agg #[.int .i64 ((c+lg-wd:Nat):Int),.int .i64 0]]) (by simp[results,Tryz.results217,go_sem,I,J,K,L]) rfl ⟨rfl,(((M.setCell (p:=⟨w.heap.size+1,0,none⟩) (by simp) _).setCell (p:=⟨w.heap.size+1,1,none⟩) (by simp) _).setCell (p:=⟨w.heap.size+1+1,0,none⟩) (by simp;omega) _).setCell (p:=⟨w.heap.size+1+1,1,none⟩) (by simp;omega) _⟩
inductive Tag (k:Nat):Type
 | mk
inductive Sel {α:Type} (k:Nat) (a b:α):Type
 | mk
def sel{α:Type}{k:Nat}(_:Tag k)(a b:α):Sel k a b:=.mk
def q5k{k:Nat}(_:Tag k)(a b:Nat):Sel k a b:=.mk
instance{α:Type}(a b:α)(s:Sel 0 a b):CoeDep (Sel 0 a b) s α:=⟨a⟩
instance{α:Type}(a b:α)(s:Sel 1 a b):CoeDep (Sel 1 a b) s α:=⟨b⟩
inductive y3t (o:Int):Type
 | mk
instance(o:Int)(t:y3t o):CoeDep (y3t o) t Int:=⟨o⟩
end Go.Proofs.YthcpdohdppkmkaaGreatDoor
