/- Texts as one: PlanW2, PlanW3, PlanW4, PlanZ, IntApp. -/
import Derived.Test.YthjapabokcajhaaGreatDoorPi16
import Derived.Laws.AppendOwn
import Derived.Laws.AppendOwnNone
open Go.Proofs.Tryz
namespace Go.Proofs.YthjapabokcajhaaGreatDoor
open Go Go.RowKit
set_option maxRecDepth 100000
set_option maxHeartbeats 4000000
theorem y0i(bp be bf s o n cap i:Nat)(x1:Int)(f1:Bool)(w:World)(hn:n<=400)(hi:(i:Int)<n)(hi1:(i:Int)+1<n)(h1:bp≠be)(h2:bp≠bf)(h3:be≠bf)(h4:s≠be)(h5:s≠bf)
  (c0:w.cell? ⟨bp,0,none⟩=some (.slice (some ⟨s,o,none⟩) n cap)) (c1:w.cell? ⟨bp,1,none⟩=some (.slice (some ⟨be,0,none⟩) n n)) (c2:w.cell? ⟨bp,2,none⟩=some (.slice (some ⟨bf,0,none⟩) n n))
  (d1:w.cell? ⟨s,o+i*3,none⟩=some (.int .i64 7))
  (e1:w.cell? ⟨be,i+1,none⟩=some (.int .i64 x1))
  (e3:w.cell? ⟨bf,i+1,none⟩=some (.bool f1))
  (y1 y2:Value) (e5:w.cell? ⟨be,i,none⟩=some y1) (e6:w.cell? ⟨bf,i,none⟩=some y2) (z1:w.frozen? ⟨be,i,none⟩=false) (z2:w.frozen? ⟨bf,i,none⟩=false):
  Calls prog 90 #[.pointer (some ⟨bp,0,none⟩),.int .i64 i] w fun e w'=>e=.returned (.tuple #[])/\q9w be bf i (.int .i64 x1) (.bool f1) w w':=by
 have hw1:=z5x hn hi;have hp1:(0:Int)<=(i:Int)+1:=by omega
 have hp0:(0:Int)<=(i:Int):=by omega
 have htn:((i:Int)+1).toNat=i+1:=by omega
 go_in;go_wp2_with fail
 go_region_held3 (fun w'=>w'.cell? ⟨bp,0,none⟩=some (.slice (some ⟨s,o,none⟩) n cap)/\w'.cell? ⟨bp,1,none⟩=some (.slice (some ⟨be,0,none⟩) n n)/\w'.cell? ⟨bp,2,none⟩=some (.slice (some ⟨bf,0,none⟩) n n)/\w'.cell? ⟨s,o+i*3,none⟩=some (.int .i64 7)/\w'.cell? ⟨be,i+1,none⟩=some (.int .i64 x1)/\w'.cell? ⟨bf,i+1,none⟩=some (.bool f1))
  (first|exact⟨c0,c1,c2,d1,e1,e3⟩|exact⟨(cso (by omega)).trans c0,(cso (by omega)).trans c1,(cso (by omega)).trans c2,(cso (by omega)).trans d1,(cso (by omega)).trans e1,(cso (by omega)).trans e3⟩|exact⟨(cso (by omega)).trans ((cso (by omega)).trans c0),(cso (by omega)).trans ((cso (by omega)).trans c1),(cso (by omega)).trans ((cso (by omega)).trans c2),(cso (by omega)).trans ((cso (by omega)).trans d1),(cso (by omega)).trans ((cso (by omega)).trans e1),(cso (by omega)).trans ((cso (by omega)).trans e3)⟩) (fail)
 all_goals
  go_wp2
  go_end0
  exact⟨rfl,rfl,rfl,rfl,rfl⟩
theorem y0j(bp be bf s o n cap i:Nat)(x1:Int)(f1:Bool)(w:World)(hn:n<=400)(hi:(i:Int)<n)(hi1:(i:Int)+1<n)(h1:bp≠be)(h2:bp≠bf)(h3:be≠bf)(h4:s≠be)(h5:s≠bf)
  (c0:w.cell? ⟨bp,0,none⟩=some (.slice (some ⟨s,o,none⟩) n cap)) (c1:w.cell? ⟨bp,1,none⟩=some (.slice (some ⟨be,0,none⟩) n n)) (c2:w.cell? ⟨bp,2,none⟩=some (.slice (some ⟨bf,0,none⟩) n n))
  (d1:w.cell? ⟨s,o+i*3,none⟩=some (.int .i64 8))
  (e1:w.cell? ⟨be,i+1,none⟩=some (.int .i64 x1))
  (e3:w.cell? ⟨bf,i+1,none⟩=some (.bool f1))
  (y1 y2:Value) (e5:w.cell? ⟨be,i,none⟩=some y1) (e6:w.cell? ⟨bf,i,none⟩=some y2) (z1:w.frozen? ⟨be,i,none⟩=false) (z2:w.frozen? ⟨bf,i,none⟩=false):
  Calls prog 90 #[.pointer (some ⟨bp,0,none⟩),.int .i64 i] w fun e w'=>e=.returned (.tuple #[])/\q9w be bf i (.int .i64 x1) (.bool f1) w w':=by
 have hw1:=z5x hn hi;have hp1:(0:Int)<=(i:Int)+1:=by omega
 have hp0:(0:Int)<=(i:Int):=by omega
 have htn:((i:Int)+1).toNat=i+1:=by omega
 go_in;go_wp2_with fail
 go_region_held3 (fun w'=>w'.cell? ⟨bp,0,none⟩=some (.slice (some ⟨s,o,none⟩) n cap)/\w'.cell? ⟨bp,1,none⟩=some (.slice (some ⟨be,0,none⟩) n n)/\w'.cell? ⟨bp,2,none⟩=some (.slice (some ⟨bf,0,none⟩) n n)/\w'.cell? ⟨s,o+i*3,none⟩=some (.int .i64 8)/\w'.cell? ⟨be,i+1,none⟩=some (.int .i64 x1)/\w'.cell? ⟨bf,i+1,none⟩=some (.bool f1))
  (first|exact⟨c0,c1,c2,d1,e1,e3⟩|exact⟨(cso (by omega)).trans c0,(cso (by omega)).trans c1,(cso (by omega)).trans c2,(cso (by omega)).trans d1,(cso (by omega)).trans e1,(cso (by omega)).trans e3⟩|exact⟨(cso (by omega)).trans ((cso (by omega)).trans c0),(cso (by omega)).trans ((cso (by omega)).trans c1),(cso (by omega)).trans ((cso (by omega)).trans c2),(cso (by omega)).trans ((cso (by omega)).trans d1),(cso (by omega)).trans ((cso (by omega)).trans e1),(cso (by omega)).trans ((cso (by omega)).trans e3)⟩) (fail)
 all_goals
  go_wp2
  go_end0
  exact⟨rfl,rfl,rfl,rfl,rfl⟩
theorem v3a(bp be bf s o n cap i j:Nat)(x2:Int)(f2:Bool)(w:World)(hn:n<=400)(hi:(i:Int)<n)(hi1:(i:Int)+1<n)(hj:(j:Int)<n)(hij:i+1<j)(h1:bp≠be)(h2:bp≠bf)(h3:be≠bf)(h4:s≠be)(h5:s≠bf)
  (c0:w.cell? ⟨bp,0,none⟩=some (.slice (some ⟨s,o,none⟩) n cap)) (c1:w.cell? ⟨bp,1,none⟩=some (.slice (some ⟨be,0,none⟩) n n)) (c2:w.cell? ⟨bp,2,none⟩=some (.slice (some ⟨bf,0,none⟩) n n))
  (d1:w.cell? ⟨s,o+i*3,none⟩=some (.int .i64 6))
  (e1:w.cell? ⟨be,i+1,none⟩=some (.int .i64 (j:Int)))
  (e2:w.cell? ⟨be,j,none⟩=some (.int .i64 x2))
  (e3:w.cell? ⟨bf,i+1,none⟩=some (.bool true))
  (e4:w.cell? ⟨bf,j,none⟩=some (.bool f2))
  (y1 y2:Value) (e5:w.cell? ⟨be,i,none⟩=some y1) (e6:w.cell? ⟨bf,i,none⟩=some y2) (z1:w.frozen? ⟨be,i,none⟩=false) (z2:w.frozen? ⟨bf,i,none⟩=false):
  Calls prog 90 #[.pointer (some ⟨bp,0,none⟩),.int .i64 i] w fun e w'=>e=.returned (.tuple #[])/\q9w be bf i (.int .i64 x2) (.bool f2) w w':=by
 have hw1:=z5x hn hi;have hp1:(0:Int)<=(i:Int)+1:=by omega
 have hp0:(0:Int)<=(i:Int):=by omega
 have htn:((i:Int)+1).toNat=i+1:=by omega
 have hpj:(0:Int)<=(j:Int):=by omega
 go_in;go_wp2_with fail
 go_region_held3 (fun w'=>w'.cell? ⟨bp,0,none⟩=some (.slice (some ⟨s,o,none⟩) n cap)/\w'.cell? ⟨bp,1,none⟩=some (.slice (some ⟨be,0,none⟩) n n)/\w'.cell? ⟨bp,2,none⟩=some (.slice (some ⟨bf,0,none⟩) n n)/\w'.cell? ⟨s,o+i*3,none⟩=some (.int .i64 6)/\w'.cell? ⟨be,i+1,none⟩=some (.int .i64 (j:Int))/\w'.cell? ⟨be,j,none⟩=some (.int .i64 x2)/\w'.cell? ⟨bf,i+1,none⟩=some (.bool true)/\w'.cell? ⟨bf,j,none⟩=some (.bool f2))
  (first|exact⟨c0,c1,c2,d1,e1,e2,e3,e4⟩|exact⟨(cso (by omega)).trans c0,(cso (by omega)).trans c1,(cso (by omega)).trans c2,(cso (by omega)).trans d1,(cso (by omega)).trans e1,(cso (by omega)).trans e2,(cso (by omega)).trans e3,(cso (by omega)).trans e4⟩|exact⟨(cso (by omega)).trans ((cso (by omega)).trans c0),(cso (by omega)).trans ((cso (by omega)).trans c1),(cso (by omega)).trans ((cso (by omega)).trans c2),(cso (by omega)).trans ((cso (by omega)).trans d1),(cso (by omega)).trans ((cso (by omega)).trans e1),(cso (by omega)).trans ((cso (by omega)).trans e2),(cso (by omega)).trans ((cso (by omega)).trans e3),(cso (by omega)).trans ((cso (by omega)).trans e4)⟩) (fail)
 all_goals
  go_wp2
  go_end0
  exact⟨rfl,rfl,rfl,rfl,rfl⟩
theorem v2z(bp be bf s o n cap i j:Nat)(x2:Int)(f2:Bool)(w:World)(hn:n<=400)(hi:(i:Int)<n)(hi1:(i:Int)+1<n)(hj:(j:Int)<n)(_hij:i+1<j)(h1:bp≠be)(h2:bp≠bf)(h3:be≠bf)(h4:s≠be)(h5:s≠bf)
  (c0:w.cell? ⟨bp,0,none⟩=some (.slice (some ⟨s,o,none⟩) n cap)) (c1:w.cell? ⟨bp,1,none⟩=some (.slice (some ⟨be,0,none⟩) n n)) (c2:w.cell? ⟨bp,2,none⟩=some (.slice (some ⟨bf,0,none⟩) n n))
  (d1:w.cell? ⟨s,o+i*3,none⟩=some (.int .i64 6))
  (e1:w.cell? ⟨be,i+1,none⟩=some (.int .i64 (j:Int)))
  (e2:w.cell? ⟨be,j,none⟩=some (.int .i64 x2))
  (e3:w.cell? ⟨bf,i+1,none⟩=some (.bool false))
  (_e4:w.cell? ⟨bf,j,none⟩=some (.bool f2))
  (y1 y2:Value) (e5:w.cell? ⟨be,i,none⟩=some y1) (e6:w.cell? ⟨bf,i,none⟩=some y2) (z1:w.frozen? ⟨be,i,none⟩=false) (z2:w.frozen? ⟨bf,i,none⟩=false):
  Calls prog 90 #[.pointer (some ⟨bp,0,none⟩),.int .i64 i] w fun e w'=>e=.returned (.tuple #[])/\q9w be bf i (.int .i64 x2) (.bool false) w w':=by
 have hw1:=z5x hn hi;have hp1:(0:Int)<=(i:Int)+1:=by omega
 have hp0:(0:Int)<=(i:Int):=by omega
 have htn:((i:Int)+1).toNat=i+1:=by omega
 have hpj:(0:Int)<=(j:Int):=by omega
 have q0:=(cso (W:=w) (v:=.int .i64 x2) (b:=be) (o:=i) (by omega)).trans c0;have q1:=(cso (W:=w) (v:=.int .i64 x2) (b:=be) (o:=i) (by omega)).trans c1;have q2:=(cso (W:=w) (v:=.int .i64 x2) (b:=be) (o:=i) (by omega)).trans c2;have q3:=(cso (W:=w) (v:=.int .i64 x2) (b:=be) (o:=i) (by omega)).trans e3;have q6:=(cso (W:=w) (v:=.int .i64 x2) (b:=be) (o:=i) (by omega)).trans e6;have qf:=(csf (W:=w) (v:=.int .i64 x2) (a:=⟨be,i,none⟩)).trans z2;go_in;go_wp2_with fail
 go_region
 all_goals
  go_wp2
  go_end0
  exact⟨rfl,rfl,rfl,rfl,rfl⟩
theorem y0k(bp be bf s o n cap i j:Nat)(x2:Int)(f1:Bool)(w:World)(hn:n<=400)(hi:(i:Int)<n)(hi1:(i:Int)+1<n)(hj:(j:Int)<n)(hij:i+1<j)(h1:bp≠be)(h2:bp≠bf)(h3:be≠bf)(h4:s≠be)(h5:s≠bf)
  (c0:w.cell? ⟨bp,0,none⟩=some (.slice (some ⟨s,o,none⟩) n cap)) (c1:w.cell? ⟨bp,1,none⟩=some (.slice (some ⟨be,0,none⟩) n n)) (c2:w.cell? ⟨bp,2,none⟩=some (.slice (some ⟨bf,0,none⟩) n n))
  (d1:w.cell? ⟨s,o+i*3,none⟩=some (.int .i64 9))
  (e1:w.cell? ⟨be,i+1,none⟩=some (.int .i64 (j:Int)))
  (e2:w.cell? ⟨be,j,none⟩=some (.int .i64 x2))
  (e3:w.cell? ⟨bf,i+1,none⟩=some (.bool f1))
  (y1 y2:Value) (e5:w.cell? ⟨be,i,none⟩=some y1) (e6:w.cell? ⟨bf,i,none⟩=some y2) (z1:w.frozen? ⟨be,i,none⟩=false) (z2:w.frozen? ⟨bf,i,none⟩=false):
  Calls prog 90 #[.pointer (some ⟨bp,0,none⟩),.int .i64 i] w fun e w'=>e=.returned (.tuple #[])/\q9w be bf i (.int .i64 x2) (.bool f1) w w':=by
 have hw1:=z5x hn hi;have hp1:(0:Int)<=(i:Int)+1:=by omega
 have hp0:(0:Int)<=(i:Int):=by omega
 have htn:((i:Int)+1).toNat=i+1:=by omega
 have hpj:(0:Int)<=(j:Int):=by omega
 go_in;go_wp2_with fail
 go_region_held3 (fun w'=>w'.cell? ⟨bp,0,none⟩=some (.slice (some ⟨s,o,none⟩) n cap)/\w'.cell? ⟨bp,1,none⟩=some (.slice (some ⟨be,0,none⟩) n n)/\w'.cell? ⟨bp,2,none⟩=some (.slice (some ⟨bf,0,none⟩) n n)/\w'.cell? ⟨s,o+i*3,none⟩=some (.int .i64 9)/\w'.cell? ⟨be,i+1,none⟩=some (.int .i64 (j:Int))/\w'.cell? ⟨be,j,none⟩=some (.int .i64 x2)/\w'.cell? ⟨bf,i+1,none⟩=some (.bool f1))
  (first|exact⟨c0,c1,c2,d1,e1,e2,e3⟩|exact⟨(cso (by omega)).trans c0,(cso (by omega)).trans c1,(cso (by omega)).trans c2,(cso (by omega)).trans d1,(cso (by omega)).trans e1,(cso (by omega)).trans e2,(cso (by omega)).trans e3⟩|exact⟨(cso (by omega)).trans ((cso (by omega)).trans c0),(cso (by omega)).trans ((cso (by omega)).trans c1),(cso (by omega)).trans ((cso (by omega)).trans c2),(cso (by omega)).trans ((cso (by omega)).trans d1),(cso (by omega)).trans ((cso (by omega)).trans e1),(cso (by omega)).trans ((cso (by omega)).trans e2),(cso (by omega)).trans ((cso (by omega)).trans e3)⟩) (fail)
 all_goals
  go_wp2
  go_end0
  exact⟨rfl,rfl,rfl,rfl,rfl⟩
end Go.Proofs.YthjapabokcajhaaGreatDoor
namespace Go.Proofs.YthjapabokcajhaaGreatDoor
open Go Go.RowKit
def Row(w:World)(b n:Nat):Prop:=∃cs T,w.heap[b]?=some (.cells cs T (0,0))/\cs.size=n
theorem Row.lt{w:World}{b n:Nat}(h:Row w b n):b<w.heap.size:=by
 obtain⟨cs,T,h,_⟩:=h;rcases Nat.lt_or_ge b w.heap.size with h'|h'
 ·exact h'
 ·simp[Array.getElem?_eq_none h']at h
theorem Row.cell{w:World}{b n i:Nat}(h:Row w b n)(hi:i<n):∃y,w.cell? (b,i)=some y:=by
 obtain⟨cs,T,h,hs⟩:=h;refine⟨cs[i],?_⟩;simp[World.cell?,h]
theorem Row.frozen{w:World}{b n i:Nat}(h:Row w b n):w.frozen? (b,i)=false:=by
 obtain⟨cs,T,h,hs⟩:=h;simp[World.frozen?,h]
theorem Row.kept{w w':World}{b n:Nat}(h:Row w b n)(hb:w'.heap[b]?=w.heap[b]?):Row w' b n:=by
 obtain⟨cs,T,h,hs⟩:=h;exact⟨cs,T,hb.trans h,hs⟩
theorem Row.set{w:World}{b n c i:Nat}{v:Value}(h:Row w b n):Row (w.setCell (c,i) v) b n:=by
 by_cases e:c=b
 ·subst e;obtain⟨cs,T,h,hs⟩:=h;exact⟨cs.setIfInBounds i v,T,by simp[World.setCell,Array.getElem?_modify,h],by simpa using hs⟩
 ·exact h.kept (Below.heap_setCell _ _ _ _ (Ne.symm e))
section
variable {be bf i:Nat} {e f:Value} {w w':World}
theorem q9w.block(h:q9w be bf i e f w w')(k:Nat)(h1:k≠be)(h2:k≠bf):w'.heap[k]?=w.heap[k]?:=by
 rw[h.2.2.2,Below.heap_setCell _ _ _ _ h2,Below.heap_setCell _ _ _ _ h1]
theorem q9w.cells(h:q9w be bf i e f w w')(b o:Nat):w'.cell? ⟨b,o,none⟩=((w.setCell ⟨be,i,none⟩ e).setCell ⟨bf,i,none⟩ f).cell? ⟨b,o,none⟩:=World.cell?_of_block (a:=⟨b,o,none⟩) (by rw[h.2.2.2])
theorem q9w.other(h:q9w be bf i e f w w')(b o:Nat)(h1:be≠b\/i≠o)(h2:bf≠b\/i≠o):w'.cell? ⟨b,o,none⟩=w.cell? ⟨b,o,none⟩:=(h.cells b o).trans ((cso h2).trans (cso h1))
theorem q9w.cellE(h:q9w be bf i e f w w')(hb:be≠bf){y:Value}(hy:w.cell? ⟨be,i,none⟩=some y):w'.cell? ⟨be,i,none⟩=some e:=(h.cells be i).trans ((cso (by omega)).trans (css hy))
theorem q9w.cellF(h:q9w be bf i e f w w')(hb:be≠bf){y:Value}(hy:w.cell? ⟨bf,i,none⟩=some y):w'.cell? ⟨bf,i,none⟩=some f:=(h.cells bf i).trans (css ((cso (by omega)).trans hy))
theorem q9w.size(h:q9w be bf i e f w w'):w'.heap.size=w.heap.size:=by rw[h.2.2.2];simp[World.setCell]
theorem q9w.below(h:q9w be bf i e f w w'){B:Nat}(h1:B<=be)(h2:B<=bf):Below B w w':=
 ⟨h.1,h.2.1,h.2.2.1,Nat.le_of_eq h.size.symm,fun k hk=>h.block k (by omega) (by omega)⟩
theorem q9w.row{b n:Nat}(h:q9w be bf i e f w w')(hr:Row w b n):Row w' b n:=by
 refine(Row.set (c:=bf) (i:=i) (v:=f) (Row.set (c:=be) (i:=i) (v:=e) hr)).kept ?_;rw[h.2.2.2]
end
def q8x(w:World)(be bf:Nat)(ds:List Nd)(k:Nat):Prop:=
 ∀i(t:Tr)(r:List Nd),k<=i->t.Wf->ds.drop i=t.nodes++r->w.cell? ⟨be,i,none⟩=some (.int .i64 ((i+t.nodes.length:Nat):Int))/\w.cell? ⟨bf,i,none⟩=some (.bool t.isFlat)
theorem q8x.kept{w w':World}{be bf:Nat}{ds:List Nd}{k:Nat}(h:q8x w be bf ds k)(h1:w'.heap[be]?=w.heap[be]?)(h2:w'.heap[bf]?=w.heap[bf]?):q8x w' be bf ds k:=by
 intro i t r hk ht hd;obtain⟨c1,c2⟩:=h i t r hk ht hd;exact⟨(World.cell?_of_block (w:=w) (a:=(be,i)) h1).trans c1,(World.cell?_of_block (w:=w) (a:=(bf,i)) h2).trans c2⟩
theorem q8x.end{w:World}{be bf:Nat}{ds:List Nd}:q8x w be bf ds ds.length:=by
 intro i t r hk ht hd;rw[List.drop_eq_nil_of_le hk]at hd
 have:=t.pos
 have h2:=congrArg List.length hd;rw[List.length_append,List.length_nil]at h2;omega
theorem q8x.step{w w':World}{be bf:Nat}{ds:List Nd}{i:Nat}{t:Tr}{r:List Nd}{y1 y2:Value}(h:q8x w be bf ds (i+1))(ht:t.Wf)(hd:ds.drop i=t.nodes++r)(hb:be≠bf)(e1:w.cell? (be,i)=some y1)(e2:w.cell? (bf,i)=some y2)
  (hp:q9w be bf i ((i+t.nodes.length:Nat):Int) (.bool t.isFlat) w w'):q8x w' be bf ds i:=by
 intro j t' r' hk ht' hd';by_cases hj:j=i
 ·subst hj;obtain⟨rfl,_⟩:=q7y t t' r r' ht ht' (hd.symm.trans hd');exact⟨hp.cellE hb e1,hp.cellF hb e2⟩
 ·obtain⟨c1,c2⟩:=h j t' r' (by omega) ht' hd';exact⟨(hp.other be j (by omega) (by omega)).trans c1,(hp.other bf j (by omega) (by omega)).trans c2⟩
theorem q1s{ds A:List Nd}{i:Nat}{x:Nd}(h:ds.drop i=x::A):∃hi:i<ds.length,ds[i]=x/\ds.drop (i+1)=A:=by
 have hi:i<ds.length:=by
  rcases Nat.lt_or_ge i ds.length with h'|h'
  ·exact h'
  ·rw[List.drop_eq_nil_of_le h']at h;cases h
 rw[List.drop_eq_getElem_cons hi,List.cons.injEq]at h;exact⟨hi,h⟩
theorem z8h{ds A r:List Nd}{i:Nat}(h:ds.drop i=A++r):ds.drop (i+A.length)=r:=by
 rw[<-List.drop_drop,h,List.drop_left]
theorem q9g{ds:List Nd}{i:Nat}{t:Tr}{r:List Nd}(h:ds.drop i=t.nodes++r):i<ds.length:=by
 rcases Nat.lt_or_ge i ds.length with h'|h'
 ·exact h'
 ·have h2:=congrArg List.length h
  have:=t.pos
  rw[List.drop_eq_nil_of_le h',List.length_append,List.length_nil]at h2;omega
theorem j4w(bp be bf s cap i:Nat)(ds:List Nd)(a:Option Addr)(t:Tr)(r:List Nd)(w:World)(ht:t.Wf)(hd:ds.drop i=t.nodes++r)(hl:ds.length<=400)(hN:q1a s w a ds)(h1:bp≠be)(h2:bp≠bf)(h3:be≠bf)(h4:s≠be)(h5:s≠bf)
  (c0:w.cell? bp=some (.slice a ds.length cap)) (c1:w.cell? (bp,1)=some (.slice be ds.length ds.length)) (c2:w.cell? (bp,2)=some (.slice bf ds.length ds.length))
  (hE:Row w be ds.length) (hF:Row w bf ds.length) (hK:q8x w be bf ds (i+1)):
  Calls prog 90 #[.pointer (some ⟨bp,0,none⟩),.int .i64 i] w fun e w'=>e=.returned (.tuple #[])/\q9w be bf i (.int .i64 ((i+t.nodes.length:Nat):Int)) (.bool t.isFlat) w w':=by
 have hi:=q9g hd;obtain⟨y1,e5⟩:=hE.cell hi;obtain⟨y2,e6⟩:=hF.cell hi;have z1:w.frozen? ⟨be,i,none⟩=false:=hE.frozen;have z2:w.frozen? ⟨bf,i,none⟩=false:=hF.frozen;obtain⟨o,ea,d1,_,_⟩:=hN i hi;subst ea;have hiI:(i:Int)<ds.length:=by omega
 cases t with
 | leaf x=>
  obtain⟨_,ex,_⟩:=q1s (x:=x) (A:=r) hd;have en:((i+(Tr.leaf x).nodes.length:Nat):Int)=(i:Int)+1:=rfl;rw[en];rw[ex]at d1;rcases q3w ht.1 ht.2 with e|e|e|e|e
  ·have ef:(Tr.leaf x).isFlat=true:=by simp[Tr.isFlat,Tr.flat,e]
   rw[ef];rw[e]at d1;exact y0d bp be bf s o _ cap i w hl hiI h1 h2 h3 h4 h5 c0 c1 c2 d1 y1 y2 e5 e6 z1 z2
  ·have ef:(Tr.leaf x).isFlat=true:=by simp[Tr.isFlat,Tr.flat,e]
   rw[ef];rw[e]at d1;exact y0e bp be bf s o _ cap i w hl hiI h1 h2 h3 h4 h5 c0 c1 c2 d1 y1 y2 e5 e6 z1 z2
  ·have ef:(Tr.leaf x).isFlat=true:=by simp[Tr.isFlat,Tr.flat,e]
   rw[ef];rw[e]at d1;exact y0f bp be bf s o _ cap i w hl hiI h1 h2 h3 h4 h5 c0 c1 c2 d1 y1 y2 e5 e6 z1 z2
  ·have ef:(Tr.leaf x).isFlat=false:=by simp[Tr.isFlat,Tr.flat,e]
   rw[ef];rw[e]at d1;exact y0g bp be bf s o _ cap i w hl hiI h1 h2 h3 h4 h5 c0 c1 c2 d1 y1 y2 e5 e6 z1 z2
  ·have ef:(Tr.leaf x).isFlat=true:=by simp[Tr.isFlat,Tr.flat,e]
   rw[ef];rw[e]at d1;exact y0h bp be bf s o _ cap i w hl hiI h1 h2 h3 h4 h5 c0 c1 c2 d1 y1 y2 e5 e6 z1 z2
 | one x a'=>
  obtain⟨_,ex,hd'⟩:=q1s (x:=x) (A:=a'.nodes++r) hd;have hi1:=q9g hd';obtain⟨k1,k2⟩:=hK (i+1) a' r Zl ht.2.2 hd';have en:((i+(Tr.one x a').nodes.length:Nat):Int)=((i+1+a'.nodes.length:Nat):Int):=by simp only[Tr.nodes,List.length_cons];congr 1;omega
  have ef:(Tr.one x a').isFlat=a'.isFlat:=rfl;rw[en,ef];rw[ex]at d1;rcases q7z ht.2.1 with e|e
  ·rw[e]at d1;exact y0i bp be bf s o _ cap i _ _ w hl hiI (by omega) h1 h2 h3 h4 h5 c0 c1 c2 d1 k1 k2 y1 y2 e5 e6 z1 z2
  ·rw[e]at d1;exact y0j bp be bf s o _ cap i _ _ w hl hiI (by omega) h1 h2 h3 h4 h5 c0 c1 c2 d1 k1 k2 y1 y2 e5 e6 z1 z2
 | two x a' b'=>
  obtain⟨_,ex,hd0⟩:=q1s (x:=x) (A:=a'.nodes++b'.nodes++r) hd;have hd':ds.drop (i+1)=a'.nodes++(b'.nodes++r):=by rw[hd0,List.append_assoc]
  have hd'':=z8h hd';have hi1:=q9g hd';have hi2:=q9g hd'';have hp:=a'.pos;obtain⟨k1,k2⟩:=hK (i+1) a' _ Zl ht.2.2.1 hd';obtain⟨k3,k4⟩:=hK _ b' r (by omega) ht.2.2.2 hd'';have en:((i+(Tr.two x a' b').nodes.length:Nat):Int)=((i+1+a'.nodes.length+b'.nodes.length:Nat):Int):=by simp only[Tr.nodes,List.length_cons,List.length_append];congr 1;omega
  rw[en];rw[ex]at d1;rcases q7m ht.2.1 with e|e
  ·have ef:(Tr.two x a' b').isFlat=(a'.isFlat&&b'.isFlat):=(j5h e).2;rw[ef];rw[e]at d1;cases hf:a'.isFlat with
   | true=>
    rw[hf]at k2;exact v3a bp be bf s o _ cap i _ _ _ w hl hiI (by omega) (by omega) (by omega) h1 h2 h3 h4 h5 c0 c1 c2 d1 k1 k3 k2 k4 y1 y2 e5 e6 z1 z2
   | false=>
    rw[hf]at k2;exact v2z bp be bf s o _ cap i _ _ _ w hl hiI (by omega) (by omega) (by omega) h1 h2 h3 h4 h5 c0 c1 c2 d1 k1 k3 k2 k4 y1 y2 e5 e6 z1 z2
  ·have ef:(Tr.two x a' b').isFlat=a'.isFlat:=by simp[Tr.isFlat,Tr.flat,e]
   rw[ef];rw[e]at d1;exact y0k bp be bf s o _ cap i _ _ _ w hl hiI (by omega) (by omega) (by omega) h1 h2 h3 h4 h5 c0 c1 c2 d1 k1 k3 k2 y1 y2 e5 e6 z1 z2
theorem k3v:(prog.info? 3).map (fun i=>(i.zero,i.size,i.bytes))=some (some (.int .i64 0),1,8):=by kernel_rfl
theorem v1f:(prog.info? 4).map (fun i=>(i.zero,i.size,i.bytes))=some (some (.bool false),1,1):=by kernel_rfl
structure z7t(w0:World)(s bp be bf:Nat)(a:Option Addr)(cap:Nat)(ds:List Nd)(w:World):Prop where
 b1:w0.heap.size<=bp
 b2:w0.heap.size+1<=be
 b3:w0.heap.size+1<=bf
 n1:bp≠be
 n2:bp≠bf
 n3:be≠bf
 c0:w.cell? ⟨bp,0,none⟩=some (.slice a ds.length cap)
 c1:w.cell? ⟨bp,1,none⟩=some (.slice (some ⟨be,0,none⟩) ds.length ds.length)
 c2:w.cell? ⟨bp,2,none⟩=some (.slice (some ⟨bf,0,none⟩) ds.length ds.length)
 re:Row w be ds.length
 rf:Row w bf ds.length
 rb:w.heap[w0.heap.size]?=some (.cells #[.slice none 0 0,.slice none 0 0,.slice none 0 0] 98 (0,0))
 bw:Below w0 w0 w
 nd:q1a s w a ds
theorem z7t.put{w0 w w':World}{s bp be bf cap i:Nat}{a:Option Addr}{ds:List Nd}{e f:Value}(h:z7t w0 s bp be bf a cap ds w)(hs:s<w0.heap.size)(hp:q9w be bf i e f w w'):z7t w0 s bp be bf a cap ds w' where
 b1:=h.b1
 b2:=h.b2
 b3:=h.b3
 n1:=h.n1
 n2:=h.n2
 n3:=h.n3
 c0:=(hp.other bp 0 (.inl h.n1.symm) (.inl h.n2.symm)).trans h.c0
 c1:=(hp.other bp 1 (.inl h.n1.symm) (.inl h.n2.symm)).trans h.c1
 c2:=(hp.other bp 2 (.inl h.n1.symm) (.inl h.n2.symm)).trans h.c2
 re:=hp.row h.re
 rf:=hp.row h.rf
 rb:=(hp.block _ (by have:=h.b2;omega) (by have:=h.b3;omega)).trans h.rb
 bw:=h.bw.trans (hp.below (by have:=h.b2;omega) (by have:=h.b3;omega))
 nd:=h.nd.kept (hp.block s (by have:=h.b2;omega) (by have:=h.b3;omega))
end Go.Proofs.YthjapabokcajhaaGreatDoor
namespace Go.Proofs.YthjapabokcajhaaGreatDoor
open Go Go.RowKit
def q0k(ws:List Int):List Value:=ws.map (.int .i64)
theorem z2l(ws:List Int):(q0k ws).length=ws.length*1:=by simp[q0k]
theorem k0w(ws:List Int):∀u∈q0k ws,u.oneCell'=true:=by
 intro u hu;obtain⟨x,_,rfl⟩:=List.mem_map.1 hu;rfl
theorem z2k(a b:List Int):q0k (a++b)=q0k a++q0k b:=by simp[q0k]
theorem y9c(b o k:Nat):(⟨b,o,none⟩:Addr).add k=⟨b,o+k,none⟩:=by
 unfold Addr.add
 split
 ·rename_i h;subst h;rfl
 ·rfl
theorem j4g{B:Nat}{w:World}{ad:Addr}{ws:List Int}(h:q2l B w (some ad) ws):∀j u,(q0k ws)[j]?=some u->w.cell? (ad.add j)=some u:=by
 intro j u hj;have hlt:j<ws.length:=by have:=(List.getElem?_eq_some_iff.1 hj).1;simpa[q0k]using this
 obtain⟨b,o,e,_,c⟩:=h j hlt;simp only[Option.some.injEq]at e;subst e;rw[y9c]
 have:u=.int .i64 ws[j]:=by simp[q0k,hlt]at hj;exact hj.symm
 rw[this];exact c
theorem k7f{B:Nat}{w:World}{a:Option Addr}{n cap m:Nat}{ws:List Int}(h:w.ownsRow B 3 1 (.slice a n cap) m (q0k ws)):m=ws.length/\n=ws.length/\ws.length<=cap/\q9e w a ws/\(a=none->ws=[]/\cap=0):=by
 have hm:m=ws.length:=by have:=h.1;rw[z2l]at this;omega
 rcases h.2 with⟨hv,h0⟩|⟨g,c,cur,hv,_,hg,hnc,_,hsz,htake⟩
 ·simp only[Value.slice.injEq]at hv;obtain⟨rfl,rfl,rfl⟩:=hv;have hw:ws=[]:=List.eq_nil_of_length_eq_zero (by omega);subst hw;exact⟨hm,rfl,Nat.le_refl _,fun i hi=>by simp at hi,fun _=>⟨rfl,rfl⟩⟩
 ·simp only[Value.slice.injEq]at hv;obtain⟨rfl,rfl,rfl⟩:=hv;refine⟨hm,hm,by omega,?_,fun h=>by cases h⟩;intro i hi
  have hlt:g<w.heap.size:=by
   rcases Nat.lt_or_ge g w.heap.size with h'|h'
   ·exact h'
   ·simp[Array.getElem?_eq_none h']at hg
  refine⟨g,0,rfl,hlt,?_⟩;have hk:(q0k ws)[i]?=some (.int .i64 ws[i]):=by simp[q0k,hi]
  rw[<-htake]at hk;rw[List.getElem?_take_of_lt (by omega)]at hk;rw[Nat.zero_add];simp only[World.cell?,hg];simpa using hk
theorem z1g{w:World}{ops:Array Oper}{rest:List Oper}{o:Oper}{a:Act}{Q:Exit->Act->World->Prop}(hgd:o.guard=none)(s x:Operand)
  (ho:o.op=.call {callee:=.builtin .append,args:=#[s,x],argTypes:=#[45,45]})
  (base:Nat) (v:Value) (n:Nat) (xs:List Int) (hs:a.eval s=v) (hown:w.ownsRow base 3 1 v n (q0k xs))
  (wa:Option Addr) (ws:List Int) (wc:Nat) (hx:a.eval x=.slice wa ws.length wc) (hI:q9e w wa ws) (hnil:wa=none->ws=[]/\wc=0)
  (hb:n+ws.length<=1000000) (hbase:base<=w.heap.size)
  (h:∀v' w',w'.ownsRow base 3 1 v' (n+ws.length) (q0k (xs++ws))->w.grownBy w' v.ownBlock->wpList prog ops Q rest (a.put o.dst v') w'):wpList prog ops Q (o::rest) a w:=by
 obtain⟨i0,hi,hz0,hz1,hz2⟩:=info_parts k3v;cases wa with
 | none=>
  obtain⟨rfl,rfl⟩:=hnil rfl;refine wpList_append_own_none hgd s x 45 ho base 3 i0 1 Tryz.underlying45 hi v n (q0k xs) hs hown hx ?_;refine h v w ?_ ⟨rfl,rfl,rfl,Nat.le_refl _,fun _ _ _=>rfl⟩;rw[List.append_nil];exact hown
 | some ad=>
  refine wpList_append_own w hgd s x 45 ho base 3 i0 _ 1 8 Tryz.underlying45 hi hz0 hz1 hz2 rfl (by decide) v n (q0k xs) hs hown ad ws.length wc (q0k ws) hx (z2l ws) (j4g hI) (k0w ws) (by unfold maxLen;omega) (by omega) hbase ?_;intro v' w' h1 h2 _;rw[<-z2k]at h1;exact h v' w' h1 h2
end Go.Proofs.YthjapabokcajhaaGreatDoor
