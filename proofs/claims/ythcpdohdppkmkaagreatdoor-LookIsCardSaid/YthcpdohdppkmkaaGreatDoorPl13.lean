import Derived.Test.YthcpdohdppkmkaaGreatDoorPl12
import Derived.Laws.AppendOwn
import Derived.Laws.AppendOwnNone
import Derived.Test.YthcpdohdppkmkaaGreatDoorPl04
open Go.Proofs.Tryz
namespace Go.Proofs.YthcpdohdppkmkaaGreatDoor
open Go Go.RowKit
set_option maxRecDepth 100000
set_option maxHeartbeats 4000000
theorem v4f(bp be bf s o n cap i j:Nat)(x2:Int)(f2:Bool)(w:World)(hn:n<=400)(hi:(i:Int)<n)(A:(i:Int)+1<n)(hj:(j:Int)<n)(B:i+1<j)(h1:bp≠be)(h2:bp≠bf)(h3:be≠bf)(h4:s≠be)(h5:s≠bf)
  (c0:w.cell? ⟨bp,0,none⟩=some (.slice (some ⟨s,o,none⟩) n cap)) (c1:w.cell? ⟨bp,1,none⟩=some (.slice (some ⟨be,0,none⟩) n n)) (c2:w.cell? ⟨bp,2,none⟩=some (.slice (some ⟨bf,0,none⟩) n n))
  (d1:w.cell? ⟨s,o+i*3,none⟩=some (.int .i64 6))
  (e1:w.cell? ⟨be,i+1,none⟩=some (.int .i64 (j:Int)))
  (e2:w.cell? ⟨be,j,none⟩=some (.int .i64 x2))
  (e3:w.cell? ⟨bf,i+1,none⟩=some (.bool true))
  (e4:w.cell? ⟨bf,j,none⟩=some (.bool f2))
  (y1 y2:Value) (e5:w.cell? ⟨be,i,none⟩=some y1) (e6:w.cell? ⟨bf,i,none⟩=some y2) (z1:w.frozen? ⟨be,i,none⟩=false) (z2:w.frozen? ⟨bf,i,none⟩=false):
  Calls prog 114 #[.pointer (some ⟨bp,0,none⟩),.int .i64 i] w fun e w'=>e=.returned (.tuple #[])/\z2q be bf i (.int .i64 x2) (.bool f2) w w':=by
 have H:=j1g hn hi;have D:(0:Int)<=(i:Int)+1:=by omega
 have C:(0:Int)<=(i:Int):=by omega
 have G:((i:Int)+1).toNat=i+1:=by omega
 have E:(0:Int)<=(j:Int):=by omega
 go_in;go_wp2_with fail
 go_region_held3 (fun w'=>w'.cell? ⟨bp,0,none⟩=some (.slice (some ⟨s,o,none⟩) n cap)/\w'.cell? ⟨bp,1,none⟩=some (.slice (some ⟨be,0,none⟩) n n)/\w'.cell? ⟨bp,2,none⟩=some (.slice (some ⟨bf,0,none⟩) n n)/\w'.cell? ⟨s,o+i*3,none⟩=some (.int .i64 6)/\w'.cell? ⟨be,i+1,none⟩=some (.int .i64 (j:Int))/\w'.cell? ⟨be,j,none⟩=some (.int .i64 x2)/\w'.cell? ⟨bf,i+1,none⟩=some (.bool true)/\w'.cell? ⟨bf,j,none⟩=some (.bool f2))
  (first|exact⟨c0,c1,c2,d1,e1,e2,e3,e4⟩|exact⟨(cso (by omega)).trans c0,(cso (by omega)).trans c1,(cso (by omega)).trans c2,(cso (by omega)).trans d1,(cso (by omega)).trans e1,(cso (by omega)).trans e2,(cso (by omega)).trans e3,(cso (by omega)).trans e4⟩|exact⟨(cso (by omega)).trans ((cso (by omega)).trans c0),(cso (by omega)).trans ((cso (by omega)).trans c1),(cso (by omega)).trans ((cso (by omega)).trans c2),(cso (by omega)).trans ((cso (by omega)).trans d1),(cso (by omega)).trans ((cso (by omega)).trans e1),(cso (by omega)).trans ((cso (by omega)).trans e2),(cso (by omega)).trans ((cso (by omega)).trans e3),(cso (by omega)).trans ((cso (by omega)).trans e4)⟩) (fail)
 all_goals
  go_wp2
  go_end0
  exact⟨rfl,rfl,rfl,rfl,rfl⟩
theorem v4e(bp be bf s o n cap i j:Nat)(x2:Int)(f2:Bool)(w:World)(hn:n<=400)(hi:(i:Int)<n)(A:(i:Int)+1<n)(hj:(j:Int)<n)(_hij:i+1<j)(h1:bp≠be)(h2:bp≠bf)(h3:be≠bf)(h4:s≠be)(h5:s≠bf)
  (c0:w.cell? ⟨bp,0,none⟩=some (.slice (some ⟨s,o,none⟩) n cap)) (c1:w.cell? ⟨bp,1,none⟩=some (.slice (some ⟨be,0,none⟩) n n)) (c2:w.cell? ⟨bp,2,none⟩=some (.slice (some ⟨bf,0,none⟩) n n))
  (d1:w.cell? ⟨s,o+i*3,none⟩=some (.int .i64 6))
  (e1:w.cell? ⟨be,i+1,none⟩=some (.int .i64 (j:Int)))
  (e2:w.cell? ⟨be,j,none⟩=some (.int .i64 x2))
  (e3:w.cell? ⟨bf,i+1,none⟩=some (.bool false))
  (_e4:w.cell? ⟨bf,j,none⟩=some (.bool f2))
  (y1 y2:Value) (e5:w.cell? ⟨be,i,none⟩=some y1) (e6:w.cell? ⟨bf,i,none⟩=some y2) (z1:w.frozen? ⟨be,i,none⟩=false) (z2:w.frozen? ⟨bf,i,none⟩=false):
  Calls prog 114 #[.pointer (some ⟨bp,0,none⟩),.int .i64 i] w fun e w'=>e=.returned (.tuple #[])/\z2q be bf i (.int .i64 x2) (.bool false) w w':=by
 have G:=j1g hn hi;have C:(0:Int)<=(i:Int)+1:=by omega
 have B:(0:Int)<=(i:Int):=by omega
 have E:((i:Int)+1).toNat=i+1:=by omega
 have D:(0:Int)<=(j:Int):=by omega
 have H:=(cso (W:=w) (v:=.int .i64 x2) (b:=be) (o:=i) (by omega)).trans c0;have I:=(cso (W:=w) (v:=.int .i64 x2) (b:=be) (o:=i) (by omega)).trans c1;have J:=(cso (W:=w) (v:=.int .i64 x2) (b:=be) (o:=i) (by omega)).trans c2;have K:=(cso (W:=w) (v:=.int .i64 x2) (b:=be) (o:=i) (by omega)).trans e3;have L:=(cso (W:=w) (v:=.int .i64 x2) (b:=be) (o:=i) (by omega)).trans e6;have M:=(csf (W:=w) (v:=.int .i64 x2) (a:=⟨be,i,none⟩)).trans z2;go_in;go_wp2_with fail
 go_region
 all_goals
  go_wp2
  go_end0
  exact⟨rfl,rfl,rfl,rfl,rfl⟩
theorem y1p(bp be bf s o n cap i j:Nat)(x2:Int)(f1:Bool)(w:World)(hn:n<=400)(hi:(i:Int)<n)(A:(i:Int)+1<n)(hj:(j:Int)<n)(B:i+1<j)(h1:bp≠be)(h2:bp≠bf)(h3:be≠bf)(h4:s≠be)(h5:s≠bf)
  (c0:w.cell? ⟨bp,0,none⟩=some (.slice (some ⟨s,o,none⟩) n cap)) (c1:w.cell? ⟨bp,1,none⟩=some (.slice (some ⟨be,0,none⟩) n n)) (c2:w.cell? ⟨bp,2,none⟩=some (.slice (some ⟨bf,0,none⟩) n n))
  (d1:w.cell? ⟨s,o+i*3,none⟩=some (.int .i64 9))
  (e1:w.cell? ⟨be,i+1,none⟩=some (.int .i64 (j:Int)))
  (e2:w.cell? ⟨be,j,none⟩=some (.int .i64 x2))
  (e3:w.cell? ⟨bf,i+1,none⟩=some (.bool f1))
  (y1 y2:Value) (e5:w.cell? ⟨be,i,none⟩=some y1) (e6:w.cell? ⟨bf,i,none⟩=some y2) (z1:w.frozen? ⟨be,i,none⟩=false) (z2:w.frozen? ⟨bf,i,none⟩=false):
  Calls prog 114 #[.pointer (some ⟨bp,0,none⟩),.int .i64 i] w fun e w'=>e=.returned (.tuple #[])/\z2q be bf i (.int .i64 x2) (.bool f1) w w':=by
 have H:=j1g hn hi;have D:(0:Int)<=(i:Int)+1:=by omega
 have C:(0:Int)<=(i:Int):=by omega
 have G:((i:Int)+1).toNat=i+1:=by omega
 have E:(0:Int)<=(j:Int):=by omega
 go_in;go_wp2_with fail
 go_region_held3 (fun w'=>w'.cell? ⟨bp,0,none⟩=some (.slice (some ⟨s,o,none⟩) n cap)/\w'.cell? ⟨bp,1,none⟩=some (.slice (some ⟨be,0,none⟩) n n)/\w'.cell? ⟨bp,2,none⟩=some (.slice (some ⟨bf,0,none⟩) n n)/\w'.cell? ⟨s,o+i*3,none⟩=some (.int .i64 9)/\w'.cell? ⟨be,i+1,none⟩=some (.int .i64 (j:Int))/\w'.cell? ⟨be,j,none⟩=some (.int .i64 x2)/\w'.cell? ⟨bf,i+1,none⟩=some (.bool f1))
  (first|exact⟨c0,c1,c2,d1,e1,e2,e3⟩|exact⟨(cso (by omega)).trans c0,(cso (by omega)).trans c1,(cso (by omega)).trans c2,(cso (by omega)).trans d1,(cso (by omega)).trans e1,(cso (by omega)).trans e2,(cso (by omega)).trans e3⟩|exact⟨(cso (by omega)).trans ((cso (by omega)).trans c0),(cso (by omega)).trans ((cso (by omega)).trans c1),(cso (by omega)).trans ((cso (by omega)).trans c2),(cso (by omega)).trans ((cso (by omega)).trans d1),(cso (by omega)).trans ((cso (by omega)).trans e1),(cso (by omega)).trans ((cso (by omega)).trans e2),(cso (by omega)).trans ((cso (by omega)).trans e3)⟩) (fail)
 all_goals
  go_wp2
  go_end0
  exact⟨rfl,rfl,rfl,rfl,rfl⟩
def Row(w:World)(b n:Nat):Prop:=∃cs T,w.heap[b]?=some (.cells cs T (0,0))/\cs.size=n
theorem Row.lt{w:World}{b n:Nat}(h:Row w b n):b<w.heap.size:=by
 obtain⟨B,T,h,_⟩:=h;rcases Nat.lt_or_ge b w.heap.size with A|A
 ·exact A
 ·simp[Array.getElem?_eq_none A]at h
theorem Row.cell{w:World}{b n i:Nat}(h:Row w b n)(hi:i<n):∃y,w.cell? ⟨b,i,none⟩=some y:=by
 obtain⟨A,T,h,B⟩:=h;refine⟨A[i],?_⟩;simp[World.cell?,h]
theorem Row.frozen{w:World}{b n i:Nat}(h:Row w b n):w.frozen? ⟨b,i,none⟩=false:=by
 obtain⟨A,T,h,B⟩:=h;simp[World.frozen?,h]
theorem Row.kept{w w':World}{b n:Nat}(h:Row w b n)(hb:w'.heap[b]?=w.heap[b]?):Row w' b n:=by
 obtain⟨A,T,h,B⟩:=h;exact⟨A,T,hb.trans h,B⟩
theorem Row.set{w:World}{b n c i:Nat}{v:Value}(h:Row w b n):Row (w.setCell ⟨c,i,none⟩ v) b n:=by
 by_cases e:c=b
 ·subst e;obtain⟨A,T,h,B⟩:=h;exact⟨A.setIfInBounds i v,T,by simp[World.setCell,Array.getElem?_modify,h],by simpa using B⟩
 ·exact h.kept (Below.heap_setCell _ _ _ _ (Ne.symm e))
section
variable {be bf i:Nat} {e f:Value} {w w':World}
theorem z2q.block(h:z2q be bf i e f w w')(k:Nat)(h1:k≠be)(h2:k≠bf):w'.heap[k]?=w.heap[k]?:=by
 rw[h.2.2.2,Below.heap_setCell _ _ _ _ h2,Below.heap_setCell _ _ _ _ h1]
theorem z2q.cells(h:z2q be bf i e f w w')(b o:Nat):w'.cell? ⟨b,o,none⟩=((w.setCell ⟨be,i,none⟩ e).setCell ⟨bf,i,none⟩ f).cell? ⟨b,o,none⟩:=World.cell?_of_block (a:=⟨b,o,none⟩) (by rw[h.2.2.2])
theorem z2q.other(h:z2q be bf i e f w w')(b o:Nat)(h1:be≠b\/i≠o)(h2:bf≠b\/i≠o):w'.cell? ⟨b,o,none⟩=w.cell? ⟨b,o,none⟩:=(h.cells b o).trans ((cso h2).trans (cso h1))
theorem z2q.cellE(h:z2q be bf i e f w w')(hb:be≠bf){y:Value}(hy:w.cell? ⟨be,i,none⟩=some y):w'.cell? ⟨be,i,none⟩=some e:=(h.cells be i).trans ((cso (by omega)).trans (css hy))
theorem z2q.cellF(h:z2q be bf i e f w w')(hb:be≠bf){y:Value}(hy:w.cell? ⟨bf,i,none⟩=some y):w'.cell? ⟨bf,i,none⟩=some f:=(h.cells bf i).trans (css ((cso (by omega)).trans hy))
theorem z2q.size(h:z2q be bf i e f w w'):w'.heap.size=w.heap.size:=by rw[h.2.2.2];simp[World.setCell]
theorem z2q.W(h:z2q be bf i e f w w'){B:Nat}(h1:B<=be)(h2:B<=bf):Below B w w':=
 ⟨h.1,h.2.1,h.2.2.1,Nat.le_of_eq h.size.symm,fun k hk=>h.block k (by omega) (by omega)⟩
theorem z2q.row{b n:Nat}(h:z2q be bf i e f w w')(hr:Row w b n):Row w' b n:=by
 refine(Row.set (c:=bf) (i:=i) (v:=f) (Row.set (c:=be) (i:=i) (v:=e) hr)).kept ?_;rw[h.2.2.2]
end
def q8v(w:World)(be bf:Nat)(ds:List Nd)(k:Nat):Prop:=
 ∀i(t:Tr)(r:List Nd),k<=i->t.Wf->ds.drop i=t.N++r->w.cell? ⟨be,i,none⟩=some (.int .i64 ((i+t.N.length:Nat):Int))/\w.cell? ⟨bf,i,none⟩=some (.bool t.isFlat)
theorem q8v.kept{w w':World}{be bf:Nat}{ds:List Nd}{k:Nat}(h:q8v w be bf ds k)(h1:w'.heap[be]?=w.heap[be]?)(h2:w'.heap[bf]?=w.heap[bf]?):q8v w' be bf ds k:=by
 intro i t r D E C;obtain⟨A,B⟩:=h i t r D E C;exact⟨(World.cell?_of_block (w:=w) (a:=⟨be,i,none⟩) h1).trans A,(World.cell?_of_block (w:=w) (a:=⟨bf,i,none⟩) h2).trans B⟩
theorem q8v.end{w:World}{be bf:Nat}{ds:List Nd}:q8v w be bf ds ds.length:=by
 intro i t r C D A;rw[List.drop_eq_nil_of_le C]at A
 have:=t.pos
 have B:=congrArg List.length A;rw[List.length_append,List.length_nil]at B;omega
theorem q8v.step{w w':World}{be bf:Nat}{ds:List Nd}{i:Nat}{t:Tr}{r:List Nd}{y1 y2:Value}(h:q8v w be bf ds (i+1))(ht:t.Wf)(hd:ds.drop i=t.N++r)(hb:be≠bf)(e1:w.cell? ⟨be,i,none⟩=some y1)(e2:w.cell? ⟨bf,i,none⟩=some y2)
  (hp:z2q be bf i (.int .i64 ((i+t.N.length:Nat):Int)) (.bool t.isFlat) w w'):q8v w' be bf ds i:=by
 intro j D C I B A;by_cases H:j=i
 ·subst H;obtain⟨rfl,_⟩:=q7x t D r C ht B (hd.symm.trans A);exact⟨hp.cellE hb e1,hp.cellF hb e2⟩
 ·obtain⟨E,G⟩:=h j D C (by omega) B A;exact⟨(hp.other be j (by omega) (by omega)).trans E,(hp.other bf j (by omega) (by omega)).trans G⟩
theorem q1w{ds A:List Nd}{i:Nat}{x:Nd}(h:ds.drop i=x::A):∃hi:i<ds.length,ds[i]=x/\ds.drop (i+1)=A:=by
 have hi:i<ds.length:=by
  rcases Nat.lt_or_ge i ds.length with B|B
  ·exact B
  ·rw[List.drop_eq_nil_of_le B]at h;cases h
 rw[List.drop_eq_getElem_cons hi,List.cons.injEq]at h;exact⟨hi,h⟩
theorem z8d{ds A r:List Nd}{i:Nat}(h:ds.drop i=A++r):ds.drop (i+A.length)=r:=by
 rw[<-List.drop_drop,h,List.drop_left]
theorem q9g{ds:List Nd}{i:Nat}{t:Tr}{r:List Nd}(h:ds.drop i=t.N++r):i<ds.length:=by
 rcases Nat.lt_or_ge i ds.length with A|A
 ·exact A
 ·have B:=congrArg List.length h
  have:=t.pos
  rw[List.drop_eq_nil_of_le A,List.length_append,List.length_nil]at B;omega
theorem j5i(bp be bf s cap i:Nat)(ds:List Nd)(a:Option Addr)(t:Tr)(r:List Nd)(w:World)(ht:t.Wf)(hd:ds.drop i=t.N++r)(hl:ds.length<=400)(hN:q1k s w a ds)(h1:bp≠be)(h2:bp≠bf)(h3:be≠bf)(h4:s≠be)(h5:s≠bf)
  (c0:w.cell? ⟨bp,0,none⟩=some (.slice a ds.length cap)) (c1:w.cell? ⟨bp,1,none⟩=some (.slice (some ⟨be,0,none⟩) ds.length ds.length)) (c2:w.cell? ⟨bp,2,none⟩=some (.slice (some ⟨bf,0,none⟩) ds.length ds.length))
  (hE:Row w be ds.length) (hF:Row w bf ds.length) (hK:q8v w be bf ds (i+1)):
  Calls prog 114 #[.pointer (some ⟨bp,0,none⟩),.int .i64 i] w fun e w'=>e=.returned (.tuple #[])/\z2q be bf i (.int .i64 ((i+t.N.length:Nat):Int)) (.bool t.isFlat) w w':=by
 have U:=q9g hd;obtain⟨I,G⟩:=hE.cell U;obtain⟨J,H⟩:=hF.cell U;have K:w.frozen? ⟨be,i,none⟩=false:=hE.frozen;have L:w.frozen? ⟨bf,i,none⟩=false:=hF.frozen;obtain⟨o,Z,B,_,_⟩:=hN i U;subst Z;have C:(i:Int)<ds.length:=by omega
 cases t with
 | leaf x=>
  obtain⟨_,R,_⟩:=q1w (x:=x) (A:=r) hd;have Q:((i+(Tr.leaf x).N.length:Nat):Int)=(i:Int)+1:=rfl;rw[Q];rw[R]at B;rcases q3y ht.1 ht.2 with e|e|e|e|e
  ·have D:(Tr.leaf x).isFlat=true:=by simp[Tr.isFlat,Tr.flat,e]
   rw[D];rw[e]at B;exact q8m 1 (.inl rfl) bp be bf s o _ cap i w hl C h1 h2 h3 h4 h5 c0 c1 c2 B I J G H K L
  ·have D:(Tr.leaf x).isFlat=true:=by simp[Tr.isFlat,Tr.flat,e]
   rw[D];rw[e]at B;exact q8m 2 (.inr (.inl rfl)) bp be bf s o _ cap i w hl C h1 h2 h3 h4 h5 c0 c1 c2 B I J G H K L
  ·have D:(Tr.leaf x).isFlat=true:=by simp[Tr.isFlat,Tr.flat,e]
   rw[D];rw[e]at B;exact q8m 3 (.inr (.inr (.inl rfl))) bp be bf s o _ cap i w hl C h1 h2 h3 h4 h5 c0 c1 c2 B I J G H K L
  ·have D:(Tr.leaf x).isFlat=false:=by simp[Tr.isFlat,Tr.flat,e]
   rw[D];rw[e]at B;exact y1o bp be bf s o _ cap i w hl C h1 h2 h3 h4 h5 c0 c1 c2 B I J G H K L
  ·have D:(Tr.leaf x).isFlat=true:=by simp[Tr.isFlat,Tr.flat,e]
   rw[D];rw[e]at B;exact q8m 5 (.inr (.inr (.inr rfl))) bp be bf s o _ cap i w hl C h1 h2 h3 h4 h5 c0 c1 c2 B I J G H K L
 | one x a'=>
  obtain⟨_,R,E⟩:=q1w (x:=x) (A:=a'.N++r) hd;have V:=q9g E;obtain⟨P,O⟩:=hK (i+1) a' r Zl ht.2.2 E;have Q:((i+(Tr.one x a').N.length:Nat):Int)=((i+1+a'.N.length:Nat):Int):=by simp only[Tr.N,List.length_cons];congr 1;omega
  have D:(Tr.one x a').isFlat=a'.isFlat:=rfl;rw[Q,D];rw[R]at B;rcases q7y ht.2.1 with e|e
  ·rw[e]at B;exact k6u 7 (.inl rfl) bp be bf s o _ cap i _ _ w hl C (by omega) h1 h2 h3 h4 h5 c0 c1 c2 B P O I J G H K L
  ·rw[e]at B;exact k6u 8 (.inr rfl) bp be bf s o _ cap i _ _ w hl C (by omega) h1 h2 h3 h4 h5 c0 c1 c2 B P O I J G H K L
 | two x a' b'=>
  obtain⟨_,R,S⟩:=q1w (x:=x) (A:=a'.N++b'.N++r) hd;have E:ds.drop (i+1)=a'.N++(b'.N++r):=by rw[S,List.append_assoc]
  have M:=z8d E;have V:=q9g E;have b:=q9g M;have c:=a'.pos;obtain⟨P,O⟩:=hK (i+1) a' _ Zl ht.2.2.1 E;obtain⟨W,Y⟩:=hK _ b' r (by omega) ht.2.2.2 M;have Q:((i+(Tr.two x a' b').N.length:Nat):Int)=((i+1+a'.N.length+b'.N.length:Nat):Int):=by simp only[Tr.N,List.length_cons,List.length_append];congr 1;omega
  rw[Q];rw[R]at B;rcases q7k ht.2.1 with e|e
  ·have D:(Tr.two x a' b').isFlat=(a'.isFlat&&b'.isFlat):=(j5u e).2;rw[D];rw[e]at B;cases X:a'.isFlat with
   | true=>
    rw[X]at O;exact v4f bp be bf s o _ cap i _ _ _ w hl C (by omega) (by omega) (by omega) h1 h2 h3 h4 h5 c0 c1 c2 B P W O Y I J G H K L
   | false=>
    rw[X]at O;exact v4e bp be bf s o _ cap i _ _ _ w hl C (by omega) (by omega) (by omega) h1 h2 h3 h4 h5 c0 c1 c2 B P W O Y I J G H K L
  ·have D:(Tr.two x a' b').isFlat=a'.isFlat:=by simp[Tr.isFlat,Tr.flat,e]
   rw[D];rw[e]at B;exact y1p bp be bf s o _ cap i _ _ _ w hl C (by omega) (by omega) (by omega) h1 h2 h3 h4 h5 c0 c1 c2 B P W O I J G H K L
theorem k3v:(prog.info? 3).map (fun i=>(i.zero,i.size,i.bytes))=some (some (.int .i64 0),1,8):=by kernel_rfl
theorem v2i:(prog.info? 4).map (fun i=>(i.zero,i.size,i.bytes))=some (some (.bool false),1,1):=by kernel_rfl
structure z7m(w0:World)(s bp be bf:Nat)(a:Option Addr)(cap:Nat)(ds:List Nd)(w:World):Prop where
 b1:w0.heap.size<=bp
 b2:w0.heap.size+1<=be
 b3:w0.heap.size+1<=bf
 n1:bp≠be
 n2:bp≠bf
 n3:be≠bf
 c0:w.cell? ⟨bp,0,none⟩=some (.slice a ds.length cap)
 c1:w.cell? ⟨bp,1,none⟩=some (.slice (some ⟨be,0,none⟩) ds.length ds.length)
 c2:w.cell? ⟨bp,2,none⟩=some (.slice (some ⟨bf,0,none⟩) ds.length ds.length)
 re:Row w be ds.length
 rf:Row w bf ds.length
 rb:w.heap[w0.heap.size]?=some (.cells #[.slice none 0 0,.slice none 0 0,.slice none 0 0] 133 (0,0))
 bw:Below w0 w0 w
 nd:q1k s w a ds
theorem z7m.put{w0 w w':World}{s bp be bf cap i:Nat}{a:Option Addr}{ds:List Nd}{e f:Value}(h:z7m w0 s bp be bf a cap ds w)(hs:s<w0.heap.size)(hp:z2q be bf i e f w w'):z7m w0 s bp be bf a cap ds w' where
 b1:=h.b1
 b2:=h.b2
 b3:=h.b3
 n1:=h.n1
 n2:=h.n2
 n3:=h.n3
 c0:=(hp.other bp 0 (.inl h.n1.symm) (.inl h.n2.symm)).trans h.c0
 c1:=(hp.other bp 1 (.inl h.n1.symm) (.inl h.n2.symm)).trans h.c1
 c2:=(hp.other bp 2 (.inl h.n1.symm) (.inl h.n2.symm)).trans h.c2
 re:=hp.row h.re
 rf:=hp.row h.rf
 rb:=(hp.block _ (by have:=h.b2;omega) (by have:=h.b3;omega)).trans h.rb
 bw:=h.bw.trans (hp.W (by have:=h.b2;omega) (by have:=h.b3;omega))
 nd:=h.nd.kept (hp.block s (by have:=h.b2;omega) (by have:=h.b3;omega))
def q0j(ws:List Int):List Value:=ws.map (.int .i64)
theorem z2k(ws:List Int):(q0j ws).length=ws.length*1:=by simp[q0j]
theorem k0x(ws:List Int):∀u∈q0j ws,u.oneCell'=true:=by
 intro u A;obtain⟨x,_,rfl⟩:=List.mem_map.1 A;rfl
theorem z2j(a b:List Int):q0j (a++b)=q0j a++q0j b:=by simp[q0j]
theorem g0c(b o k:Nat):(⟨b,o,none⟩:Addr).add k=⟨b,o+k,none⟩:=by
 unfold Addr.add
 split
 ·rename_i h;subst h;rfl
 ·rfl
theorem j4s{B:Nat}{w:World}{ad:Addr}{ws:List Int}(h:q1j B w (some ad) ws):∀j u,(q0j ws)[j]?=some u->w.cell? (ad.add j)=some u:=by
 intro j u C;have A:j<ws.length:=by have:=(List.getElem?_eq_some_iff.1 C).1;simpa[q0j]using this
 obtain⟨b,o,e,_,c⟩:=h j A;simp only[Option.some.injEq]at e;subst e;rw[g0c]
 have:u=.int .i64 ws[j]:=by simp[q0j,A]at C;exact C.symm
 rw[this];exact c
theorem k7p{B:Nat}{w:World}{a:Option Addr}{n cap m:Nat}{ws:List Int}(h:w.ownsRow B 3 1 (.slice a n cap) m (q0j ws)):m=ws.length/\n=ws.length/\ws.length<=cap/\q8x w a ws/\(a=none->ws=[]/\cap=0):=by
 have I:m=ws.length:=by have:=h.1;rw[z2k]at this;omega
 rcases h.2 with⟨C,O⟩|⟨g,c,K,C,_,J,L,_,M,A⟩
 ·simp only[Value.slice.injEq]at C;obtain⟨rfl,rfl,rfl⟩:=C;have N:ws=[]:=List.eq_nil_of_length_eq_zero (by omega);subst N;exact⟨I,rfl,Nat.le_refl _,fun i E=>by simp at E,fun _=>⟨rfl,rfl⟩⟩
 ·simp only[Value.slice.injEq]at C;obtain⟨rfl,rfl,rfl⟩:=C;refine⟨I,I,by omega,?_,fun h=>by cases h⟩;intro i E
  have H:g<w.heap.size:=by
   rcases Nat.lt_or_ge g w.heap.size with D|D
   ·exact D
   ·simp[Array.getElem?_eq_none D]at J
  refine⟨g,0,rfl,H,?_⟩;have G:(q0j ws)[i]?=some (.int .i64 ws[i]):=by simp[q0j,E]
  rw[<-A]at G;rw[List.getElem?_take_of_lt (by omega)]at G;rw[Nat.zero_add];simp only[World.cell?,J];simpa using G
theorem z1d{w:World}{H:Array Oper}{C:List Oper}{o:Oper}{a:Act}{Q:Exit->Act->World->Prop}(E:o.guard=none)(s x:Operand)
  (ho:o.op=.call {callee:=.builtin .append,args:=#[s,x],argTypes:=#[43,43]})
  (A:Nat) (v:Value) (n:Nat) (xs:List Int) (hs:a.eval s=v) (B:w.ownsRow A 3 1 v n (q0j xs))
  (wa:Option Addr) (ws:List Int) (wc:Nat) (hx:a.eval x=.slice wa ws.length wc) (hI:q8x w wa ws) (G:wa=none->ws=[]/\wc=0)
  (hb:n+ws.length<=1000000) (D:A<=w.heap.size)
  (h:∀v' w',w'.ownsRow A 3 1 v' (n+ws.length) (q0j (xs++ws))->w.grownBy w' v.ownBlock->wpList prog H Q C (a.put o.dst v') w'):wpList prog H Q (o::C) a w:=by
 obtain⟨N,M,I,J,K⟩:=info_parts k3v;cases wa with
 | none=>
  obtain⟨rfl,rfl⟩:=G rfl;refine wpList_append_own_none E s x 43 ho A 3 N 1 Tryz.underlying43 M v n (q0j xs) hs B hx ?_;refine h v w ?_ ⟨rfl,rfl,rfl,Nat.le_refl _,fun _ _ _=>rfl⟩;rw[List.append_nil];exact B
 | some ad=>
  refine wpList_append_own w E s x 43 ho A 3 N _ 1 8 Tryz.underlying43 M I J K rfl (by decide) v n (q0j xs) hs B ad ws.length wc (q0j ws) hx (z2k ws) (j4s hI) (k0x ws) (by unfold maxLen;omega) (by omega) D ?_;intro v' w' L O _;rw[<-z2j]at L;exact h v' w' L O
end Go.Proofs.YthcpdohdppkmkaaGreatDoor
