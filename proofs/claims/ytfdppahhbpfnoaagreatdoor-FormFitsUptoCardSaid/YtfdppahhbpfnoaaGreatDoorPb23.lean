import Derived.Test.YtfdppahhbpfnoaaGreatDoorPb09
import Derived.Test.YtfdppahhbpfnoaaGreatDoorPb14
import Derived.Test.YtfdppahhbpfnoaaGreatDoorPb18
import Derived.Deep.QuietTactic
open Go.Proofs.Tryz
namespace Go.Proofs.YtfdppahhbpfnoaaGreatDoor
open Go Go.RowKit
set_option maxRecDepth 100000
set_option maxHeartbeats 4000000
theorem k0u(bp g n i c:Nat)(tx:ByteArray)(nn en:Int)(nx dp:Nat)(lg:Int)(x:Int)(w:World)(hn:n<=400)(hi:(i:Int)<n)(E:(i:Int)+1<n)(dx:w.cell? ⟨g,(i+1)*7+3,none⟩=some (.int .i64 x))
  (c0:w.cell? ⟨bp,0,none⟩=some (.slice (some ⟨g,0,none⟩) n n))
  (d0:w.cell? ⟨g,i*7,none⟩=some (.int .i64 9)) (d1:w.cell? ⟨g,i*7+1,none⟩=some (.string tx)) (d2:w.cell? ⟨g,i*7+2,none⟩=some (.int .i64 nn)) (d3:w.cell? ⟨g,i*7+3,none⟩=some (.int .i64 en)) (d4:w.cell? ⟨g,i*7+4,none⟩=some (.int .i64 nx)) (d5:w.cell? ⟨g,i*7+5,none⟩=some (.int .i64 dp)) (d6:w.cell? ⟨g,i*7+6,none⟩=some (.int .i64 lg)):
  Calls prog 217 #[.pointer (some ⟨bp,0,none⟩),.agg #[.int .i64 i,.int .i64 c],.int .i64 1] w fun e w'=>e=.returned (.tuple #[.agg #[.int .i64 x,.int .i64 c],.agg #[.int .i64 0,.int .i64 0]])/\Below w w w':=by
 have H:(0:Int)<=(i:Int):=by omega
 have K:=z5o hn hi;have G:=World.block_lt_of_cell? w ⟨bp,0,none⟩ c0;have D:=World.block_lt_of_cell? w ⟨g,i*7,none⟩ d0;have A:∀O2 O3,(((w.alloc (.cells #[.int .i64 i,.int .i64 c] 172)).alloc O2).alloc O3).cell? ⟨w,0,none⟩=some (.int .i64 i):=fun O2 O3=>by simp[go_sem]
 have B:∀O2 O3 O4,((((w.alloc (.cells #[.int .i64 i,.int .i64 c] 172)).alloc O2).alloc O3).alloc O4).cell? ⟨w,0,none⟩=some (.int .i64 i):=fun O2 O3 O4=>ka (A O2 O3) O4
 have C:∀O2 O3 O4,((((w.alloc (.cells #[.int .i64 i,.int .i64 c] 172)).alloc O2).alloc O3).alloc O4).cell? ⟨w,1,none⟩=some (.int .i64 c):=fun O2 O3 O4=>by simp[go_sem]
 have I:(0:Int)<=(i:Int)+1:=by omega
 have J:((i:Int)+1).toNat=i+1:=by omega
 go_in;go_wp2_with fail
 go_region_held3 (fun w'=>w'.cell? ⟨bp,0,none⟩=some (.slice (some ⟨g,0,none⟩) n n)/\w'.cell? ⟨w,0,none⟩=some (.int .i64 i)/\w'.cell? ⟨g,i*7,none⟩=some (.int .i64 9)/\w'.cell? ⟨g,i*7+1,none⟩=some (.string tx)/\w'.cell? ⟨g,i*7+2,none⟩=some (.int .i64 nn)/\w'.cell? ⟨g,i*7+3,none⟩=some (.int .i64 en)/\w'.cell? ⟨g,i*7+4,none⟩=some (.int .i64 nx)/\w'.cell? ⟨g,i*7+5,none⟩=some (.int .i64 dp)/\w'.cell? ⟨g,i*7+6,none⟩=some (.int .i64 lg))
  (first|exact⟨k3 c0 _ _ _,A _ _,k3 d0 _ _ _,k3 d1 _ _ _,k3 d2 _ _ _,k3 d3 _ _ _,k3 d4 _ _ _,k3 d5 _ _ _,k3 d6 _ _ _⟩|exact⟨k4 c0 _ _ _ _,B _ _ _,k4 d0 _ _ _ _,k4 d1 _ _ _ _,k4 d2 _ _ _ _,k4 d3 _ _ _ _,k4 d4 _ _ _ _,k4 d5 _ _ _ _,k4 d6 _ _ _ _⟩) (fail)
 all_goals
  go_wp2_with fail
  go_region_held3 (fun w'=>w'.cell? ⟨bp,0,none⟩=some (.slice (some ⟨g,0,none⟩) n n)/\w'.cell? ⟨w,0,none⟩=some (.int .i64 i)/\w'.cell? ⟨w,1,none⟩=some (.int .i64 c)/\w'.cell? ⟨g,(i+1)*7+3,none⟩=some (.int .i64 x))
   (exact⟨k4 c0 _ _ _ _,B _ _ _,C _ _ _,k4 dx _ _ _ _⟩) (fail)
  all_goals
   go_wp2;exact bodyPost_ret (v:=.tuple #[.agg #[.int .i64 x,.int .i64 c],.agg #[.int .i64 0,.int .i64 0]]) (by simp[results,Tryz.results217,go_sem]) rfl ⟨rfl,(v7g w _ _ _ _).drew.drew⟩
theorem j6i(n:Nat)(h1:0<n)(hn:n<=1000000)(w:World):
  Calls prog 207 #[.slice none 0 0,.int .i64 (n:Int)] w fun e w'=>∃c,e=.returned (.slice (some ⟨w,0,none⟩) 0 c)/\q5j w.heap.size (.slice (some ⟨w,0,none⟩) 0 c) [] w'/\Below w w w':=by
 obtain⟨J,M,E,I,C⟩:=info_parts v8i
 have B:∀ty,(Builtin.append_ #[49,3] ty #[.slice none 0 0,.int .i64 (n:Int)]).run prog w=
   .ok (.slice (some ⟨w,0,none⟩) n (grownCap w n 0 107)) (w.drew.alloc (.cells (#[]++Builtin.zeroCells (Value.agg #[.int .i64 0,.string ⟨#[]⟩,.int .i64 0]).cells n++Builtin.zeroCells (Value.agg #[.int .i64 0,.string ⟨#[]⟩,.int .i64 0]).cells (grownCap w n 0 107-n)) 107)):=fun ty=>by
  have D:(Builtin.firstCells J.size 0 (.slice none 0 0)).run prog w.drew=.ok ([]:List Value).toArray w.drew:=run_firstCells_none w.drew J.size 0 0 0;have h:=Lib.run_append_grow_zeros w 49 3 ty 107 J _ .i64 .i64 Tryz.underlying49 Tryz.underlying3 M E none 0 0 [] D n h1 (by omega) (by omega) (by omega) (by rw[C];omega) (growslice_fits (by omega) (by rw[C];omega));simp only[Nat.zero_add]at h;exact h
 have H:n<=grownCap w n 0 107:=grownCap_ge w _ _ _;have A:=grownCap_le_maxLen w n 0 107 (by unfold maxLen;omega);generalize grownCap w n 0 107=G at B H A;have L:G<=9223372036854775807:=by unfold maxLen at A;omega
 have K:Hid (q5j w.heap.size (.slice (some ⟨w,0,none⟩) 0 G) [] (w.drew.alloc (.cells (#[]++Builtin.zeroCells (Value.agg #[.int .i64 0,.string ⟨#[]⟩,.int .i64 0]).cells n++Builtin.zeroCells (Value.agg #[.int .i64 0,.string ⟨#[]⟩,.int .i64 0]).cells (G-n)) 107))):=by
  refine⟨rfl,.inr ⟨w.heap.size,G,_,rfl,Nat.le_refl _,heap_alloc_new w.drew _,Nat.zero_le _,A,?_,rfl⟩⟩;simp only[Array.size_append,size_zeroCells,Array.size_empty];show 0+n*3+(G-n)*3=G*3;omega
 have N:(0:Int)<(n:Int):=by omega
 generalize(#[]++Builtin.zeroCells (Value.agg #[.int .i64 0,.string ⟨#[]⟩,.int .i64 0]).cells n++Builtin.zeroCells (Value.agg #[.int .i64 0,.string ⟨#[]⟩,.int .i64 0]).cells (G-n))=Z at B K
 clear M E I C A;go_in;go_wp2_with(at_builtin;refine Lib.wpList_append_run _ rfl _ _ _ _ rfl _ _ rfl rfl _ _ (B _) ?_);go_ret;exact⟨G,rfl,K.o,Below.drew (Zb.alloc Zl _)⟩
def v9x(w:World)(a:Option Addr)(ps:List (List Nd)):Prop:=
 ∀i(h:i<ps.length),∃b o a' c',a=some ⟨b,o,none⟩/\b<w.heap.size/\w.cell? ⟨b,o+i,none⟩=some (.slice a' ps[i].length c')/\q2e w a' ps[i]/\(a'=none->ps[i].length=0/\c'=0)
theorem v9x.W{w w':World}{a:Option Addr}{ps:List (List Nd)}(h:v9x w a ps)(hb:Below w w w'):v9x w' a ps:=by
 intro i H;obtain⟨b,o,B,C,e,A,D,E,G⟩:=h i H;exact⟨b,o,B,C,e,Nat.lt_of_lt_of_le A hb.size,(hb.cell (p:=⟨b,_,none⟩) A).trans D,E.W hb,G⟩
theorem z5y{ps:List (List Nd)}{i:Nat}(h:i<ps.length):(ps.take (i+1)).flatten=(ps.take i).flatten++ps[i]:=by
 rw[List.take_succ_eq_append_getElem h,List.flatten_append];simp
theorem z3v(ps:List (List Nd))(i:Nat):(ps.take i).flatten.length<=ps.flatten.length:=by
 have h:ps.flatten=(ps.take i).flatten++(ps.drop i).flatten:=by rw[<-List.flatten_append,List.take_append_drop]
 rw[h,List.length_append];omega
structure y9j(w:World)(ps:List (List Nd))(i:Nat)(v:Value)(wr:World):Prop where
 le:i<=ps.length
 o:q5j w.heap.size v (ps.take i).flatten wr
 b:Below w w wr
theorem z4c(ps:List (List Nd))(a:Option Addr)(c:Nat)(w:World)(hP:v9x w a ps)(h0:0<ps.flatten.length)(hl:ps.flatten.length<=900000)(hp:ps.length<=10):
  Calls prog 182 #[.slice a ps.length c] w fun e w'=>∃A c',e=.returned (.slice A ps.flatten.length c')/\q5j w.heap.size (.slice A ps.flatten.length c') ps.flatten w'/\Below w w w':=by
 have z:Hid (v9x w a ps):=hP;have u:Hid (Calls prog 207 #[.slice none 0 0,.int .i64 (ps.flatten.length:Int)] w fun e w'=>∃c,e=.returned (.slice (some ⟨w,0,none⟩) 0 c)/\q5j w.heap.size (.slice (some ⟨w,0,none⟩) 0 c) [] w'/\Below w w w'):=j6i ps.flatten.length h0 (by omega) w;clear hP;generalize hN:ps.flatten.length=N at u h0 hl⊢;have P:Hid (ps.flatten.length=N):=hN;clear hN;go_in;go_wp2_with fail
 go_loopw [3,11] (fun s x wr=>w=wr/\∃i:Nat,i<=ps.length/\x=.int .i64 (i:Int)/\s=.int .i64 ((ps.take i).flatten.length:Int)) (fun _ x _=>ps.length-(intOf x).toNat)
 case atStart=>exact⟨rfl,0,Nat.zero_le _,rfl,rfl⟩
 case round=>
  obtain⟨rfl,i,hi,rfl,rfl⟩:=hrel;by_cases C:i<ps.length
  ·have K:(i:Int)<(ps.length:Int):=by omega
   obtain⟨b0,o0,Y,j,rfl,q,p,_,_⟩:=z.o i C;have B:=congrArg List.length (z5y C);rw[List.length_append]at B;have E:=z3v ps (i+1);rw[P.o]at E;have M:=(show Hid (_=_)from B);have V:(ps.take i).flatten.length+ps[i].length<=900000:=by omega
   clear B E;generalize ps[i].length=pn at M p V
   generalize(ps.take i).flatten.length=sn at M V⊢
   have Aa:¬(sn:Int)+(pn:Int)<0:=by omega
   go_wp2;refine⟨⟨trivial,i+1,C,by go_num,?_⟩,?_⟩
   ·rw[M.o];go_num
   ·simp[intOf];omega
  ·have K:¬(i:Int)<(ps.length:Int):=by omega
   have G:(ps.take i).flatten.length=N:=by rw[List.take_of_length_le (by omega)];exact P.o
   rw[G];clear G;go_wp2_with fail;refine u.o.mono ?_;rintro e w1⟨c1,rfl,S,b1⟩;have f:Hid (y9j w ps 0 (.slice (some ⟨w,0,none⟩) 0 c1) w1):=⟨Nat.zero_le _,S,b1⟩;clear S b1;go_wp2_with fail
   go_loopw [6,27] (fun v x w'=>∃(i:Nat)(A:Option Addr)(n c:Nat),x=.int .i64 (i:Int)/\v=.slice A n c/\n=(ps.take i).flatten.length/\y9j w ps i (.slice A n c) w') (fun _ x _=>ps.length-(intOf x).toNat)
   case atStart=>exact⟨0,_,_,_,rfl,rfl,rfl,f.o⟩
   case round=>
    obtain⟨i,A,n,l,rfl,rfl,L,O⟩:=hrel;have E:=z3v ps i;rw[P.o,<-L]at E;by_cases C:i<ps.length
    ·have K:(i:Int)<(ps.length:Int):=by omega
     obtain⟨b0,o0,Y,j,rfl,q,p,hT,J⟩:=z.o.W O.b i C;have B:=z5y C;have I:=z3v ps (i+1);rw[B,List.length_append,P.o,<-L]at I;have M:=(show Hid (_=_)from B);have Z:Hid (q5j w.heap.size (.slice A n l) (ps.take i).flatten wr):=O.o;have d:Hid (Below w w wr):=O.b;have X:=O.b.size;have HT:Hid (q2e wr Y ps[i]):=hT;have Q:Hid (Y=none->ps[i].length=0/\j=0):=J;have y:Hid ((ps.take i).flatten.length=n):=L.symm;have g:Hid (∃m,ps[i].length=m):=⟨_,rfl⟩;generalize U:ps[i].length=pn at p I Q;have R:Hid (ps[i].length=pn):=U;clear B hT J L O U g E;go_wp2_with(at_builtin;refine z7q rfl _ _ rfl w.heap.size _ (ps.take i).flatten rfl Z.o Y pn ps[i] R.o j rfl HT.o Q.o (n+pn) (by rw[y.o]) (by omega) X ?_);intro t c3 w3 H D
     have h:Hid (y9j w ps (i+1) (.slice t (n+pn) c3) w3):=by
      refine⟨C,?_,d.o.grown D X (fun k hk=>(World.ownsRow.lt Z.o k hk).1)⟩;rw[M.o];exact H
     clear H D;go_wp2;refine⟨⟨i+1,t,n+pn,c3,by go_num,rfl,?_,h.o⟩,?_⟩
     ·rw[M.o,List.length_append,y.o,R.o]
     ·simp[intOf];omega
    ·have K:¬(i:Int)<(ps.length:Int):=by omega
     have G:ps.take i=ps:=List.take_of_length_le (by omega);obtain⟨_,r,hb⟩:=O;rw[G]at r L;rw[P.o]at L;subst L;have Z:Hid (q5j w.heap.size (.slice A n l) ps.flatten wr):=r;have d:Hid (Below w w wr):=hb;clear r hb G;go_wp2;go_ret;exact⟨A,l,rfl,Z.o,d.o⟩
theorem v2b(w:World)(o p:Obj):Below w w ((w.alloc o).alloc p):=((Below.refl _ w).alloc Zl o).alloc (by rw[World.size_alloc];omega) p
theorem z1l(w:World)(o p:Obj):((w.alloc o).alloc p).heap[w.heap.size]?=some o:=by
 have A:((w.heap.push o).push p)[w.heap.size]?=some o:=by
  rw[Array.getElem?_push,if_neg (by simp),Array.getElem?_push,if_pos rfl]
 exact A
theorem q8y(w:World)(o p:Obj):((w.alloc o).alloc p).heap[w.heap.size+1]?=some p:=by
 have A:((w.heap.push o).push p)[w.heap.size+1]?=some p:=by
  rw[Array.getElem?_push,if_pos (by simp)]
 exact A
abbrev ndO(x:Nd):Obj:=.cells #[.int .i64 x.op,.string x.tx,.int .i64 x.n] 107 (0,0)
theorem k8r{x:Nd}{W:World}{k:Nat}(h:W.heap[k]?=some (ndO x)):q2e W (some ⟨k,0,none⟩) [x]:=by
 intro i B;have C:i=0:=by simp at B;exact B
 subst C;have A:k<W.heap.size:=(Array.getElem?_eq_some_iff.1 h).1;refine⟨k,0,rfl,A,?_,?_,?_⟩<;>rw[Lib.cell_of_heap h]<;>rfl
theorem v7i{x:Nd}{xs:List Nd}{A:Option Addr}{c:Nat}(w W:World)(hb:Below w w W)(h0:W.heap[w.heap.size]?=some (ndO x))(h1:W.heap[w.heap.size+1]?=some (.cells #[.slice (some ⟨w,0,none⟩) 1 1,.slice A xs.length c] 49 (0,0)))
  (hN:q2e w A xs) (E:A=none->xs.length=0/\c=0) (hl:xs.length<=100000):
  Calls prog 182 #[.slice (some ⟨w.heap.size+1,0,none⟩) 2 2] W fun e w'=>NdR w (x::xs) e w':=by
 have D:w.heap.size+1<W.heap.size:=(Array.getElem?_eq_some_iff.1 h1).1;have B:∀i,W.cell? ⟨w.heap.size+1,i,none⟩=#[Value.slice (some ⟨w,0,none⟩) 1 1,.slice A xs.length c][i]?:=fun i=>by simp[World.cell?,h1]
 have M:v9x W (some ⟨w.heap.size+1,0,none⟩) [[x],xs]:=by
  intro i N;have L:i=0\/i=1:=by simp at N;omega
  rcases L with rfl|rfl
  ·exact⟨w.heap.size+1,0,some ⟨w,0,none⟩,1,rfl,D,B 0,k8r h0,fun e=>by cases e⟩
  ·exact⟨w.heap.size+1,0,A,c,rfl,D,B 1,hN.W hb,E⟩
 have C:[[x],xs].flatten=x::xs:=by simp
 have I:=z4c [[x],xs] (some ⟨w.heap.size+1,0,none⟩) 2 W M (by rw[C];simp) (by rw[C,List.length_cons];omega) (by simp);rw[C]at I;refine I.mono ?_;rintro e O⟨J,K,rfl,H,G⟩;exact⟨J,K,rfl,H.down hb.size,q0d hb Zl G⟩
theorem v2q{x:Nd}{xs ys:List Nd}{A A':Option Addr}{c c':Nat}(w W:World)(hb:Below w w W)(h0:W.heap[w.heap.size]?=some (ndO x))(h1:W.heap[w.heap.size+1]?=some (.cells #[.slice (some ⟨w,0,none⟩) 1 1,.slice A xs.length c,.slice A' ys.length c'] 49 (0,0)))
  (hN:q2e w A xs) (G:A=none->xs.length=0/\c=0) (hM:q2e w A' ys) (E:A'=none->ys.length=0/\c'=0) (hl:xs.length+ys.length<=100000):
  Calls prog 182 #[.slice (some ⟨w.heap.size+1,0,none⟩) 3 3] W fun e w'=>NdR w (x::(xs++ys)) e w':=by
 have D:w.heap.size+1<W.heap.size:=(Array.getElem?_eq_some_iff.1 h1).1;have B:∀i,W.cell? ⟨w.heap.size+1,i,none⟩=#[Value.slice (some ⟨w,0,none⟩) 1 1,.slice A xs.length c,.slice A' ys.length c'][i]?:=fun i=>by simp[World.cell?,h1]
 have N:v9x W (some ⟨w.heap.size+1,0,none⟩) [[x],xs,ys]:=by
  intro i O;have M:i=0\/i=1\/i=2:=by simp at O;omega
  rcases M with rfl|rfl|rfl
  ·exact⟨w.heap.size+1,0,some ⟨w,0,none⟩,1,rfl,D,B 0,k8r h0,fun e=>by cases e⟩
  ·exact⟨w.heap.size+1,0,A,c,rfl,D,B 1,hN.W hb,G⟩
  ·exact⟨w.heap.size+1,0,A',c',rfl,D,B 2,hM.W hb,E⟩
 have C:[[x],xs,ys].flatten=x::(xs++ys):=by simp
 have J:=z4c [[x],xs,ys] (some ⟨w.heap.size+1,0,none⟩) 3 W N (by rw[C];simp) (by rw[C,List.length_cons,List.length_append];omega) (by simp);rw[C]at J;refine J.mono ?_;rintro e P⟨K,L,rfl,I,H⟩;exact⟨K,L,rfl,I.down hb.size,q0d hb Zl H⟩
theorem q1w(s:ByteArray)(w:World):Calls prog 137 #[.string s] w fun e w'=>NdR w [⟨1,s,0⟩] e w':=by
 have B:=hid (q5j.one w ⟨1,s,0⟩);have A:Hid (∀O:Obj,Below w w (w.alloc O)):=fun O=>(Below.refl _ w).alloc Zl O
 go_in;go_wp2;go_ret;exact⟨_,1,rfl,B.o,A.o _⟩
theorem z1o(w:World):Calls prog 140 #[] w fun e w'=>NdR w [⟨2,⟨#[]⟩,0⟩] e w':=by
 have B:=hid (q5j.one w ⟨2,⟨#[]⟩,0⟩);have A:Hid (∀O:Obj,Below w w (w.alloc O)):=fun O=>(Below.refl _ w).alloc Zl O
 go_in;go_wp2;go_ret;exact⟨_,1,rfl,B.o,A.o _⟩
theorem k2i(w:World):Calls prog 208 #[] w fun e w'=>NdR w [⟨3,⟨#[]⟩,0⟩] e w':=by
 have B:=hid (q5j.one w ⟨3,⟨#[]⟩,0⟩);have A:Hid (∀O:Obj,Below w w (w.alloc O)):=fun O=>(Below.refl _ w).alloc Zl O
 go_in;go_wp2;go_ret;exact⟨_,1,rfl,B.o,A.o _⟩
theorem q9a{xs:List Nd}{v:Value}(w:World)(hx:NdV w v xs)(hl:xs.length<=100000):Calls prog 139 #[v] w fun e w'=>NdR w (⟨7,⟨#[]⟩,2⟩::xs) e w':=by
 obtain⟨A,c,rfl,E,B⟩:=hx;have D:=hid (fun W C h2 h3=>v7i (x:=⟨7,⟨#[]⟩,2⟩) (c:=c) w W C h2 h3 E B hl);clear E B hl;generalize xs.length=n at D⊢;go_in;go_wp2_with fail;refine(D.o _ (v2b w _ _) (z1l w _ _) (q8y w _ _)).mono ?_;rintro e I C;have G:=hid C;obtain⟨H,rfl,_,_⟩:=C.val;clear C;go_wp2;go_ret;exact G.o
theorem z1p{xs:List Nd}{v:Value}(w:World)(hx:NdV w v xs)(hl:xs.length<=100000):Calls prog 138 #[v] w fun e w'=>NdR w (⟨8,⟨#[]⟩,0⟩::xs) e w':=by
 obtain⟨A,c,rfl,E,B⟩:=hx;have D:=hid (fun W C h2 h3=>v7i (x:=⟨8,⟨#[]⟩,0⟩) (c:=c) w W C h2 h3 E B hl);clear E B hl;generalize xs.length=n at D⊢;go_in;go_wp2_with fail;refine(D.o _ (v2b w _ _) (z1l w _ _) (q8y w _ _)).mono ?_;rintro e I C;have G:=hid C;obtain⟨H,rfl,_,_⟩:=C.val;clear C;go_wp2;go_ret;exact G.o
theorem q1c{xs ys:List Nd}{v u:Value}(w:World)(hx:NdV w v xs)(hy:NdV w u ys)(hl:xs.length+ys.length<=100000):Calls prog 135 #[v,u] w fun e w'=>NdR w (⟨6,⟨#[]⟩,0⟩::(xs++ys)) e w':=by
 obtain⟨A,c,rfl,H,C⟩:=hx;obtain⟨J,c',rfl,G,B⟩:=hy;have E:=hid (fun W D h2 h3=>v2q (x:=⟨6,⟨#[]⟩,0⟩) (c:=c) (c':=c') w W D h2 h3 H C G B hl);clear H C G B hl;generalize xs.length=n at E⊢;generalize ys.length=m at E⊢;go_in;go_wp2_with fail;refine(E.o _ (v2b w _ _) (z1l w _ _) (q8y w _ _)).mono ?_;rintro e L D;have I:=hid D;obtain⟨K,rfl,_,_⟩:=D.val;clear D;go_wp2;go_ret;exact I.o
structure Ly(w0:World)(b:Nat)(ds:List Td)(w:World)(A:Option Addr)(c:Nat):Prop where
 x:w.heap[b]?=some (.cells #[.slice A ds.length c] 144 (0,0))
 le:ds.length<=c
 td:Tds w0 A ds
 bl:Below w0 w0 w
 lt:w0.heap.size<=b
def LyE(w0:World)(b:Nat)(ds:List Td)(w:World):Prop:=∃A c,Ly w0 b ds w A c
theorem Ly.in{w0:World}{b:Nat}{ds:List Td}{w:World}{A:Option Addr}{c:Nat}(h:Ly w0 b ds w A c):b<w.heap.size:=(Array.getElem?_eq_some_iff.1 h.x).1
theorem LyE.grew{w0:World}{b:Nat}{ds:List Td}{w w':World}(h:LyE w0 b ds w)(hb:Below w w w'):LyE w0 b ds w':=by
 obtain⟨A,c,h⟩:=h;exact⟨A,c,(hb.block b h.in).trans h.x,h.le,h.td,q0d h.bl Zl hb,h.lt⟩
structure Lk(w0:World)(b:Nat)(w:World)(rest:List Td)(wk:World):Prop where
 bt:But w b w wk
 ly:LyE w0 b rest wk
 lt:b<w.heap.size
theorem Lk.step{w0:World}{b:Nat}{w:World}{rest:List Td}{wk w':World}(h:Lk w0 b w rest wk)(hb:Below wk wk w'):Lk w0 b w rest w':=
 ⟨h.bt.trans (But.of (hb.mono h.bt.size)),h.ly.grew hb,h.lt⟩
theorem Lk.in{w0:World}{b:Nat}{w:World}{rest:List Td}{wk:World}(h:Lk w0 b w rest wk):b<wk.heap.size:=Nat.lt_of_lt_of_le h.lt h.bt.size
def NdB(b:Nat)(w:World)(v:Value)(xs:List Nd):Prop:=∃A c B,v=.slice A xs.length c/\b<B/\q5j B (.slice A xs.length c) xs w
theorem NdB.but{b:Nat}{w w':World}{v:Value}{xs:List Nd}(h:NdB b w v xs)(hb:But w b w w'):NdB b w' v xs:=by
 obtain⟨A,c,B,e,C,D⟩:=h;exact⟨A,c,B,e,C,D.kept fun g h1 h2=>hb.block g h2 (by omega)⟩
theorem NdB.bel{b:Nat}{w w':World}{v:Value}{xs:List Nd}(h:NdB b w v xs)(hb:Below w w w'):NdB b w' v xs:=h.but (.of hb)
theorem NdB.val{b:Nat}{w:World}{v:Value}{xs:List Nd}(h:NdB b w v xs):NdV w v xs:=by
 obtain⟨A,c,B,rfl,D,C⟩:=h;exact C.val
theorem NdR.valB{w:World}{xs:List Nd}{e:Ending}{w':World}{b:Nat}(h:NdR w xs e w')(hb:b<w.heap.size):∃v,e=.returned v/\NdB b w' v xs/\Below w w w':=by
 obtain⟨A,c,e,B,C⟩:=h;exact⟨_,e,⟨A,c,_,rfl,hb,B⟩,C⟩
def NdG(w0:World)(b:Nat)(w:World)(xs:List Nd)(rest:List Td)(e:Ending)(w':World):Prop:=∃A c,e=.returned (.slice A xs.length c)/\q5j w.heap.size (.slice A xs.length c) xs w'/\Lk w0 b w rest w'
theorem NdR.gof{w0:World}{b:Nat}{w wk:World}{xs:List Nd}{rest:List Td}{e:Ending}{w':World}(h:NdR wk xs e w')(hk:Lk w0 b w rest wk):NdG w0 b w xs rest e w':=by
 obtain⟨A,c,e,B,C⟩:=h;exact⟨A,c,e,B.down hk.bt.size,hk.step C⟩
theorem NdG.val{w0:World}{b:Nat}{w:World}{xs:List Nd}{rest:List Td}{e:Ending}{w':World}(h:NdG w0 b w xs rest e w'):∃v,e=.returned v/\NdB b w' v xs/\Lk w0 b w rest w':=by
 obtain⟨A,c,e,C,B⟩:=h;exact⟨_,e,⟨A,c,_,rfl,B.lt,C⟩,B⟩
theorem Lk.then{w0:World}{b:Nat}{w wk w':World}{r1 r2:List Td}(h:Lk w0 b w r1 wk)(k:Lk w0 b wk r2 w'):Lk w0 b w r2 w':=⟨h.bt.trans (k.bt.mono h.bt.size),k.ly,h.lt⟩
theorem NdG.then{w0:World}{b:Nat}{w wk w':World}{r1 r2:List Td}{xs:List Nd}{e:Ending}(h:Lk w0 b w r1 wk)(k:NdG w0 b wk xs r2 e w'):NdG w0 b w xs r2 e w':=by
 obtain⟨A,c,e,B,C⟩:=k;exact⟨A,c,e,B.down h.bt.size,h.then C⟩
theorem y0g{w:World}{k:Nat}{a a':Value}{T:TypeId}(h:w.heap[k]?=some (.cells #[a] T (0,0))):(w.setCell ⟨k,0,none⟩ a').heap[k]?=some (.cells #[a'] T (0,0)):=by
 simp[World.setCell,Array.getElem?_modify,h]
theorem q3p{w0:World}{b:Nat}{x:Td}{ds:List Td}{w:World}(h:LyE w0 b (x::ds) w):
  Calls prog 134 #[.pointer (some ⟨b,0,none⟩)] w fun e w'=>e=.returned (tdV x)/\Lk w0 b w ds w':=by
 obtain⟨A,c,h⟩:=h;obtain⟨C,J,rfl,B,K,L,M⟩:=h.td 0 (by simp);obtain⟨G,D,E⟩:=v0b h.td h.le;simp only[List.getElem_cons_zero,Nat.zero_mul,Nat.add_zero]at K L M;obtain⟨I,_⟩:=q1o h.bl;have a:w.cell? ⟨C,J,none⟩=some (.int .i64 x.op):=(I _ _ B).trans K;have d:w.cell? ⟨C,J+1,none⟩=some (.string x.tx):=(I _ _ B).trans L;have f:w.cell? ⟨C,J+2,none⟩=some (.int .i64 x.n):=(I _ _ B).trans M;have N:b<w.heap.size:=h.in;have Z:C<w.heap.size:=Nat.lt_of_lt_of_le B h.bl.size;have U:w.cell? ⟨b,0,none⟩=some (.slice (some ⟨C,J,none⟩) (x::ds).length c):=by rw[Lib.cell_of_heap h.x];rfl
 have g:w.frozen? ⟨b,0,none⟩=false:=Lib.frozen_of_heap h.x 0;have X:¬C=b:=by have:=h.lt;omega
 have H:=hid h;have S:Hid (Tds w0 G ds):=E;have O:=h.le;generalize Q:(x::ds).length=n at U D O;have V:0<n:=by rw[<-Q];simp
 clear h E K L M I Q;generalize P:ds.length=m at D;have R:Hid (ds.length=m):=P;clear P;go_in;go_wp2;refine bodyPost_ret (v:=tdV x) (by simp[results,Tryz.results134,go_sem]) rfl ?_;have h:=H.o
 have Y:LyE w0 b ds (w.setCell ⟨b,0,none⟩ (.slice G m (c-1))):=by
  refine⟨G,c-1,?_,?_,S.o,h.bl.setCell (p:=⟨b,0,none⟩) h.lt _,h.lt⟩
  ·rw[R.o];exact y0g h.x
  ·have:=h.le;simp only[List.length_cons]at this;omega
 have W:Lk w0 b w ds (w.setCell ⟨b,0,none⟩ (.slice G m (c-1))):=⟨(But.refl _ _ _).setCell (p:=⟨b,0,none⟩) (.inl rfl) _,Y,N⟩;exact⟨rfl,W.step (v2b _ _ _)⟩
end Go.Proofs.YtfdppahhbpfnoaaGreatDoor
namespace Go.Proofs.YtfdppahhbpfnoaaGreatDoor
theorem q8z:∀(t:Tr)(deep:Nat)(ws:List Int)(e:Int),t.lay deep ws=.error e->e≠0
 | .leaf x,deep,ws,e,h=>by
  simp only[Tr.lay]at h
  split at h
  ·cases h
  ·split at h<;>cases h
 | .one x a,deep,ws,e,h=>by
  simp only[Tr.lay]at h
  split at h
  ·exact q8z a _ ws e h
  ·match ws,h with
   | [],h=>cases h;decide
   | c::ws,h=>
    simp only at h
    split at h
    ·exact q8z a deep ws e h
    ·cases hf:a.flat with
     | none=>rw[hf]at h;cases h;decide
     | some s=>rw[hf]at h;cases h
 | .two x a b,deep,ws,e,h=>by
  simp only[Tr.lay]at h
  split at h
  ·cases ha:a.lay deep ws with
   | error e0=>rw[ha]at h;cases h;exact q8z a deep ws _ ha
   | ok p=>
    obtain⟨s1,ws1⟩:=p;rw[ha]at h;simp only at h;cases hb:b.lay deep ws1 with
    | error e0=>rw[hb]at h;cases h;exact q8z b deep ws1 _ hb
    | ok q=>rw[hb]at h;cases h
  ·match ws,h with
   | [],h=>cases h;decide
   | c::ws,h=>
    simp only at h
    split at h
    ·exact q8z a deep ws e h
    ·exact q8z b deep ws e h
theorem v5p{t:Tr}{ws:List Int}{e:Int}(h:t.show ws=.error e):e≠0:=by
 unfold Tr.show at h
 split at h
 ·cases A:t.lay 0 ws with
  | error e0=>rw[A]at h;cases h;exact q8z t 0 ws _ A
  | ok p=>
   obtain⟨u,r⟩:=p;rw[A]at h;cases r with
   | nil=>cases h
   | cons c r=>cases h;decide
 ·cases h;decide
noncomputable def q6l(ds:List Nd)(ws:List Int):Except Int (List UInt8):=if h:q2x ds=0 then(v7m ds h).show ws else .error (q2x ds)
theorem k3a{ds:List Nd}{ws:List Int}(h:q2x ds≠0):q6l ds ws=.error (q2x ds):=dif_neg h
theorem z6t{ds:List Nd}{ws:List Int}{t:Tr}(ht:t.Wf)(e:ds=t.N)(hl:ds.length<=400):q6l ds ws=t.show ws:=by
 have h:q2x ds=0:=by rw[e];exact z0q ht (by rw[<-e];exact hl)
 rw[q6l,dif_pos h,z7y h ht e]
theorem j9j{ds:List Nd}{ws:List Int}{e:Int}(h:q6l ds ws=.error e):e≠0:=by
 by_cases A:q2x ds=0
 ·rw[q6l,dif_pos A]at h;exact v5p h
 ·rw[k3a A]at h;cases h;exact A
theorem q9f:∀(t:Tr)(u:List Int),u∈t.ways->u.length<=t.N.length
 | .leaf _,u,h=>by simp[Tr.ways]at h;subst h;simp
 | .one x a,u,h=>by
  simp only[Tr.ways]at h;simp only[Tr.N,List.length_cons]
  split at h
  ·have:=q9f a u h;omega
  ·rcases List.mem_append.1 h with h|h
   ·split at h
    ·simp at h;subst h;simp
    ·simp at h
   ·obtain⟨v,hv,rfl⟩:=List.mem_map.1 h
    have:=q9f a v hv
    simp;omega
 | .two x a b,u,h=>by
  simp only[Tr.ways]at h;simp only[Tr.N,List.length_cons,List.length_append]
  split at h
  ·obtain⟨p,hp,hpq⟩:=List.mem_flatMap.1 h;obtain⟨q,hq,rfl⟩:=List.mem_map.1 hpq;have h1:=q9f a p hp;have h2:=q9f b q hq;rw[List.length_append];omega
  ·rcases List.mem_append.1 h with h|h
   ·obtain⟨v,hv,rfl⟩:=List.mem_map.1 h
    have:=q9f a v hv
    simp;omega
   ·obtain⟨v,hv,rfl⟩:=List.mem_map.1 h
    have:=q9f b v hv
    simp;omega
end Go.Proofs.YtfdppahhbpfnoaaGreatDoor
namespace Go.Proofs.YtfdppahhbpfnoaaGreatDoor
open Go Go.RowKit
def y2c(ds:List Td)(i j:Nat):Nat:=(q3d ds (i+1) j).getD 0
def q9x(ds:List Td)(i q:Nat):List Int:=(List.range q).map fun j=>((y2c ds i j:Nat):Int)
theorem z6f(ds:List Td)(i q:Nat):(q9x ds i q).length=q:=by simp[q9x]
theorem k5t(ds:List Td)(i q:Nat):q9x ds i (q+1)=q9x ds i q++[((y2c ds i q:Nat):Int)]:=by
 simp[q9x,List.range_succ]
def v9u(ds:List Td):Prop:=∀x∈ds,x.tx.size<=1000000000000
structure z2j(ds:List Td)(i:Nat)(w:World)(q:Nat)(A:Option Addr)(c:Nat)(wr:World):Prop where
 b:Below w w wr
 o:wr.ownsRow w.heap.size 3 1 (.slice A q c) q (q2d (q9x ds i q))
theorem z2j.start(ds:List Td)(i:Nat)(w:World):z2j ds i w 0 none 0 w:=⟨Below.refl _ _,World.ownsRow_nil _ _ _ _⟩
theorem z2j.later{ds:List Td}{i:Nat}{w:World}{q:Nat}{A:Option Addr}{c:Nat}{wr w':World}(h:z2j ds i w q A c wr)(hb:Below wr wr w'):z2j ds i w q A c w':=⟨q0d h.b Zl hb,q2s h.o hb⟩
theorem z2j.next{ds:List Td}{i:Nat}{w:World}{q:Nat}{A:Option Addr}{c:Nat}{wr:World}(h:z2j ds i w q A c wr){O:Obj}{w2:World}{g B:Nat}(D:w2.ownsRow w.heap.size 3 1 (.slice (some ⟨g,0,none⟩) (q+1) B) (q+1) (q2d (q9x ds i q)++[.int .i64 ((y2c ds i q:Nat):Int)]))(C:(wr.alloc O).grownBy w2 (Value.slice A q c).ownBlock):z2j ds i w (q+1) (some ⟨g,0,none⟩) B w2:=by
 have E:=h.b.size;refine⟨(h.b.alloc E O).grown C (by simp;omega) (fun j hj=>(World.ownsRow.lt h.o j hj).1),?_⟩;rw[k5t,q8m];exact D
theorem z2j.ints{ds:List Td}{i:Nat}{w:World}{q:Nat}{A:Option Addr}{c:Nat}{wr:World}(h:z2j ds i w q A c wr):q7w wr A (q9x ds i q):=by
 refine j0r (B:=w.heap.size) (n:=q) (c:=c) ?_;unfold z5i;rw[z6f];exact h.o
def z5h(B:Nat)(w:World)(a:Option Addr)(ws:List Int):Prop:=
 ∀i(h:i<ws.length),∃b o,a=some ⟨b,o,none⟩/\B<=b/\b<w.heap.size/\w.cell? ⟨b,o+i,none⟩=some (.int .i64 ws[i])
theorem z5h.ints{B:Nat}{w:World}{a:Option Addr}{ws:List Int}(h:z5h B w a ws):q7w w a ws:=by
 intro i D;obtain⟨b,o,e,_,A,C⟩:=h i D;exact⟨b,o,e,A,C⟩
theorem z5h.W{B:Nat}{w w':World}{a:Option Addr}{ws:List Int}(h:z5h B w a ws)(hb:Below w w w'):z5h B w' a ws:=by
 intro i E;obtain⟨b,o,e,D,A,C⟩:=h i E;exact⟨b,o,e,D,Nat.lt_of_lt_of_le A hb.size,(hb.cell (p:=⟨b,_,none⟩) A).trans C⟩
theorem z5h.down{B B':Nat}{w:World}{a:Option Addr}{ws:List Int}(h:z5h B w a ws)(D:B'<=B):z5h B' w a ws:=by
 intro i E;obtain⟨b,o,e,G,A,C⟩:=h i E;exact⟨b,o,e,by omega,A,C⟩
theorem y3n{w:World}{B n m c:Nat}{A:Option Addr}{xs:List Int}(h:w.ownsRow B 3 1 (.slice A m c) n (q2d xs))(hn:xs.length=n):z5h B w A xs:=by
 intro j J;rcases h.2 with⟨E,M⟩|⟨g,c,H,E,I,G,K,_,L,C⟩
 ·omega
 ·simp only[Value.slice.injEq]at E;obtain⟨rfl,rfl,rfl⟩:=E;refine⟨g,0,rfl,I,(Array.getElem?_eq_some_iff.1 G).1,?_⟩;have D:(q2d xs)[j]?=some (.int .i64 xs[j]):=by simp[q2d,J]
  rw[<-C]at D;rw[List.getElem?_take_of_lt (by omega)]at D;rw[Nat.zero_add];simp only[World.cell?,G];simpa using D
theorem z2j.far{ds:List Td}{i:Nat}{w:World}{q:Nat}{A:Option Addr}{c:Nat}{wr:World}(h:z2j ds i w q A c wr):z5h w.heap.size wr A (q9x ds i q):=y3n h.o (z6f ds i q)
structure Rd(w:World)(b:Nat)(A:Option Addr)(c:Nat)(ws:List Wd)(at_:Nat)(bad:Bool):Prop where
 c0:w.cell? ⟨b,0,none⟩=some (.slice A ws.length c)
 c1:w.cell? ⟨b,1,none⟩=some (.int .i64 (at_:Int))
 c2:w.cell? ⟨b,2,none⟩=some (.bool bad)
 row:k0j w b 3
 wd:Wds w A (ws.map wbS)
 lt:∀ba oa,A=some ⟨ba,oa,none⟩->ba<b
theorem Rd.keepB{w w':World}{b B:Nat}{A:Option Addr}{c:Nat}{ws:List Wd}{C:Nat}{D:Bool}(h:Rd w b A c ws C D)(hb:Below B w w')(hB:b<B):Rd w' b A c ws C D:=by
 refine⟨(hb.cell (p:=⟨b,0,none⟩) hB).trans h.c0,(hb.cell (p:=⟨b,1,none⟩) hB).trans h.c1,(hb.cell (p:=⟨b,2,none⟩) hB).trans h.c2,h.row.kept (hb.block b hB),?_,h.lt⟩;intro i J;obtain⟨E,H,e,G,I⟩:=h.wd i J
 have:=h.lt E H e
 exact⟨E,H,e,Nat.lt_of_lt_of_le G hb.size,(hb.cell (p:=⟨E,_,none⟩) (by show E<B;omega)).trans I⟩
theorem Rd.keep{w w':World}{b:Nat}{A:Option Addr}{c:Nat}{ws:List Wd}{at_:Nat}{bad:Bool}(h:Rd w b A c ws at_ bad)(hb:Below w w w'):Rd w' b A c ws at_ bad:=h.keepB hb h.row.lt
end Go.Proofs.YtfdppahhbpfnoaaGreatDoor
namespace Go.Proofs.YtfdppahhbpfnoaaGreatDoor
def Tr.go:Tr->List Int->List Int × List Int
 | .leaf _,rest=>([],rest)
 | .one x a,rest=>
  if x.op=7 then a.go rest
  else match rest with
   | []=>if a.isFlat=true then([0],[])else(1::(a.go []).1,(a.go []).2)
   | c::r=>if c=1 then(1::(a.go r).1,(a.go r).2)else([c],r)
 | .two x a b,rest=>
  if x.op=6 then((a.go rest).1++(b.go (a.go rest).2).1,(b.go (a.go rest).2).2)
  else match rest with
   | []=>(0::(a.go []).1,(a.go []).2)
   | c::r=>if c=0 then(0::(a.go r).1,(a.go r).2)else(c::(b.go r).1,(b.go r).2)
def Tr.first(t:Tr):List Int:=(t.go []).1
end Go.Proofs.YtfdppahhbpfnoaaGreatDoor
namespace Go.Proofs.YtfdppahhbpfnoaaGreatDoor
open Go Go.RowKit
def hdD(ps:List (Td × Tr)):Tr:=match ps with
 | p::_=>p.2
 | []=>wdD []
def q0j(t:List Td):Tr:=match j2z t with
 | .nil=>wdD []
 | .cons x k _=>stD x (hdD k.D)
theorem q6p{x:Td}{F:Fo}(h:F.ok)(hl:F.len=kdT x):q0j (x::F.N)=stD x (hdD F.D):=by
 rw[q0j,v9i h hl]
structure y9k(t:List Td):Prop where
 f:(q0j t).flat=some (q5i t)
 w:(q0j t).Wf
 e:(q0j t).noE
 n:(q0j t).N.length<=900
theorem y3l{F:Fo}(hl:F.len=1):∃y k,F=.cons y k .nil:=by
 cases F with
 | nil=>cases hl
 | cons y k n=>cases n with
  | nil=>exact⟨y,k,rfl⟩
  | cons _ _ _=>simp[Fo.len]at hl
theorem q5a{t:List Td}(h:q0b t=0)(h9:opT t≠9):∃(x y:Td)(k:Fo),t=x::(Fo.cons y k .nil).N/\(Fo.cons y k .nil).ok/\(Fo.cons y k .nil).exs/\(Fo.cons y k .nil).len=kdT x/\((x.op=7/\q0o x.tx=true/\x.n=0)\/(x.op=8/\x.tx=⟨#[]⟩/\x.n=0)):=by
 rcases q3h h with⟨x,rfl,A,_⟩|⟨x,F,rfl,C,B,D,E⟩
 ·exact absurd A h9
 ·obtain⟨y,k,rfl⟩:=y3l D;refine⟨x,y,k,rfl,C,B,?_,E⟩;rw[D];unfold kdT;rcases E with⟨A,_⟩|⟨A,_⟩<;>rw[A]<;>rfl
theorem q7h{t:List Td}(h:q0b t=0)(h9:opT t≠9):y9k t:=by
 have J:=(q2j h).1;obtain⟨x,y,k,rfl,E,I,U,Z⟩:=q5a h h9;have X:=z2w _ E I;have Y:=j4d _ E I;have W:=k4m (.cons y k .nil);have V:=z5u (.cons y k .nil);have B:q0j (x::(Fo.cons y k .nil).N)=stD x (q0g y k.D):=q6p E U;have S:q5i (x::(Fo.cons y k .nil).N)=stX x (Fo.cons y k .nil).R:=(z0l E U).1
 have M:(q0g y k.D).flat=some (q0x y k.R).tx:=by
  cases X with
  | cons h1 _=>exact h1.2
 have H:(q0g y k.D).Wf:=Y (y,q0g y k.D) (by simp[Fo.D]);have G:(q0g y k.D).noE:=W (y,q0g y k.D) (by simp[Fo.D])
 have O:(q0g y k.D).N.length+5<=20*(Fo.cons y k .nil).N.length:=by
  rw[Fo.D,q1y]at V
  have:z2y Fo.nil.D=0:=rfl
  exact Nat.le_trans (Nat.le_add_right _ _) V
 simp only[List.length_cons]at J;generalize q0g y k.D=D at B M H G O;have K:(wdD [59]).Wf:=z2r (by decide) (by decide) (by decide);have Q:(1:Int)≠4:=by decide
 have b:(2:Int)≠4:=by decide
 rcases Z with⟨L,P,_⟩|⟨L,_,_⟩
 ·obtain⟨d,e,a⟩:=q7m P;have C:stD x D=grD (twD (wdD ([108,101,116,32]++btL x.tx++[32,61])) (dpD (twD blD (twD D (wdD [59]))))):=by rw[stD,if_pos L]
  refine⟨?_,?_,?_,?_⟩
  ·rw[B,S,C,v3h,q5o (z3u _) (by rw[v3g];exact q5o v3f (q5o M (z3u _)))];simp[stX,L,hdT,Fo.R]
  ·rw[B,C];refine v6m (q6t (z2r (by simp) (by simp only[List.length_append,List.length_cons,List.length_nil];omega) fun c A=>?_) (v6l (q6t v6k (q6t H K))));rcases List.mem_append.1 A with A|A
   ·rcases List.mem_append.1 A with A|A
    ·simp at A;rcases A with rfl|rfl|rfl|rfl<;>decide
    ·exact a c A
   ·simp at A;rcases A with rfl|rfl<;>decide
  ·rw[B,C];exact⟨rfl,Q,rfl,b,rfl,G,Q⟩
  ·rw[B,C];simp only[Tr.N,List.length_cons,List.length_append,List.length_nil];omega
 ·have C:stD x D=twD D (wdD [59]):=by rw[stD,if_neg (by omega)]
  refine⟨?_,?_,?_,?_⟩
  ·rw[B,S,C,q5o M (z3u _)];simp[stX,L,hdT,Fo.R]
  ·rw[B,C];exact q6t H K
  ·rw[B,C];exact⟨rfl,G,Q⟩
  ·rw[B,C];simp only[Tr.N,List.length_cons,List.length_append,List.length_nil];omega
theorem j4h{t:List Td}(h:q0b t=0)(h9:opT t≠9){ws:List Int}{r:List UInt8}(hs:(q0j t).show ws=.ok r):r.filter dnB=(q5i t).filter dnB:=by
 have B:=q7h h h9;unfold Tr.show at hs
 split at hs
 ·cases C:(q0j t).lay 0 ws with
  | error e=>rw[C]at hs;cases hs
  | ok p=>
   obtain⟨E,A⟩:=p;rw[C]at hs;have D:=q7k _ _ B.e B.w B.f 0 ws A E C;cases A with
   | nil=>cases hs;exact D
   | cons a b=>cases hs
 ·cases hs
def z2k(B:Nat)(w:World)(a:Option Addr)(ds:List Nd):Prop:=
 ∀i(h:i<ds.length),∃b o,a=some ⟨b,o,none⟩/\b<B/\w.cell? ⟨b,o+i*3,none⟩=some (.int .i64 ds[i].op)/\w.cell? ⟨b,o+i*3+1,none⟩=some (.string ds[i].tx)/\w.cell? ⟨b,o+i*3+2,none⟩=some (.int .i64 ds[i].n)
theorem q2e.b{w:World}{a:Option Addr}{ds:List Nd}(h:q2e w a ds):z2k w.heap.size w a ds:=h
theorem z2k.W{B:Nat}{w w':World}{a:Option Addr}{ds:List Nd}(h:z2k B w a ds)(hb:Below B w w'):z2k B w' a ds:=by
 intro i G;obtain⟨b,o,e,A,C,D,E⟩:=h i G;exact⟨b,o,e,A,(hb.cell (p:=⟨b,_,none⟩) A).trans C,(hb.cell (p:=⟨b,_,none⟩) A).trans D,(hb.cell (p:=⟨b,_,none⟩) A).trans E⟩
theorem z2k.nods{B:Nat}{w:World}{a:Option Addr}{ds:List Nd}(h:z2k B w a ds)(hB:B<=w.heap.size):q2e w a ds:=by
 intro i E;obtain⟨b,o,e,G,A,C,D⟩:=h i E;exact⟨b,o,e,by omega,A,C,D⟩
theorem z2k.rest{B:Nat}{w:World}{b o:Nat}{x:Nd}{ds:List Nd}(h:z2k B w (some ⟨b,o,none⟩) (x::ds)):z2k B w (some ⟨b,o+3,none⟩) ds:=by
 intro i H;obtain⟨G,I,e,A,C,D,E⟩:=h (i+1) (by simp;omega);simp only[Option.some.injEq,Addr.mk.injEq,and_true]at e;obtain⟨rfl,rfl⟩:=e;refine⟨b,o+3,rfl,A,?_,?_,?_⟩
 ·rw[show o+3+i*3=o+(i+1)*3 by omega];exact C
 ·rw[show o+3+i*3+1=o+(i+1)*3+1 by omega];exact D
 ·rw[show o+3+i*3+2=o+(i+1)*3+2 by omega];exact E
theorem z2k.slid{B:Nat}{w:World}{b o cap:Nat}{x:Nd}{ds:List Nd}(h:z2k B w (some ⟨b,o,none⟩) (x::ds))(hc:ds.length+1<=cap):
  z2k B w (if cap=1 then some ⟨b,o,none⟩else some ⟨b,o+3,none⟩) ds:=by
 by_cases A:cap=1
 ·have:ds=[]:=List.eq_nil_of_length_eq_zero (by omega)
  subst this;exact fun i hi=>by simp at hi
 ·rw[if_neg A];exact h.rest
end Go.Proofs.YtfdppahhbpfnoaaGreatDoor
namespace Go.Proofs.YtfdppahhbpfnoaaGreatDoor
def q6z(l L:List (List Int)):Prop:=l.take 301=L.take 301
theorem q6z.refl(l:List (List Int)):q6z l l:=rfl
theorem q6z.or{l L:List (List Int)}(h:q6z l L):l=L\/(301<=l.length/\301<=L.length):=by
 unfold q6z at h;have B:=congrArg List.length h;rw[List.length_take,List.length_take]at B;by_cases A:301<=l.length
 ·exact .inr ⟨A,by omega⟩
 ·left;rw[List.take_of_length_le (by omega),List.take_of_length_le (by omega)]at h;exact h
theorem q6z.map{l L:List (List Int)}(h:q6z l L)(f:List Int->List Int):q6z (l.map f) (L.map f):=by
 unfold q6z at *;rw[<-List.map_take,<-List.map_take,h]
theorem q6z.app{l L m M:List (List Int)}(h:q6z l L)(k:q6z m M):q6z (l++m) (L++M):=by
 rcases h.or with rfl|⟨A,B⟩
 ·unfold q6z at *;rw[List.take_append,List.take_append]
  congr 1
  have e:∀x:List (List Int),x.take (301-l.length)=(x.take 301).take (301-l.length):=fun x=>by rw[List.take_take];congr 1;omega
  rw[e m,e M,k]
 ·unfold q6z at *;rw[List.take_append_of_le_length A,List.take_append_of_le_length B,h]
theorem q6z.flat{l L:List (List Int)}(h:q6z l L):∀us:List (List Int),q6z (us.flatMap fun u=>l.map (u++·)) (us.flatMap fun u=>L.map (u++·))
 | []=>rfl
 | u::us=>by
  rw[List.flatMap_cons,List.flatMap_cons];exact(h.map _).app (h.flat us)
end Go.Proofs.YtfdppahhbpfnoaaGreatDoor
