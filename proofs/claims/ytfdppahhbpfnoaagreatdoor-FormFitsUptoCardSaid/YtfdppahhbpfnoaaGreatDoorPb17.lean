import Derived.Test.YtfdppahhbpfnoaaGreatDoorPb13
import Derived.Laws.Strings2
import Derived.Test.YtfdppahhbpfnoaaGreatDoorPb12
import Derived.Test.YtfdppahhbpfnoaaGreatDoorPb14
open Go.Proofs.Tryz
namespace Go.Proofs.YtfdppahhbpfnoaaGreatDoor
open Go Go.RowKit
set_option maxRecDepth 100000
set_option maxHeartbeats 1000000
theorem v7l(d:Nat)(h:d<=9)(W:World):(Instr.slice 9 (.string ⟨#[48,49,50,51,52,53,54,55,56,57]⟩) (some (.int .i64 (d:Int))) (some (.int .i64 ((d:Int)+1))) none).run prog W=.ok (.string (wbS [UInt8.ofNat (48+d)])) W:=by
 rw[run_slice_string (P:=prog) (w:=W) 9 _ .i64 .i64 (d:Int) ((d:Int)+1) Tryz.underlying9 (by omega) (by omega) (by show(d:Int)+1<=10;omega)];have e:((d:Int)+1).toNat=d+1:=by omega
 rw[e,Int.toNat_natCast]
 match d,h with
 | 0,_=>rfl
 | 1,_=>rfl
 | 2,_=>rfl
 | 3,_=>rfl
 | 4,_=>rfl
 | 5,_=>rfl
 | 6,_=>rfl
 | 7,_=>rfl
 | 8,_=>rfl
 | 9,_=>rfl
theorem q2l(a b:List UInt8):wbS a++wbS b=wbS (a++b):=by
 apply ByteArray.ext;simp[wbS]
theorem j0d{n:Nat}(h:n<=9):q2n n=[UInt8.ofNat (48+n)]:=by rw[q2n,dif_pos h]
theorem v2w{n:Nat}(h:¬n<=9):q2n n=q2n (n / 10)++[UInt8.ofNat (48+n % 10)]:=by rw[q2n,dif_neg h]
theorem k6r(l:List UInt8):(wbS l).size=l.length:=by
 rw[<-q0c];rfl
theorem v5i(n:Nat)(hn:n<=999999)(w:World):Calls prog 58 #[.int .i64 (n:Int)] w fun e w'=>e=.returned (.string (wbS (q2n n)))/\w=w':=by
 have H:=q8a 5 n (by omega);go_in;go_wp2_with fail
 go_loopw [0,3] (fun x s wr=>wr=w/\∃(m:Nat)(t:List UInt8),x=.int .i64 (m:Int)/\s=.string (wbS t)/\m<=n/\q2n n=q2n m++t) (fun x _ _=>(intOf x).toNat)
 case atStart=>exact⟨rfl,n,[],rfl,rfl,Nat.le_refl _,by simp⟩
 case round=>
  obtain⟨rfl,m,t,rfl,rfl,P,I⟩:=hrel;have K:Hid (q2n n=q2n m++t):=I
  have C:(wbS t).size<=100:=by
   have:=congrArg List.length I
   rw[List.length_append]at this;rw[k6r];omega
  clear I H;by_cases E:m<=9
  ·have G:¬(9:Int)<(m:Int):=by omega
   have D:=v7l m E;have B:(wbS [UInt8.ofNat (48+m)]).size<=1:=by rw[k6r];exact Nat.le_refl _
   have A:Hid (wbS [UInt8.ofNat (48+m)]++wbS t=wbS (q2n n)):=by
    show _=_;rw[K.o,j0d E,q2l]
   generalize wbS [UInt8.ofNat (48+m)]=dg at D B A;generalize wbS t=ts at C A;go_wp2;go_ret;exact⟨by rw[<-A.o];rfl,rfl⟩
  ·have G:(9:Int)<(m:Int):=by omega
   have D:=v7l (m % 10) (by omega);have L:((m % 10:Nat):Int)=(m:Int) % 10:=by omega
   have M:((m / 10:Nat):Int)=(m:Int) / 10:=by omega
   rw[L]at D;have B:(wbS [UInt8.ofNat (48+m % 10)]).size<=1:=by rw[k6r];exact Nat.le_refl _
   have A:Hid (wbS [UInt8.ofNat (48+m % 10)]++wbS t=wbS ([UInt8.ofNat (48+m % 10)]++t)):=q2l _ _
   have N:Hid (q2n n=q2n (m / 10)++([UInt8.ofNat (48+m % 10)]++t)):=by
    show _=_;rw[K.o,v2w E,List.append_assoc]
   have O:Hid (((m / 10:Nat):Int)=(m:Int) / 10):=M;generalize wbS [UInt8.ofNat (48+m % 10)]=dg at D B A;generalize J:wbS t=ts at C A;clear L M J;go_wp2;exact⟨⟨by trivial,m / 10,_,by rw[O.o],by rw[A.o],by omega,N.o⟩,by simp[intOf];omega⟩
def y5a(p k:Int)(s:Bool):Bool:=(decide (p=6)&&decide (k=5))||(s&&(decide (p=5)||decide (p=6))&&decide (k=p))
theorem y0f(p x:Td)(s:Bool)(h:p.op=5\/p.op=6):y5a p.op x.op s=decide (prc x<(if p.op=5 then(if s then 1 else 0)else(if s then 2 else 1))):=by
 unfold y5a prc;rcases h with h|h<;>rw[h]<;>cases s<;>by_cases A:x.op=5<;>by_cases B:x.op=6<;>simp_all
theorem j1l(p x:Td)(s:Bool)(w:World):Calls prog 93 #[tdV p,tdV x,.bool s] w fun e w'=>e=.returned (.bool (y5a p.op x.op s))/\Below w w w':=by
 obtain⟨B,K,J⟩:=p;obtain⟨C,M,L⟩:=x;unfold tdV;simp only;go_in;have A:Hid (∀o1 o2:Obj,Below w w ((w.alloc o1).alloc o2)):=fun o1 o2=>(Zb.alloc Zl _).alloc (by rw[World.size_alloc];omega) _
 go_wp2
 all_goals go_ret
 all_goals refine⟨?_,?_⟩
 all_goals first|exact A.o _ _|(simp_all[y5a];done)|(by_cases D:C=5<;>by_cases E:C=6<;>by_cases H:B=5<;>by_cases I:B=6<;>by_cases G:C=B<;>simp_all[y5a])
def Row(w:World)(b n:Nat):Prop:=∃cs T,w.heap[b]?=some (.cells cs T (0,0))/\cs.size=n
theorem Row.lt{w:World}{b n:Nat}(h:Row w b n):b<w.heap.size:=by
 obtain⟨B,T,h,_⟩:=h;rcases Nat.lt_or_ge b w.heap.size with A|A
 ·exact A
 ·simp[Array.getElem?_eq_none A]at h
theorem Row.cell{w:World}{b n i:Nat}(h:Row w b n)(hi:i<n):∃y,w.cell? ⟨b,i,none⟩=some y:=by
 obtain⟨A,T,h,B⟩:=h;refine⟨A[i],?_⟩;simp[World.cell?,h]
theorem Row.frozen{w:World}{b n i:Nat}(h:Row w b n):w.frozen? ⟨b,i,none⟩=false:=by
 obtain⟨A,T,h,B⟩:=h;simp[World.frozen?,h]
theorem Row.kept{w w':World}{b n:Nat}(h:Row w b n)(hb:w'.heap[b]?=w.heap[b]?):Row w' b n:=by
 obtain⟨A,T,h,B⟩:=h;exact⟨A,T,hb.trans h,B⟩
theorem Row.set{w:World}{b n c i:Nat}{v:Value}(h:Row w b n):Row (w.setCell ⟨c,i,none⟩ v) b n:=by
 by_cases e:c=b
 ·subst e;obtain⟨A,T,h,B⟩:=h;exact⟨A.setIfInBounds i v,T,by simp[World.setCell,Array.getElem?_modify,h],by simpa using B⟩
 ·exact h.kept (Below.heap_setCell _ _ _ _ (Ne.symm e))
section
variable {be bf i:Nat} {e f:Value} {w w':World}
theorem z2l.block(h:z2l be bf i e f w w')(k:Nat)(h1:k≠be)(h2:k≠bf):w'.heap[k]?=w.heap[k]?:=by
 rw[h.2.2.2,Below.heap_setCell _ _ _ _ h2,Below.heap_setCell _ _ _ _ h1]
theorem z2l.cells(h:z2l be bf i e f w w')(b o:Nat):w'.cell? ⟨b,o,none⟩=((w.setCell ⟨be,i,none⟩ e).setCell ⟨bf,i,none⟩ f).cell? ⟨b,o,none⟩:=World.cell?_of_block (a:=⟨b,o,none⟩) (by rw[h.2.2.2])
theorem z2l.other(h:z2l be bf i e f w w')(b o:Nat)(h1:be≠b\/i≠o)(h2:bf≠b\/i≠o):w'.cell? ⟨b,o,none⟩=w.cell? ⟨b,o,none⟩:=(h.cells b o).trans ((cso h2).trans (cso h1))
theorem z2l.cellE(h:z2l be bf i e f w w')(hb:be≠bf){y:Value}(hy:w.cell? ⟨be,i,none⟩=some y):w'.cell? ⟨be,i,none⟩=some e:=(h.cells be i).trans ((cso (by omega)).trans (css hy))
theorem z2l.cellF(h:z2l be bf i e f w w')(hb:be≠bf){y:Value}(hy:w.cell? ⟨bf,i,none⟩=some y):w'.cell? ⟨bf,i,none⟩=some f:=(h.cells bf i).trans (css ((cso (by omega)).trans hy))
theorem z2l.size(h:z2l be bf i e f w w'):w'.heap.size=w.heap.size:=by rw[h.2.2.2];simp[World.setCell]
theorem z2l.W(h:z2l be bf i e f w w'){B:Nat}(h1:B<=be)(h2:B<=bf):Below B w w':=
 ⟨h.1,h.2.1,h.2.2.1,Nat.le_of_eq h.size.symm,fun k hk=>h.block k (by omega) (by omega)⟩
theorem z2l.row{b n:Nat}(h:z2l be bf i e f w w')(hr:Row w b n):Row w' b n:=by
 refine(Row.set (c:=bf) (i:=i) (v:=f) (Row.set (c:=be) (i:=i) (v:=e) hr)).kept ?_;rw[h.2.2.2]
end
def q8n(w:World)(be bf:Nat)(ds:List Nd)(k:Nat):Prop:=
 ∀i(t:Tr)(r:List Nd),k<=i->t.Wf->ds.drop i=t.N++r->w.cell? ⟨be,i,none⟩=some (.int .i64 ((i+t.N.length:Nat):Int))/\w.cell? ⟨bf,i,none⟩=some (.bool t.isFlat)
theorem q8n.kept{w w':World}{be bf:Nat}{ds:List Nd}{k:Nat}(h:q8n w be bf ds k)(h1:w'.heap[be]?=w.heap[be]?)(h2:w'.heap[bf]?=w.heap[bf]?):q8n w' be bf ds k:=by
 intro i t r D E C;obtain⟨A,B⟩:=h i t r D E C;exact⟨(World.cell?_of_block (w:=w) (a:=⟨be,i,none⟩) h1).trans A,(World.cell?_of_block (w:=w) (a:=⟨bf,i,none⟩) h2).trans B⟩
theorem q8n.end{w:World}{be bf:Nat}{ds:List Nd}:q8n w be bf ds ds.length:=by
 intro i t r C D A;rw[List.drop_eq_nil_of_le C]at A
 have:=t.pos
 have B:=congrArg List.length A;rw[List.length_append,List.length_nil]at B;omega
theorem q8n.step{w w':World}{be bf:Nat}{ds:List Nd}{i:Nat}{t:Tr}{r:List Nd}{y1 y2:Value}(h:q8n w be bf ds (i+1))(ht:t.Wf)(hd:ds.drop i=t.N++r)(hb:be≠bf)(e1:w.cell? ⟨be,i,none⟩=some y1)(e2:w.cell? ⟨bf,i,none⟩=some y2)
  (hp:z2l be bf i (.int .i64 ((i+t.N.length:Nat):Int)) (.bool t.isFlat) w w'):q8n w' be bf ds i:=by
 intro j D C I B A;by_cases H:j=i
 ·subst H;obtain⟨rfl,_⟩:=q7n t D r C ht B (hd.symm.trans A);exact⟨hp.cellE hb e1,hp.cellF hb e2⟩
 ·obtain⟨E,G⟩:=h j D C (by omega) B A;exact⟨(hp.other be j (by omega) (by omega)).trans E,(hp.other bf j (by omega) (by omega)).trans G⟩
theorem q1k{ds A:List Nd}{i:Nat}{x:Nd}(h:ds.drop i=x::A):∃hi:i<ds.length,ds[i]=x/\ds.drop (i+1)=A:=by
 have hi:i<ds.length:=by
  rcases Nat.lt_or_ge i ds.length with B|B
  ·exact B
  ·rw[List.drop_eq_nil_of_le B]at h;cases h
 rw[List.drop_eq_getElem_cons hi,List.cons.injEq]at h;exact⟨hi,h⟩
theorem z8a{ds A r:List Nd}{i:Nat}(h:ds.drop i=A++r):ds.drop (i+A.length)=r:=by
 rw[<-List.drop_drop,h,List.drop_left]
theorem q8v{ds:List Nd}{i:Nat}{t:Tr}{r:List Nd}(h:ds.drop i=t.N++r):i<ds.length:=by
 rcases Nat.lt_or_ge i ds.length with A|A
 ·exact A
 ·have B:=congrArg List.length h
  have:=t.pos
  rw[List.drop_eq_nil_of_le A,List.length_append,List.length_nil]at B;omega
theorem j5x(bp be bf s cap i:Nat)(ds:List Nd)(a:Option Addr)(t:Tr)(r:List Nd)(w:World)(ht:t.Wf)(hd:ds.drop i=t.N++r)(hl:ds.length<=400)(hN:q0z s w a ds)(h1:bp≠be)(h2:bp≠bf)(h3:be≠bf)(h4:s≠be)(h5:s≠bf)
  (c0:w.cell? ⟨bp,0,none⟩=some (.slice a ds.length cap)) (c1:w.cell? ⟨bp,1,none⟩=some (.slice (some ⟨be,0,none⟩) ds.length ds.length)) (c2:w.cell? ⟨bp,2,none⟩=some (.slice (some ⟨bf,0,none⟩) ds.length ds.length))
  (hE:Row w be ds.length) (hF:Row w bf ds.length) (hK:q8n w be bf ds (i+1)):
  Calls prog 90 #[.pointer (some ⟨bp,0,none⟩),.int .i64 i] w fun e w'=>e=.returned (.tuple #[])/\z2l be bf i (.int .i64 ((i+t.N.length:Nat):Int)) (.bool t.isFlat) w w':=by
 have U:=q8v hd;obtain⟨I,G⟩:=hE.cell U;obtain⟨J,H⟩:=hF.cell U;have K:w.frozen? ⟨be,i,none⟩=false:=hE.frozen;have L:w.frozen? ⟨bf,i,none⟩=false:=hF.frozen;obtain⟨o,Z,B,_,_⟩:=hN i U;subst Z;have C:(i:Int)<ds.length:=by omega
 cases t with
 | leaf x=>
  obtain⟨_,R,_⟩:=q1k (x:=x) (A:=r) hd;have Q:((i+(Tr.leaf x).N.length:Nat):Int)=(i:Int)+1:=rfl;rw[Q];rw[R]at B;rcases q5d ht.1 ht.2 with e|e|e|e|e
  ·have D:(Tr.leaf x).isFlat=true:=by simp[Tr.isFlat,Tr.flat,e]
   rw[D];rw[e]at B;exact q8e 1 (.inl rfl) bp be bf s o _ cap i w hl C h1 h2 h3 h4 h5 c0 c1 c2 B I J G H K L
  ·have D:(Tr.leaf x).isFlat=true:=by simp[Tr.isFlat,Tr.flat,e]
   rw[D];rw[e]at B;exact q8e 2 (.inr (.inl rfl)) bp be bf s o _ cap i w hl C h1 h2 h3 h4 h5 c0 c1 c2 B I J G H K L
  ·have D:(Tr.leaf x).isFlat=true:=by simp[Tr.isFlat,Tr.flat,e]
   rw[D];rw[e]at B;exact q8e 3 (.inr (.inr (.inl rfl))) bp be bf s o _ cap i w hl C h1 h2 h3 h4 h5 c0 c1 c2 B I J G H K L
  ·have D:(Tr.leaf x).isFlat=false:=by simp[Tr.isFlat,Tr.flat,e]
   rw[D];rw[e]at B;exact y2h bp be bf s o _ cap i w hl C h1 h2 h3 h4 h5 c0 c1 c2 B I J G H K L
  ·have D:(Tr.leaf x).isFlat=true:=by simp[Tr.isFlat,Tr.flat,e]
   rw[D];rw[e]at B;exact q8e 5 (.inr (.inr (.inr rfl))) bp be bf s o _ cap i w hl C h1 h2 h3 h4 h5 c0 c1 c2 B I J G H K L
 | one x a'=>
  obtain⟨_,R,E⟩:=q1k (x:=x) (A:=a'.N++r) hd;have V:=q8v E;obtain⟨P,O⟩:=hK (i+1) a' r Zl ht.2.2 E;have Q:((i+(Tr.one x a').N.length:Nat):Int)=((i+1+a'.N.length:Nat):Int):=by simp only[Tr.N,List.length_cons];congr 1;omega
  have D:(Tr.one x a').isFlat=a'.isFlat:=rfl;rw[Q,D];rw[R]at B;rcases z2f ht.2.1 with e|e
  ·rw[e]at B;exact k8e 7 (.inl rfl) bp be bf s o _ cap i _ _ w hl C (by omega) h1 h2 h3 h4 h5 c0 c1 c2 B P O I J G H K L
  ·rw[e]at B;exact k8e 8 (.inr rfl) bp be bf s o _ cap i _ _ w hl C (by omega) h1 h2 h3 h4 h5 c0 c1 c2 B P O I J G H K L
 | two x a' b'=>
  obtain⟨_,R,S⟩:=q1k (x:=x) (A:=a'.N++b'.N++r) hd;have E:ds.drop (i+1)=a'.N++(b'.N++r):=by rw[S,List.append_assoc]
  have M:=z8a E;have V:=q8v E;have b:=q8v M;have c:=a'.pos;obtain⟨P,O⟩:=hK (i+1) a' _ Zl ht.2.2.1 E;obtain⟨W,Y⟩:=hK _ b' r (by omega) ht.2.2.2 M;have Q:((i+(Tr.two x a' b').N.length:Nat):Int)=((i+1+a'.N.length+b'.N.length:Nat):Int):=by simp only[Tr.N,List.length_cons,List.length_append];congr 1;omega
  rw[Q];rw[R]at B;rcases z0s ht.2.1 with e|e
  ·have D:(Tr.two x a' b').isFlat=(a'.isFlat&&b'.isFlat):=(j6j e).2;rw[D];rw[e]at B;cases X:a'.isFlat with
   | true=>
    rw[X]at O;exact v3y bp be bf s o _ cap i _ _ _ w hl C (by omega) (by omega) (by omega) h1 h2 h3 h4 h5 c0 c1 c2 B P W O Y I J G H K L
   | false=>
    rw[X]at O;exact v3x bp be bf s o _ cap i _ _ _ w hl C (by omega) (by omega) (by omega) h1 h2 h3 h4 h5 c0 c1 c2 B P W O Y I J G H K L
  ·have D:(Tr.two x a' b').isFlat=a'.isFlat:=by simp[Tr.isFlat,Tr.flat,e]
   rw[D];rw[e]at B;exact y2i bp be bf s o _ cap i _ _ _ w hl C (by omega) (by omega) (by omega) h1 h2 h3 h4 h5 c0 c1 c2 B P W O I J G H K L
theorem j5k:(prog.info? 3).map (fun i=>(i.zero,i.size,i.bytes))=some (some (.int .i64 0),1,8):=by kernel_rfl
theorem v2h:(prog.info? 4).map (fun i=>(i.zero,i.size,i.bytes))=some (some (.bool false),1,1):=by kernel_rfl
structure z7m(w0:World)(s bp be bf:Nat)(a:Option Addr)(cap:Nat)(ds:List Nd)(w:World):Prop where
 b1:w0.heap.size<=bp
 b2:w0.heap.size+1<=be
 b3:w0.heap.size+1<=bf
 n1:bp≠be
 n2:bp≠bf
 n3:be≠bf
 c0:w.cell? ⟨bp,0,none⟩=some (.slice a ds.length cap)
 c1:w.cell? ⟨bp,1,none⟩=some (.slice (some ⟨be,0,none⟩) ds.length ds.length)
 c2:w.cell? ⟨bp,2,none⟩=some (.slice (some ⟨bf,0,none⟩) ds.length ds.length)
 re:Row w be ds.length
 rf:Row w bf ds.length
 rb:w.heap[w0.heap.size]?=some (.cells #[.slice none 0 0,.slice none 0 0,.slice none 0 0] 98 (0,0))
 bw:Below w0 w0 w
 nd:q0z s w a ds
theorem z7m.put{w0 w w':World}{s bp be bf cap i:Nat}{a:Option Addr}{ds:List Nd}{e f:Value}(h:z7m w0 s bp be bf a cap ds w)(hs:s<w0.heap.size)(hp:z2l be bf i e f w w'):z7m w0 s bp be bf a cap ds w' where
 b1:=h.b1
 b2:=h.b2
 b3:=h.b3
 n1:=h.n1
 n2:=h.n2
 n3:=h.n3
 c0:=(hp.other bp 0 (.inl h.n1.symm) (.inl h.n2.symm)).trans h.c0
 c1:=(hp.other bp 1 (.inl h.n1.symm) (.inl h.n2.symm)).trans h.c1
 c2:=(hp.other bp 2 (.inl h.n1.symm) (.inl h.n2.symm)).trans h.c2
 re:=hp.row h.re
 rf:=hp.row h.rf
 rb:=(hp.block _ (by have:=h.b2;omega) (by have:=h.b3;omega)).trans h.rb
 bw:=h.bw.trans (hp.W (by have:=h.b2;omega) (by have:=h.b3;omega))
 nd:=h.nd.kept (hp.block s (by have:=h.b2;omega) (by have:=h.b3;omega))
set_option maxHeartbeats 4000000
theorem q3v(z:Value)(n:Nat):(madeCells #[z] n).size=n:=by simp[madeCells]
theorem q2b(w:World)(O0 O1 O2 O3:Obj):((((w.alloc O0).alloc O1).alloc O2).alloc O3).drew.heap[w.heap.size]?=some O0/\((((w.alloc O0).alloc O1).alloc O2).alloc O3).drew.heap[w.heap.size+1]?=some O1
  /\((((w.alloc O0).alloc O1).alloc O2).alloc O3).drew.heap[w.heap.size+1+1]?=some O2/\((((w.alloc O0).alloc O1).alloc O2).alloc O3).drew.heap[w.heap.size+1+1+1]?=some O3:=by
 have E:(w.alloc O0).heap.size=w.heap.size+1:=by simp
 have G:((w.alloc O0).alloc O1).heap.size=w.heap.size+1+1:=by simp
 have H:(((w.alloc O0).alloc O1).alloc O2).heap.size=w.heap.size+1+1+1:=by simp
 have D:=heap_alloc_new w O0;have A:=heap_alloc_new (w.alloc O0) O1;have B:=heap_alloc_new ((w.alloc O0).alloc O1) O2;have C:=heap_alloc_new (((w.alloc O0).alloc O1).alloc O2) O3;rw[E]at A;rw[G]at B;rw[H]at C;refine⟨?_,?_,?_,C⟩
 ·exact(Below.heap_alloc _ _ _ (by omega)).trans ((Below.heap_alloc _ _ _ (by omega)).trans ((Below.heap_alloc _ _ _ (by omega)).trans D))
 ·exact(Below.heap_alloc _ _ _ (by omega)).trans ((Below.heap_alloc _ _ _ (by omega)).trans A)
 ·exact(Below.heap_alloc _ _ _ (by omega)).trans B
theorem z1b(w:World)(O0 O1 O2 O3:Obj):Below w w ((((w.alloc O0).alloc O1).alloc O2).alloc O3).drew:=
 Below.drew (((((Below.refl _ w).alloc Zl _).alloc (by simp) _).alloc (by simp;omega) _).alloc (by simp;omega) _)
theorem q8i{w W:World}{s bp be bf cap:Nat}{a:Option Addr}{ds:List Nd}(hs:s<w.heap.size)(hN:q0z s w a ds)(bw:Below w w W)(rb:W.heap[w.heap.size]?=some (.cells #[.slice none 0 0,.slice none 0 0,.slice none 0 0] 98 (0,0)))
  (hp:W.heap[bp]?=some (.cells #[.slice a ds.length cap,.slice (some ⟨be,0,none⟩) ds.length ds.length,.slice (some ⟨bf,0,none⟩) ds.length ds.length] 98 (0,0))) {ce cf:Array Value} {Te Tf:TypeId} (he:W.heap[be]?=some (.cells ce Te (0,0))) (A:ce.size=ds.length) (hf:W.heap[bf]?=some (.cells cf Tf (0,0))) (B:cf.size=ds.length)
  (b1:w.heap.size<=bp) (b2:w.heap.size+1<=be) (b3:w.heap.size+1<=bf) (n1:bp≠be) (n2:bp≠bf) (n3:be≠bf):z7m w s bp be bf a cap ds W where
 b1:=b1
 b2:=b2
 b3:=b3
 n1:=n1
 n2:=n2
 n3:=n3
 c0:=by simp[World.cell?,hp]
 c1:=by simp[World.cell?,hp]
 c2:=by simp[World.cell?,hp]
 re:=⟨ce,Te,he,A⟩
 rf:=⟨cf,Tf,hf,B⟩
 rb:=rb
 bw:=bw
 nd:=hN.kept (bw.block s hs)
theorem k6b(ds:List Nd)(a:Option Addr)(cap s:Nat)(w:World)(h0:q2x ds=0)(hN:q0z s w a ds)(hs:s<w.heap.size):
  Calls prog 51 #[.slice a ds.length cap] w fun e w'=>(∃be bf,e=.returned (.agg #[.slice a ds.length cap,.slice (some ⟨be,0,none⟩) ds.length ds.length,.slice (some ⟨bf,0,none⟩) ds.length ds.length])/\be<w'.heap.size/\bf<w'.heap.size/\q8n w' be bf ds 0)/\Below w w w':=by
 obtain⟨n,I,Z⟩:=q5l h0
 have o:∀W:World,(Instr.makeSlice 45 (.int .i64 (ds.length:Int)) (.int .i64 (ds.length:Int))).run prog W=.ok (.slice (some ⟨W,0,none⟩) ds.length ds.length) (W.alloc (.cells (madeCells #[.int .i64 0] ds.length) 3)):=fun W=>
  run_make_row' 45 3 _ 8 Tryz.underlying45 j5k rfl .i64 .i64 ds.length (by omega) (by omega) W
 have q:∀W:World,(Instr.makeSlice 96 (.int .i64 (ds.length:Int)) (.int .i64 (ds.length:Int))).run prog W=.ok (.slice (some ⟨W,0,none⟩) ds.length ds.length) (W.alloc (.cells (madeCells #[.bool false] ds.length) 4)):=fun W=>
  run_make_row' 96 4 _ 1 Tryz.underlying96 v2h rfl .i64 .i64 ds.length (by omega) (by omega) W
 have M:Hid (∀x∈ds,q0v x=0):=I;have J:Hid (q1t ds 0 1=some ds.length):=Z;have G:Hid (q0z s w a ds):=hN;clear h0 hN I Z;go_in
 go_upto_region 1 with fail
 go_cut [0,2,3] (fun s0 s2 s3 wx=>s0=.slice a ds.length cap/\s2=.pointer (some ⟨w,0,none⟩)/\∃B be bf,s3=.pointer (some ⟨B,0,none⟩)/\z7m w s B be bf a cap ds wx)
 case first=>
  go_region_held3 (fun _=>True) (trivial) (fail)
  all_goals (go_wp2)
  all_goals
   go_meet
   first
    | exact⟨rfl,rfl,w.heap.size+1+1+1,w.heap.size+1,w.heap.size+1+1,rfl,q8i hs G.o (z1b w _ _ _ _) (q2b w _ _ _ _).1 (q2b w _ _ _ _).2.2.2 (q2b w _ _ _ _).2.1 (q3v _ _) (q2b w _ _ _ _).2.2.1 (q3v _ _) (by omega) (by omega) (by omega) (by omega) (by omega) (by omega)⟩
    | exact⟨rfl,rfl,w.heap.size+1+1,w.heap.size+1,w.heap.size+1+1+1,rfl,q8i hs G.o (z1b w _ _ _ _) (q2b w _ _ _ _).1 (q2b w _ _ _ _).2.2.1 (q2b w _ _ _ _).2.1 (q3v _ _) (q2b w _ _ _ _).2.2.2 (q3v _ _) (by omega) (by omega) (by omega) (by omega) (by omega) (by omega)⟩
    | exact⟨rfl,rfl,w.heap.size+1+1+1,w.heap.size+1+1,w.heap.size+1,rfl,q8i hs G.o (z1b w _ _ _ _) (q2b w _ _ _ _).1 (q2b w _ _ _ _).2.2.2 (q2b w _ _ _ _).2.2.1 (q3v _ _) (q2b w _ _ _ _).2.1 (q3v _ _) (by omega) (by omega) (by omega) (by omega) (by omega) (by omega)⟩
    | exact⟨rfl,rfl,w.heap.size+1,w.heap.size+1+1,w.heap.size+1+1+1,rfl,q8i hs G.o (z1b w _ _ _ _) (q2b w _ _ _ _).1 (q2b w _ _ _ _).2.1 (q2b w _ _ _ _).2.2.1 (q3v _ _) (q2b w _ _ _ _).2.2.2 (q3v _ _) (by omega) (by omega) (by omega) (by omega) (by omega) (by omega)⟩
    | exact⟨rfl,rfl,w.heap.size+1+1,w.heap.size+1+1+1,w.heap.size+1,rfl,q8i hs G.o (z1b w _ _ _ _) (q2b w _ _ _ _).1 (q2b w _ _ _ _).2.2.1 (q2b w _ _ _ _).2.2.2 (q3v _ _) (q2b w _ _ _ _).2.1 (q3v _ _) (by omega) (by omega) (by omega) (by omega) (by omega) (by omega)⟩
    | exact⟨rfl,rfl,w.heap.size+1,w.heap.size+1+1+1,w.heap.size+1+1,rfl,q8i hs G.o (z1b w _ _ _ _) (q2b w _ _ _ _).1 (q2b w _ _ _ _).2.1 (q2b w _ _ _ _).2.2.2 (q3v _ _) (q2b w _ _ _ _).2.2.1 (q3v _ _) (by omega) (by omega) (by omega) (by omega) (by omega) (by omega)⟩
 case rest=>
  obtain⟨rfl,rfl,B,be,bf,rfl,X⟩:=hcut;have h:Hid (z7m w s B be bf a cap ds wc):=X;clear X;go_wp2
  go_loopw [4] (fun i wr=>z7m w s B be bf a cap ds wr/\∃k:Nat,k<=ds.length/\i=.int .i64 ((k:Int)-1)/\q8n wr be bf ds k) (fun i _=>(intOf i+1).toNat)
  case atStart=>exact⟨h.o,ds.length,Nat.le_refl _,by go_num,q8n.end⟩
  case round=>
   obtain⟨d,k,C,rfl,V⟩:=hrel;have A:Hid (z7m w s B be bf a cap ds wr):=d;have K:Hid (q8n wr be bf ds k):=V;clear d V;by_cases Q:k=0
   ·subst Q;have c:¬((0:Int)<=((0:Nat):Int)-1):=by omega
    have c0:=A.o.c0;have c1:=A.o.c1;have c2:=A.o.c2;have E:=A.o.rb;have z:wr.cell? ⟨w,0,none⟩=some (.slice none 0 0):=by simp[World.cell?,E]
    have r1:wr.cell? ⟨w,1,none⟩=some (.slice none 0 0):=by simp[World.cell?,E]
    have r2:wr.cell? ⟨w,2,none⟩=some (.slice none 0 0):=by simp[World.cell?,E]
    have f0:wr.frozen? ⟨w,0,none⟩=false:=by simp[World.frozen?,E]
    have f1:wr.frozen? ⟨w,1,none⟩=false:=by simp[World.frozen?,E]
    have f2:wr.frozen? ⟨w,2,none⟩=false:=by simp[World.frozen?,E]
    clear E;go_wp2;refine bodyPost_ret (v:=.agg #[.slice a ds.length cap,.slice (some ⟨be,0,none⟩) ds.length ds.length,.slice (some ⟨bf,0,none⟩) ds.length ds.length]) (by simp[results,Tryz.results51,go_sem,z,r1,r2]) rfl ?_
    have P:∀v0 v1 v2,Below w wr (((wr.setCell ⟨w,0,none⟩ v0).setCell ⟨w,1,none⟩ v1).setCell ⟨w,2,none⟩ v2):=fun v0 v1 v2=>
     (((Below.refl _ wr).setCell (p:=⟨w,0,none⟩) Zl _).setCell (p:=⟨w,1,none⟩) Zl _).setCell (p:=⟨w,2,none⟩) Zl _
    have r:=A.o.b2;have u:=A.o.b3;have le:=A.o.re.lt;have y:=A.o.rf.lt
    have C:∀v0 v1 v2 k,k≠w.heap.size->(((wr.setCell ⟨w,0,none⟩ v0).setCell ⟨w,1,none⟩ v1).setCell ⟨w,2,none⟩ v2).heap[k]?=wr.heap[k]?:=fun v0 v1 v2 k C=>
     (Below.heap_setCell _ _ _ _ C).trans ((Below.heap_setCell _ _ _ _ C).trans (Below.heap_setCell _ _ _ _ C))
    exact⟨⟨be,bf,rfl,Nat.lt_of_lt_of_le le (P _ _ _).size,Nat.lt_of_lt_of_le y (P _ _ _).size,K.o.kept (C _ _ _ _ (by omega)) (C _ _ _ _ (by omega))⟩,A.o.bw.trans (P _ _ _)⟩
   ·obtain⟨i,rfl⟩:∃i,k=i+1:=⟨k-1,by omega⟩;have H:(((i+1:Nat):Int)-1)=(i:Int):=by omega
    rw[H];obtain⟨j,b,l,m⟩:=j4j J.o (show i<ds.length by omega);obtain⟨t,f,Y,_⟩:=v0e M.o b;have R:Hid (ds.drop i=t.N++ds.drop j):=Y;clear Y b H;go_wp2_with fail;refine(j5x B be bf s cap i ds a t (ds.drop j) _ f R.o n A.o.nd A.o.n1 A.o.n2 A.o.n3 (by have:=A.o.b2;omega) (by have:=A.o.b3;omega) A.o.c0 A.o.c1 A.o.c2 A.o.re A.o.rf K.o).mono ?_;rintro e g⟨rfl,D⟩;obtain⟨y1,S⟩:=A.o.re.cell (show i<ds.length by omega);obtain⟨y2,U⟩:=A.o.rf.cell (show i<ds.length by omega);have O:Hid (z7m w s B be bf a cap ds g):=A.o.put hs D;have L:Hid (q8n g be bf ds i):=K.o.step f R.o A.o.n3 S U D;clear D S U;go_wp2
    go_roundw
    case rel=>exact⟨O.o,i,by omega,by go_num,L.o⟩
    case measure=>simp[intOf]
structure v9z(ds:List Td):Prop where
 l:ds.length<=40
 k:∀x∈ds,q0m x=0
def lvl(op:Int)(sec:Bool):Nat:=if op=5 then(if sec then 1 else 0)else(if sec then 2 else 1)
theorem j0o{ds:List Td}{p:Nat}{y:Td}{k n:Fo}{r:List Td}(h:ds.drop p=(Fo.cons y k n).N++r)(B:(Fo.cons y k n).ok):
  ∃hp:p<ds.length,ds[p]=y/\ds.drop (p+1)=k.N++(n.N++r)/\q3d ds p 1=some (p+1+k.N.length)/\ds.drop (p+1+k.N.length)=n.N++r:=by
 have hp:p<ds.length:=by
  rcases Nat.lt_or_ge p ds.length with C|C
  ·exact C
  ·rw[List.drop_eq_nil_of_le C,Fo.N]at h;cases h
 have A:=h;rw[List.drop_eq_getElem_cons hp,Fo.N,List.cons_append,List.cons.injEq,List.append_assoc]at A;refine⟨hp,A.1,A.2,?_,?_⟩
 ·have e:=j5d k B.2.1 (n.N++r) 0;rw[q7g,Nat.add_zero,B.1,<-A.2]at e;rw[z3p ds p 0 hp,A.1,q3d,Nat.add_zero (kdT y),e];rfl
 ·rw[<-List.drop_drop,A.2,List.drop_left]
theorem k7q{ds:List Td}{a:Option Addr}{cap p:Nat}(hs:v9z ds){q:Nat}(h:q3d ds p 1=some q)(hp:p<ds.length)(W:World)(hN:Tds W a ds):
  Calls prog 24 #[.slice a ds.length cap,.int .i64 (p:Int)] W fun e w'=>e=.returned (.int .i64 (q:Int))/\Below W W w':=by
 have A:=hs.l
 have:=z4l ds a cap (by omega) hs.k (ds.length+1) p W hN (by omega) (by omega)
 rw[h]at this;exact this
abbrev v9q(ds:List Td)(a:Option Addr)(cap i:Nat)(D:Tr)(W:World):Prop:=
 Calls prog 26 #[.slice a ds.length cap,.int .i64 (i:Int)] W fun e w'=>NdR W D.N e w'
theorem y6i{l:Nat}{x:Td}{D:Tr}(h:prc x<l):(inD l x D).N=⟨6,⟨#[]⟩,0⟩::([⟨1,⟨#[40]⟩,0⟩]++(⟨6,⟨#[]⟩,0⟩::(D.N++[⟨1,⟨#[41]⟩,0⟩]))):=by
 rw[inD,if_pos h];rfl
theorem g0h{l:Nat}{x:Td}{D:Tr}(h:¬prc x<l):(inD l x D).N=D.N:=by rw[inD,if_neg h]
theorem z6e{ds:List Td}{a:Option Addr}{cap p i:Nat}(W:World)(hN:Tds W a ds)(hp:p<ds.length)(hi:i<ds.length)(Af:ds[p].op=5\/ds[p].op=6)(G:Bool)(D:Tr)(hz:D.N.length<=10000)(hT:v9q ds a cap i D W):
  Calls prog 59 #[.slice a ds.length cap,.int .i64 (p:Int),.int .i64 (i:Int),.bool G] W fun e w'=>NdR W (inD (lvl ds[p].op G) ds[i] D).N e w':=by
 have HN:Hid (Tds W a ds):=hN;have k:Hid (v9q ds a cap i D W):=hT
 have I:Hid (∀W':World,Calls prog 93 #[tdV ds[p],tdV ds[i],.bool G] W' fun e w'=>e=.returned (.bool (decide (prc ds[i]<lvl ds[p].op G)))/\Below W' W' w'):=fun W'=>by
  have:=j1l ds[p] ds[i] G W'
  rw[y0f _ _ _ Af]at this;exact this
 have Ap:(p:Int)<(ds.length:Int):=by omega
 have Ao:(i:Int)<(ds.length:Int):=by omega
 have Z:Hid (prc ds[i]<lvl ds[p].op G->(inD (lvl ds[p].op G) ds[i] D).N=⟨6,⟨#[]⟩,0⟩::([⟨1,⟨#[40]⟩,0⟩]++(⟨6,⟨#[]⟩,0⟩::(D.N++[⟨1,⟨#[41]⟩,0⟩])))):=y6i;have J:Hid (¬prc ds[i]<lvl ds[p].op G->(inD (lvl ds[p].op G) ds[i] D).N=D.N):=g0h
 have j:Hid (∀W',Below W W W'->∃b o,a=some ⟨b,o,none⟩/\b<W'.heap.size/\(W'.cell? ⟨b,o+p*3,none⟩=some (.int .i64 ds[p].op)/\W'.cell? ⟨b,o+p*3+1,none⟩=some (.string ds[p].tx)/\W'.cell? ⟨b,o+p*3+2,none⟩=some (.int .i64 ds[p].n))/\(W'.cell? ⟨b,o+i*3,none⟩=some (.int .i64 ds[i].op)/\W'.cell? ⟨b,o+i*3+1,none⟩=some (.string ds[i].tx)/\W'.cell? ⟨b,o+i*3+2,none⟩=some (.int .i64 ds[i].n))):=fun W' O=>by
  obtain⟨A,op,e1,Al,U,V,X⟩:=(HN.o.W O) p hp;obtain⟨bi,oi,e2,An,P,Q,S⟩:=(HN.o.W O) i hi;rw[e1]at e2;simp only[Option.some.injEq,Addr.mk.injEq,and_true]at e2;obtain⟨rfl,rfl⟩:=e2;exact⟨A,op,e1,Al,⟨U,V,X⟩,⟨P,Q,S⟩⟩
 generalize(inD (lvl ds[p].op G) ds[i] D).N=R at Z J⊢
 generalize Am:lvl ds[p].op G=l at Z J I;unfold v9q at k;generalize D.N=xs at Z J k hz;clear hN hT Af Am HN;generalize ds[p]=xp at j I;generalize ds[i]=xi at j I Z J;generalize prc xi=pr at Z J I;obtain⟨s,t,r⟩:=xp;obtain⟨m,q,K⟩:=xi;by_cases O:pr<l
 ·have HR:=(show Hid (_=_)from Z.o O);have c:Hid (decide (pr<l)=true):=decide_eq_true O;clear O Z J;go_in;go_wp2_with fail;refine k.o.mono ?_;rintro e C H;obtain⟨f,rfl,M,d⟩:=H.val;have Ab:Hid (NdV C f xs):=M;obtain⟨A,op,rfl,E,⟨U,V,X⟩,P,Q,S⟩:=j.o C d;have L:Hid (Calls prog 93 #[tdV ⟨s,t,r⟩,tdV ⟨m,q,K⟩,.bool G] C.drew fun e w'=>e=.returned (.bool (decide (pr<l)))/\Below C C w'):=(I.o C.drew).mono fun _ _ h=>⟨h.1,(Below.refl C.heap.size C).drew.trans h.2⟩
  have d1:C.drew.cell? ⟨A,op+p*3,none⟩=some (.int .i64 s):=U;have d2:C.drew.cell? ⟨A,op+p*3+1,none⟩=some (.string t):=V;have d3:C.drew.cell? ⟨A,op+p*3+2,none⟩=some (.int .i64 r):=X;have d4:C.drew.cell? ⟨A,op+i*3,none⟩=some (.int .i64 m):=P;have d5:C.drew.cell? ⟨A,op+i*3+1,none⟩=some (.string q):=Q;have d6:C.drew.cell? ⟨A,op+i*3+2,none⟩=some (.int .i64 K):=S;have Y:=hid d;clear j I k d M H;go_wp2_with fail
  go_region_held3 (fun w'=>w'.cell? ⟨A,op+p*3,none⟩=some (.int .i64 s)/\w'.cell? ⟨A,op+p*3+1,none⟩=some (.string t)/\w'.cell? ⟨A,op+p*3+2,none⟩=some (.int .i64 r)/\w'.cell? ⟨A,op+i*3,none⟩=some (.int .i64 m)/\w'.cell? ⟨A,op+i*3+1,none⟩=some (.string q)/\w'.cell? ⟨A,op+i*3+2,none⟩=some (.int .i64 K))
   (first|with_reducible exact⟨d1,d2,d3,d4,d5,d6⟩|with_reducible exact⟨U,V,X,P,Q,S⟩|with_reducible exact⟨(B.cell (p:=⟨A,_,none⟩) E).trans U,(B.cell (p:=⟨A,_,none⟩) E).trans V,(B.cell (p:=⟨A,_,none⟩) E).trans X,(B.cell (p:=⟨A,_,none⟩) E).trans P,(B.cell (p:=⟨A,_,none⟩) E).trans Q,(B.cell (p:=⟨A,_,none⟩) E).trans S⟩)
   ((go_at_call 93;refine L.o.mono ?_;rintro e w2⟨rfl,B⟩;rw[c.o]))
  all_goals
   have Ac:Hid (NdV w2 f xs):=Ab.o.W B;have u:Hid (Below W W w2):=q0d Y.o Zl B;clear B;go_wp2_with fail;refine(q1f _ _).mono ?_;rintro e w3 h3;obtain⟨v3,rfl,n3,b3⟩:=h3.val;have v:Hid (Below W W w3):=q0d u.o Zl b3;have Ad:Hid (NdV w3 v3 [⟨1,⟨#[40]⟩,0⟩]):=n3;have x:Hid (NdV w3 f xs):=Ac.o.W b3;clear h3 n3 b3 u Ac;go_wp2_with fail;refine(q1f _ _).mono ?_;rintro e w4 h4;obtain⟨v4,rfl,n4,b4⟩:=h4.val;have w:Hid (Below W W w4):=q0d v.o Zl b4;have Ae:Hid (NdV w4 v4 [⟨1,⟨#[41]⟩,0⟩]):=n4;have y:Hid (NdV w4 f xs):=x.o.W b4;have z:Hid (NdV w4 v3 [⟨1,⟨#[40]⟩,0⟩]):=Ad.o.W b4;clear h4 n4 b4 v Ad x;go_wp2_with fail;refine(q0u _ y.o Ae.o (by simp;omega)).mono ?_;rintro e w5 h5;obtain⟨v5,rfl,n5,b5⟩:=h5.val;have Ag:Hid (Below W W w5):=q0d w.o Zl b5;have Ak:Hid (NdV w5 v5 (⟨6,⟨#[]⟩,0⟩::(xs++[⟨1,⟨#[41]⟩,0⟩]))):=n5;have Ah:Hid (NdV w5 v3 [⟨1,⟨#[40]⟩,0⟩]):=z.o.W b5;clear h5 n5 b5 w Ae y z;go_wp2_with fail;refine(q0u _ Ah.o Ak.o (by simp;omega)).mono ?_;rintro e w6 h6
   have Ai:Hid (NdR W R e w6):=by
    show NdR W R e w6;rw[HR.o];exact h6.from Ag.o
   obtain⟨v6,rfl,_,_⟩:=h6.val;clear h6;go_wp2;go_ret;exact Ai.o
 ·have HR:=(show Hid (_=_)from J.o O);have c:Hid (decide (pr<l)=false):=decide_eq_false O;clear O Z J;go_in;go_wp2_with fail;refine k.o.mono ?_;rintro e C H;have Aa:Hid (NdR W xs e C):=H;obtain⟨f,rfl,M,d⟩:=H.val;have Ab:Hid (NdV C f xs):=M;obtain⟨A,op,rfl,E,⟨U,V,X⟩,P,Q,S⟩:=j.o C d;have L:Hid (Calls prog 93 #[tdV ⟨s,t,r⟩,tdV ⟨m,q,K⟩,.bool G] C.drew fun e w'=>e=.returned (.bool (decide (pr<l)))/\Below C C w'):=(I.o C.drew).mono fun _ _ h=>⟨h.1,(Below.refl C.heap.size C).drew.trans h.2⟩
  have d1:C.drew.cell? ⟨A,op+p*3,none⟩=some (.int .i64 s):=U;have d2:C.drew.cell? ⟨A,op+p*3+1,none⟩=some (.string t):=V;have d3:C.drew.cell? ⟨A,op+p*3+2,none⟩=some (.int .i64 r):=X;have d4:C.drew.cell? ⟨A,op+i*3,none⟩=some (.int .i64 m):=P;have d5:C.drew.cell? ⟨A,op+i*3+1,none⟩=some (.string q):=Q;have d6:C.drew.cell? ⟨A,op+i*3+2,none⟩=some (.int .i64 K):=S;have Y:=hid d;clear j I k d M H;go_wp2_with fail
  go_region_held3 (fun w'=>w'.cell? ⟨A,op+p*3,none⟩=some (.int .i64 s)/\w'.cell? ⟨A,op+p*3+1,none⟩=some (.string t)/\w'.cell? ⟨A,op+p*3+2,none⟩=some (.int .i64 r)/\w'.cell? ⟨A,op+i*3,none⟩=some (.int .i64 m)/\w'.cell? ⟨A,op+i*3+1,none⟩=some (.string q)/\w'.cell? ⟨A,op+i*3+2,none⟩=some (.int .i64 K))
   (first|with_reducible exact⟨d1,d2,d3,d4,d5,d6⟩|with_reducible exact⟨U,V,X,P,Q,S⟩|with_reducible exact⟨(B.cell (p:=⟨A,_,none⟩) E).trans U,(B.cell (p:=⟨A,_,none⟩) E).trans V,(B.cell (p:=⟨A,_,none⟩) E).trans X,(B.cell (p:=⟨A,_,none⟩) E).trans P,(B.cell (p:=⟨A,_,none⟩) E).trans Q,(B.cell (p:=⟨A,_,none⟩) E).trans S⟩)
   ((go_at_call 93;refine L.o.mono ?_;rintro e w2⟨rfl,B⟩;rw[c.o]))
  all_goals
   obtain⟨A9,c9,e9,o9,b9⟩:=Aa.o;have Aj:Hid (NdR W R (.returned f) w2):=⟨A9,c9,by rw[HR.o];exact e9,by rw[HR.o];exact o9.kept fun g _ h=>B.block g h,q0d b9 Zl B⟩;clear B o9 b9;go_wp2;go_ret;exact Aj.o
theorem y2t(tx:ByteArray)(n:Int)(A C:List Nd)(tA tC:List UInt8)(kA kC:Bool)(hA:k0i A tA kA)(hC:k0i C tC kC)(Ae:tA.length<=20*A.length):k0i (⟨6,tx,n⟩::(A++C)) (tA++tC) (kA||kC):=by
 intro B b s ds H a j l k w hd S P Q hc hW K hl;generalize U:(A++C)++H=r;have d:Hid ((A++C)++H=r):=U;have g:Hid (r.length=((A++C):List Nd).length+H.length):=(show _=_ by rw[<-U,List.length_append]);obtain rfl:ds=⟨6,tx,n⟩::r:=by rw[hd,<-U];rfl
 clear hd U;obtain⟨o0,ea,c1,c2,c3⟩:=S 0 (by simp);subst ea;simp only[List.length_cons]at hc hl⊢;have c:Hid (q0z s w (some ⟨s,o0+3,none⟩) r):=S.rest
 have I:Hid (j=1->q0z s w (some ⟨s,o0,none⟩) r):=fun h=>by
  have h1:=S.slid hc;rw[if_pos h]at h1;exact h1
 have HW:Hid (Ln B b l k w):=hW;simp only[Nat.zero_mul,Nat.add_zero,List.getElem_cons_zero]at c1 c2 c3;have Ac:s<w.heap.size:=by omega
 have Ad:(1:Int)<=(r.length:Int)+1:=by omega
 have R:Hid (∀O:Obj,q0p B b w (w.alloc O).drew):=fun O=>q0p.drew ((q0p.refl B b w).alloc K O)
 have HK:Hid (∀O:Obj,Lib.OthersKept 5 (some b) w (w.alloc O).drew):=fun O=>((Lib.OthersKept.refl _ _ w).alloc O).drew
 have D:Hid (s<B/\s≠b):=⟨P,Q⟩;clear S hW P Q;go_in
 go_upto_region 1 with fail
 go_cut [0,1,5,6] (fun t _ p q wx=>k4a B b s w.heap.size ⟨6,tx,n⟩ r l k w t p q wx)
 case first=>
  go_region
  all_goals (go_wp2_with fail)
  all_goals
   go_meet
   refine⟨rfl,rfl,⟨_,_,rfl,?_,by omega⟩,by simp[go_sem],by simp[go_sem],by simp[go_sem],IsX.drew (IsX.alloc HW.o _),R.o _,HK.o _⟩
   first
    | exact c.o.kept ((R.o _).block s D.o.1 D.o.2)
    | exact(I.o (by assumption)).kept ((R.o _).block s D.o.1 D.o.2)
    | exact(I.o rfl).kept ((R.o _).block s D.o.1 D.o.2)
 case rest=>
  obtain⟨rfl,rfl,⟨a',z,rfl,hn,o⟩,e1,e2,e3,hw,E,N⟩:=hcut;dsimp only at e1 e2 e3;have Z:Hid (q0z s wc a' r):=hn;have i:Hid (Ln B b l k wc):=hw;have W:Hid (q0p B b w wc):=E;have X:Hid (Lib.OthersKept 5 (some b) w wc):=N;have J:B<=wc.heap.size:=Nat.le_trans K E.size;clear hn hw E N;rw[List.append_assoc]at d;generalize G:C++H=rc at d;have f:Hid (C++H=rc):=G;have Y:Hid (rc.length=C.length+H.length):=(show _=_ by rw[<-G,List.length_append]);have V:Hid ((A++C).length=A.length+C.length):=(show _=_ from List.length_append);clear G;have HA:Hid (k0i A tA kA):=hA;have HC:Hid (k0i C tC kC):=hC;clear hA hC;go_wp2_with fail;refine(HA.o B b s r rc _ _ l k _ d.o.symm Z.o D.o.1 D.o.2 o i.o J (by omega)).mono ?_;rintro e w3⟨⟨a3,Aa,rfl,n3,u⟩,h3,M,x⟩;have L:B<=w3.heap.size:=Nat.le_trans J M.size;go_wp2_with fail;refine(HC.o B b s rc H _ _ _ _ _ f.o.symm n3 D.o.1 D.o.2 u h3 L (by have q1:=g.o;have q2:=Y.o;have q3:=V.o;simp;omega)).mono ?_;rintro e w4⟨⟨a4,Ab,rfl,n4,v⟩,h4,m,y⟩;go_wp2;go_ret;rw[<-Bool.or_assoc,<-List.append_assoc];exact⟨⟨_,_,rfl,n4,v⟩,h4,W.o.trans (M.trans m),X.o.trans (x.trans y)⟩
def Tr.laid:Tr->List UInt8
 | .leaf x=>if x.op=1 then x.tx.data.toList else if x.op=2 then [32]else []
 | .one _ a=>a.laid
 | .two x a b=>if x.op=6 then a.laid++b.laid else a.laid
def Tr.brk:Tr->Bool
 | .leaf x=>decide (x.op=4)
 | .one _ a=>a.brk
 | .two x a b=>if x.op=6 then a.brk||b.brk else a.brk
theorem q7i:∀t:Tr,t.flat=(if t.brk=true then none else some t.laid)
 | .leaf x=>by
  simp only[Tr.flat,Tr.brk,Tr.laid];by_cases h1:x.op=1
  ·simp[h1]
  ·by_cases h2:x.op=2
   ·simp[h2]
   ·by_cases h4:x.op=4
    ·simp[h4]
    ·simp[h1,h2,h4]
 | .one _ a=>q7i a
 | .two x a b=>by
  have h1:=q7i a;have h2:=q7i b;simp only[Tr.flat,Tr.brk,Tr.laid]
  split
  ·rw[h1,h2];cases a.brk<;>cases b.brk<;>simp
  ·exact h1
theorem z8r:∀t:Tr,t.Wf->t.laid.length<=20*t.N.length
 | .leaf x,h=>by
  obtain⟨_,_,_,_,h5,_⟩:=q2a h.1;simp only[Tr.laid,Tr.N]
  split
  ·rename_i h1
   have:=q4d (h5 h1)
   have e:=q1a x.tx;simp only[List.length_cons,List.length_nil];omega
  ·split<;>simp
 | .one x a,h=>by
  have:=z8r a h.2.2
  simp only[Tr.laid,Tr.N,List.length_cons];omega
 | .two x a b,h=>by
  have h1:=z8r a h.2.2.1;have h2:=z8r b h.2.2.2;simp only[Tr.laid,Tr.N,List.length_cons,List.length_append]
  split
  ·rw[List.length_append];omega
  ·omega
theorem j5s{t:Tr}(h:t.brk=false):t.isFlat=true/\t.line=⟨t.laid.toArray⟩:=by
 have:=q7i t
 rw[h]at this;constructor
 ·rw[Tr.isFlat,this];rfl
 ·rw[Tr.line,this];rfl
theorem j5t{t:Tr}(h:t.brk=true):t.isFlat=false/\t.line=⟨#[]⟩:=by
 have:=q7i t
 rw[h]at this;constructor
 ·rw[Tr.isFlat,this];rfl
 ·rw[Tr.line,this];rfl
theorem q4l:∀t:Tr,t.Wf->k0i t.N t.laid t.brk
 | .leaf ⟨op,tx,n⟩,h=>by
  obtain⟨_,_,_,_,h5,_⟩:=q2a h.1;rcases q5d h.1 h.2 with e|e|e|e|e
  all_goals (simp only at e;subst e)
  ·exact y2q tx n (q4d (h5 rfl)).2
  ·exact y2r tx n
  ·exact k8f 0 (.inl ⟨rfl,rfl⟩) tx n
  ·exact y2s tx n
  ·exact k8f 1 (.inr ⟨rfl,rfl⟩) tx n
 | .one ⟨op,tx,n⟩ a,h=>by
  rcases z2f h.2.1 with e|e
  all_goals (simp only at e;subst e)
  ·exact k8g 0 (.inl ⟨rfl,rfl⟩) tx n _ _ _ (q4l a h.2.2)
  ·exact k8g 1 (.inr ⟨rfl,rfl⟩) tx n _ _ _ (q4l a h.2.2)
 | .two ⟨op,tx,n⟩ a c,h=>by
  rcases z0s h.2.1 with e|e
  all_goals (simp only at e;subst e)
  ·exact y2t tx n _ _ _ _ _ _ (q4l a h.2.2.1) (q4l c h.2.2.2) (z8r a h.2.2.1)
  ·exact y2u tx n _ _ _ _ _ _ (q4l a h.2.2.1) (q4l c h.2.2.2)
end Go.Proofs.YtfdppahhbpfnoaaGreatDoor
