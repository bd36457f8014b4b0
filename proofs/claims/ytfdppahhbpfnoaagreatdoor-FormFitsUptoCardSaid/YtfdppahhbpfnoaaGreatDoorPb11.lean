import Derived.Test.YtfdppahhbpfnoaaGreatDoorPb08
import Derived.Test.YtfdppahhbpfnoaaGreatDoorPb04
import Derived.Deep.CutBlock
import Derived.Lib.AppendZerosOnto
import Derived.Lib.SliceRun
open Go.Proofs.Tryz
namespace Go.Proofs.YtfdppahhbpfnoaaGreatDoor
open Go Go.RowKit
structure q3y(s:ByteArray)(w:World)(i:Nat)(dn:List (Nat × List UInt8))(A P:Option Addr)(ac pc:Nat)(wr:World):Prop where
 b:Below w w wr
 le:i<=s.size
 ln:dn.length<=i
 eq:lx (btL s) 0=(dn++lxW ((btL s).drop i) i,lxF ((btL s).drop i) i)
 ws:wr.ownsRow w.heap.size 9 1 (.slice A dn.length ac) dn.length (strCells (dn.map fun x=>wbS x.2))
 ps:wr.ownsRow w.heap.size 3 1 (.slice P dn.length pc) dn.length (q2c (dn.map (·.1)))
theorem q3y.space{s:ByteArray}{w:World}{i:Nat}{dn:List (Nat × List UInt8)}{A P:Option Addr}{ac pc:Nat}{wr:World}(h:q3y s w i dn A P ac pc wr)(hi:i<s.size)(hs:spB s[i]=true):q3y s w (i+1) dn A P ac pc wr:=by
 have e:=h.eq;rw[q1j hi,lxW,lxF,k5w _ _ hs]at e;exact{b:=h.b,le:=hi,ln:=by have:=h.ln;omega,eq:=e,ws:=h.ws,ps:=h.ps}
theorem j6c{s:ByteArray}{w:World}{i:Nat}{dn:List (Nat × List UInt8)}{A P:Option Addr}{ac pc:Nat}{wr:World}(h:q3y s w i dn A P ac pc wr)(hi:i<s.size)(hs:spB s[i]=false)(ho:tOk s i=false):lxF (btL s) 0=some i:=by
 have e:=h.eq;rw[tOk,q1j hi]at ho;rw[q1j hi,lxW,lxF,k8i _ hs ho]at e;rw[lxF,e]
theorem q3y.word{s:ByteArray}{w:World}{i:Nat}{dn:List (Nat × List UInt8)}{A P:Option Addr}{ac pc:Nat}{wr:World}(h:q3y s w i dn A P ac pc wr)(hi:i<s.size)(hs:spB s[i]=false)(ho:tOk s i=true){A' P':Option Addr}{B C:Nat}{w':World}(hb:Below w w w')
  (h1:w'.ownsRow w.heap.size 9 1 (.slice A' (dn.length+1) B) (dn.length+1) (strCells (dn.map fun x=>wbS x.2)++[.string (wbS (tkW ((btL s).drop i)))])) (h2:w'.ownsRow w.heap.size 3 1 (.slice P' (dn.length+1) C) (dn.length+1) (q2c (dn.map (·.1))++[.int .i64 (i:Int)])):
  q3y s w (i+j9v s i) (dn++[(i,tkW ((btL s).drop i))]) A' P' B C w':=by
 have e:=h.eq;have D:=g2c hi;have H:((btL s).drop i).drop (j9v s i)=(btL s).drop (i+j9v s i):=by rw[List.drop_drop]
 have E:q5b (s[i]::(btL s).drop (i+1))=true:=by rw[<-q1j hi];exact ho
 have G:lx ((btL s).drop i) i=((i,tkW ((btL s).drop i))::lxW ((btL s).drop (i+j9v s i)) (i+j9v s i),lxF ((btL s).drop (i+j9v s i)) (i+j9v s i)):=by
  rw[<-H,j9v,q1j hi];exact z6l i hs E
 rw[lxW,lxF,G]at e;refine{b:=hb,le:=D.2,ln:=by have:=h.ln;simp;omega,eq:=by rw[e];simp,ws:=?_,ps:=?_}
 ·rw[List.length_append,List.map_append,q2h];exact h1
 ·rw[List.length_append,List.map_append,z2d];exact h2
theorem v4a{L:List UInt8}{k:Nat}(h:L.length<=60000)(hf:lxF L 0=some k):q7a L=5/\k2a L=k:=by
 have e:q7a L=5:=by rw[q7a,if_neg (by omega),hf];rfl
 exact⟨e,by rw[k2a,if_pos e,hf];rfl⟩
theorem j6a{L:List UInt8}(h:L.length<=60000)(hf:lxF L 0=none)(hm:300<many (q2p L)):q7a L=3/\k2a L=0:=by
 have e:q7a L=3:=by rw[q7a,if_neg (by omega),hf,if_neg (by simp),if_pos hm]
 exact⟨e,by rw[k2a,e];rfl⟩
theorem j6b{L:List UInt8}(h:L.length<=60000)(hf:lxF L 0=none)(hm:¬300<many (q2p L)):q7a L=0/\k2a L=0:=by
 have e:q7a L=0:=by rw[q7a,if_neg (by omega),hf,if_neg (by simp),if_neg hm]
 exact⟨e,by rw[k2a,e];rfl⟩
theorem j5z{L:List UInt8}(h:60000<L.length):q7a L=3/\k2a L=0:=by
 have e:q7a L=3:=by rw[q7a,if_pos h]
 exact⟨e,by rw[k2a,e];rfl⟩
theorem j6d{s:ByteArray}{w:World}{i:Nat}{dn:List (Nat × List UInt8)}{A P:Option Addr}{ac pc:Nat}{wr:World}(h:q3y s w i dn A P ac pc wr)(hi:¬i<s.size):lxF (btL s) 0=none/\lxW (btL s) 0=dn:=by
 have e:=h.eq;rw[List.drop_eq_nil_of_le (by rw[q0c];omega),lxW,lxF,z2c,List.append_nil]at e;rw[lxF,lxW,e];exact⟨rfl,rfl⟩
theorem v4n{s:ByteArray}{k:Nat}(h:k<s.size)(hs:spB s[k]=false):many [tkW ((btL s).drop k)]=if s[k] != 35 then 1 else 0:=by
 have C:∃z,tkW ((btL s).drop k)=s[k]::z:=by
  rw[tkW,q1j h];have E:=q4p s[k] ((btL s).drop (k+1));obtain⟨m,D⟩:∃m,q0r (s[k]::(btL s).drop (k+1))=m+1:=⟨_,(Nat.sub_add_cancel E).symm⟩;rw[D,List.take_succ_cons];exact z1y (j1q hs) _
 obtain⟨z,G⟩:=C;rw[G];have B:z2p (s[k]::z)=(s[k] != 35):=rfl;cases A:(s[k] != 35)with
 | true=>rw[many,List.filter_cons_of_pos (by rw[B];exact A)];rfl
 | false=>rw[many,List.filter_cons_of_neg (by rw[B,A];decide)];rfl
set_option maxRecDepth 100000
def q0y(ds:List Td):List Value:=ds.flatMap fun x=>[.int .i64 x.op,.string x.tx,.int .i64 x.n]
theorem q6r:∀ds:List Td,(q0y ds).length=ds.length*3
 | []=>rfl
 | x::r=>by
  have:=q6r r
  unfold q0y at this⊢;rw[List.flatMap_cons,List.length_append,this,List.length_cons];simp;omega
theorem z4r(a b:List Td):q0y (a++b)=q0y a++q0y b:=by simp[q0y,List.flatMap_append]
theorem z1v:∀(ds:List Td)(i:Nat)(h:i<ds.length),(q0y ds)[i*3]?=some (.int .i64 ds[i].op)/\(q0y ds)[i*3+1]?=some (.string ds[i].tx)/\(q0y ds)[i*3+2]?=some (.int .i64 ds[i].n)
 | x::r,0,_=>by simp[q0y]
 | x::r,i+1,h=>by
  have h1:=z1v r i (by simpa using h);have e:q0y (x::r)=.int .i64 x.op::.string x.tx::.int .i64 x.n::q0y r:=by simp[q0y]
  rw[e,show(i+1)*3=i*3+1+1+1 by omega];exact h1
theorem z4s(ds:List Td):∀u∈q0y ds,u.oneCell'=true:=by
 intro u B;obtain⟨x,_,A⟩:=List.mem_flatMap.1 B;simp at A;rcases A with rfl|rfl|rfl<;>rfl
theorem k6p(ds:List Td)(j:Nat)(u:Value)(h:(q0y ds)[j]?=some u):∃i,∃hi:i<ds.length,(j=i*3/\u=.int .i64 ds[i].op)\/(j=i*3+1/\u=.string ds[i].tx)\/(j=i*3+2/\u=.int .i64 ds[i].n):=by
 have E:j<ds.length*3:=by rw[<-q6r];exact(List.getElem?_eq_some_iff.1 h).1
 have hi:j / 3<ds.length:=by omega
 obtain⟨A,B,C⟩:=z1v ds (j / 3) hi;refine⟨j / 3,hi,?_⟩;have D:j=j / 3*3\/j=j / 3*3+1\/j=j / 3*3+2:=by omega
 rcases D with e|e|e
 ·rw[<-e,h]at A;exact .inl ⟨e,Option.some.inj A⟩
 ·rw[<-e,h]at B;exact .inr (.inl ⟨e,Option.some.inj B⟩)
 ·rw[<-e,h]at C;exact .inr (.inr ⟨e,Option.some.inj C⟩)
theorem v0a:(prog.info? 47).map (fun i=>(i.zero,i.size,i.bytes))=some (some (.agg #[.int .i64 0,.string ⟨#[]⟩,.int .i64 0]),3,32):=by kernel_rfl
theorem k6j{B:Nat}{w:World}{a:Option Addr}{n cap:Nat}{ds:List Td}(h:w.ownsRow B 47 3 (.slice a n cap) ds.length (q0y ds)):n=ds.length/\ds.length<=cap/\Tds w a ds:=by
 rcases h.2 with⟨D,H⟩|⟨g,c,M,D,_,L,K,_,P,C⟩
 ·simp only[Value.slice.injEq]at D;obtain⟨rfl,rfl,rfl⟩:=D;refine⟨H.symm,by omega,fun i hi=>?_⟩;omega
 ·simp only[Value.slice.injEq]at D;obtain⟨rfl,rfl,rfl⟩:=D;refine⟨rfl,K,fun i hi=>?_⟩
  have J:g<w.heap.size:=by
   rcases Nat.lt_or_ge g w.heap.size with G|G
   ·exact G
   ·simp[Array.getElem?_eq_none G]at L
  have A:∀k u,(q0y ds)[k]?=some u->w.cell? ⟨g,k,none⟩=some u:=by
   intro k u E;rw[<-C]at E
   have I:k<ds.length*3:=by
    have:=(List.getElem?_eq_some_iff.1 E).1
    simp at this;omega
   rw[List.getElem?_take_of_lt I]at E;simp only[World.cell?,L];simpa using E
  obtain⟨H,N,O⟩:=z1v ds i hi;refine⟨g,0,rfl,J,?_,?_,?_⟩
  ·rw[Nat.zero_add];exact A _ _ H
  ·rw[Nat.zero_add];exact A _ _ N
  ·rw[Nat.zero_add];exact A _ _ O
theorem k9h{w:World}{b o:Nat}{ds:List Td}(h:Tds w (some ⟨b,o,none⟩) ds):∀j u,(q0y ds)[j]?=some u->w.cell? ((⟨b,o,none⟩:Addr).add j)=some u:=by
 intro j u H;obtain⟨i,G,E⟩:=k6p ds j u H;obtain⟨I,J,e,_,A,B,C⟩:=h i G;simp only[Option.some.injEq,Addr.mk.injEq,and_true]at e;obtain⟨rfl,rfl⟩:=e
 have D:∀k,(⟨b,o,none⟩:Addr).add k=⟨b,o+k,none⟩:=by
  intro k;unfold Addr.add
  split
  ·rename_i h;subst h;rfl
  ·rfl
 rw[D];rcases E with⟨rfl,rfl⟩|⟨rfl,rfl⟩|⟨rfl,rfl⟩
 ·exact A
 ·rw[show o+(i*3+1)=o+i*3+1 by omega];exact B
 ·rw[show o+(i*3+2)=o+i*3+2 by omega];exact C
def q1s(B:Nat)(v:Value)(xs:List Td)(w:World):Prop:=w.ownsRow B 47 3 v xs.length (q0y xs)
theorem q1s.tds{B:Nat}{w:World}{A:Option Addr}{n c:Nat}{xs:List Td}(h:q1s B (.slice A n c) xs w):Tds w A xs:=(k6j h).2.2
theorem q1s.none{B:Nat}{w:World}{A:Option Addr}{n c:Nat}{xs:List Td}(h:q1s B (.slice A n c) xs w):n=xs.length/\(A=none->n=0/\c=0):=by
 rcases h.2 with⟨C,E⟩|⟨g,G,D,C,_⟩
 ·simp only[Value.slice.injEq]at C;obtain⟨rfl,rfl,rfl⟩:=C;exact⟨E.symm,fun _=>⟨rfl,rfl⟩⟩
 ·simp only[Value.slice.injEq]at C;obtain⟨rfl,rfl,rfl⟩:=C;exact⟨rfl,fun e=>by cases e⟩
theorem k4c{w:World}{E:Array Oper}{rest:List Oper}{o:Oper}{a:Act}{Q:Exit->Act->World->Prop}(I:o.guard=none)(s x:Operand)
  (ho:o.op=.call {callee:=.builtin .append,args:=#[s,x],argTypes:=#[22,22]})
  (base:Nat) (v:Value) (xs:List Td) (hs:a.eval s=v) (B:q1s base v xs w)
  (wa:Option Addr) (n:Nat) (ws:List Td) (hn:ws.length=n) (wc:Nat) (hx:a.eval x=.slice wa n wc) (hW:Tds w wa ws) (J:wa=none->n=0/\wc=0)
  (m:Nat) (hm:xs.length+n=m) (hb:m<=1000000) (D:base<=w.heap.size)
  (h:∀A c w',q1s base (.slice A m c) (xs++ws) w'->w.grownBy w' v.ownBlock->wpList prog E Q rest (a.put o.dst (.slice A m c)) w'):wpList prog E Q (o::rest) a w:=by
 subst hn hm;obtain⟨U,S,N,O,P⟩:=info_parts v0a
 have R:∀G w',q1s base G (xs++ws) w'->w.grownBy w' v.ownBlock->wpList prog E Q rest (a.put o.dst G) w':=by
  intro G w' H L
  obtain⟨A,c,rfl⟩:∃A c,G=.slice A (xs.length+ws.length) c:=by
   rcases H.2 with⟨K,C⟩|⟨g,c,V,K,_⟩
   ·rw[List.length_append]at C;exact⟨.none,0,by rw[K,C]⟩
   ·rw[List.length_append]at K;exact⟨_,c,K⟩
  exact h A c w' H L
 cases wa with
 | none=>
  obtain⟨C,rfl⟩:=J rfl;obtain rfl:ws=[]:=List.eq_nil_of_length_eq_zero C;refine wpList_append_own_none I s x 22 ho base 47 U 3 Tryz.underlying22 S v xs.length (q0y xs) hs B hx ?_;refine R v w ?_ ⟨rfl,rfl,rfl,Nat.le_refl _,fun _ _ _=>rfl⟩;rw[List.append_nil];exact B
 | some ad=>
  have M:ws=[]\/∃b o,ad=⟨b,o,Option.none⟩:=by
   rcases Nat.eq_zero_or_pos ws.length with C|C
   ·exact .inl (List.eq_nil_of_length_eq_zero C)
   ·obtain⟨b,o,e,_⟩:=hW 0 C;exact .inr ⟨b,o,by simpa using e⟩
  refine wpList_append_own w I s x 22 ho base 47 U _ 3 32 Tryz.underlying22 S N O P rfl (by decide) v xs.length (q0y xs) hs B ad ws.length wc (q0y ws) hx (q6r ws) ?_ (z4s ws) (by unfold maxLen;omega) (by omega) D ?_
  ·rcases M with rfl|⟨b,o,rfl⟩
   ·intro j u W;simp[q0y]at W
   ·exact k9h hW
  ·intro G w' H L _;rw[<-z4r]at H;refine R G w' ?_ L;show w'.ownsRow _ _ _ _ _ _;rw[List.length_append];exact H
theorem q1s.down{B B':Nat}{v:Value}{xs:List Td}{w:World}(h:q1s B v xs w)(hB:B'<=B):q1s B' v xs w:=by
 refine⟨h.1,?_⟩;rcases h.2 with D|⟨g,c,C,E,G,A⟩
 ·exact .inl D
 ·exact .inr ⟨g,c,C,E,by omega,A⟩
theorem q1s.kept{B:Nat}{v:Value}{xs:List Td}{w w':World}(h:q1s B v xs w)(hk:∀g,B<=g->g<w.heap.size->w'.heap[g]?=w.heap[g]?):q1s B v xs w':=by
 refine⟨h.1,?_⟩;rcases h.2 with G|⟨g,c,C,H,D,E,A⟩
 ·exact .inl G
 ·exact .inr ⟨g,c,C,H,D,(hk g D (Array.getElem?_eq_some_iff.1 E).1).trans E,A⟩
theorem q1s.one(w:World)(x:Td):q1s w (.slice (some ⟨w.heap.size,0,Option.none⟩) 1 1) [x] (w.alloc (.cells #[.int .i64 x.op,.string x.tx,.int .i64 x.n] 47)):=by
 have A:(w.alloc (.cells #[.int .i64 x.op,.string x.tx,.int .i64 x.n] 47)).heap[w.heap.size]?=some (.cells #[.int .i64 x.op,.string x.tx,.int .i64 x.n] 47 (0,0)):=by
  show(w.heap.push _)[w.heap.size]?=_
  simp
 exact⟨rfl,.inr ⟨w.heap.size,1,_,rfl,Nat.le_refl _,A,Nat.le_refl _,by unfold maxLen;decide,rfl,rfl⟩⟩
set_option maxHeartbeats 4000000
theorem v1l(n:Nat)(h1:0<n)(hn:n<=1000000)(w:World):
  Calls prog 226 #[.slice none 0 0,.int .i64 (n:Int)] w fun e w'=>∃c,e=.returned (.slice (some ⟨w,0,none⟩) 0 c)/\q1s w (.slice (some ⟨w,0,none⟩) 0 c) [] w'/\Below w w w':=by
 obtain⟨J,M,E,I,C⟩:=info_parts v0a
 have B:∀ty,(Builtin.append_ #[22,3] ty #[.slice none 0 0,.int .i64 (n:Int)]).run prog w=
   .ok (.slice (some ⟨w,0,none⟩) n (grownCap w n 0 47)) (w.drew.alloc (.cells (#[]++Builtin.zeroCells (Value.agg #[.int .i64 0,.string ⟨#[]⟩,.int .i64 0]).cells n++Builtin.zeroCells (Value.agg #[.int .i64 0,.string ⟨#[]⟩,.int .i64 0]).cells (grownCap w n 0 47-n)) 47)):=fun ty=>by
  have D:(Builtin.firstCells J.size 0 (.slice none 0 0)).run prog w.drew=.ok ([]:List Value).toArray w.drew:=run_firstCells_none w.drew J.size 0 0 0;have h:=Lib.run_append_grow_zeros w 22 3 ty 47 J _ .i64 .i64 Tryz.underlying22 Tryz.underlying3 M E none 0 0 [] D n h1 (by omega) (by omega) (by omega) (by rw[C];omega) (growslice_fits (by omega) (by rw[C];omega));simp only[Nat.zero_add]at h;exact h
 have H:n<=grownCap w n 0 47:=grownCap_ge w _ _ _;have A:=grownCap_le_maxLen w n 0 47 (by unfold maxLen;omega);generalize grownCap w n 0 47=G at B H A;have L:G<=9223372036854775807:=by unfold maxLen at A;omega
 have K:Hid (q1s w (.slice (some ⟨w,0,none⟩) 0 G) [] (w.drew.alloc (.cells (#[]++Builtin.zeroCells (Value.agg #[.int .i64 0,.string ⟨#[]⟩,.int .i64 0]).cells n++Builtin.zeroCells (Value.agg #[.int .i64 0,.string ⟨#[]⟩,.int .i64 0]).cells (G-n)) 47))):=by
  refine⟨rfl,.inr ⟨w.heap.size,G,_,rfl,Nat.le_refl _,heap_alloc_new w.drew _,Nat.zero_le _,A,?_,rfl⟩⟩;simp only[Array.size_append,size_zeroCells,Array.size_empty];show 0+n*3+(G-n)*3=G*3;omega
 have N:(0:Int)<(n:Int):=by omega
 generalize(#[]++Builtin.zeroCells (Value.agg #[.int .i64 0,.string ⟨#[]⟩,.int .i64 0]).cells n++Builtin.zeroCells (Value.agg #[.int .i64 0,.string ⟨#[]⟩,.int .i64 0]).cells (G-n))=Z at B K
 clear M E I C A;go_in;go_wp2_with(at_builtin;refine Lib.wpList_append_run _ rfl _ _ _ _ rfl _ _ rfl rfl _ _ (B _) ?_);go_ret;exact⟨G,rfl,K.o,Below.drew (Zb.alloc Zl _)⟩
def y4k(w:World)(a:Option Addr)(ps:List (List Td)):Prop:=
 ∀i(h:i<ps.length),∃b o a' c',a=some ⟨b,o,none⟩/\b<w.heap.size/\w.cell? ⟨b,o+i,none⟩=some (.slice a' ps[i].length c')/\ps[i].length<=c'/\Tds w a' ps[i]/\(a'=none->ps[i].length=0/\c'=0)
theorem y4k.W{w w':World}{a:Option Addr}{ps:List (List Td)}(h:y4k w a ps)(hb:Below w w w'):y4k w' a ps:=by
 intro i I;obtain⟨b,o,B,C,e,A,D,E,G,H⟩:=h i I;exact⟨b,o,B,C,e,Nat.lt_of_lt_of_le A hb.size,(hb.cell (p:=⟨b,_,none⟩) A).trans D,E,G.W hb,H⟩
theorem k1i{ps:List (List Td)}{i:Nat}(h:i<ps.length):(ps.take (i+1)).flatten=(ps.take i).flatten++ps[i]:=by
 rw[List.take_succ_eq_append_getElem h,List.flatten_append];simp
theorem z8d(ps:List (List Td))(i:Nat):(ps.take i).flatten.length<=ps.flatten.length:=by
 have h:ps.flatten=(ps.take i).flatten++(ps.drop i).flatten:=by rw[<-List.flatten_append,List.take_append_drop]
 rw[h,List.length_append];omega
structure y9i(w:World)(ps:List (List Td))(i:Nat)(v:Value)(wr:World):Prop where
 le:i<=ps.length
 o:q1s w v (ps.take i).flatten wr
 b:Below w w wr
theorem k6x(ps:List (List Td))(a:Option Addr)(c:Nat)(w:World)(hP:y4k w a ps)(h0:0<ps.flatten.length)(hl:ps.flatten.length<=900000)(hp:ps.length<=10):
  Calls prog 203 #[.slice a ps.length c] w fun e w'=>∃A c',e=.returned (.slice A ps.flatten.length c')/\q1s w (.slice A ps.flatten.length c') ps.flatten w'/\Below w w w':=by
 have z:Hid (y4k w a ps):=hP;have u:Hid (Calls prog 226 #[.slice none 0 0,.int .i64 (ps.flatten.length:Int)] w fun e w'=>∃c,e=.returned (.slice (some ⟨w,0,none⟩) 0 c)/\q1s w (.slice (some ⟨w,0,none⟩) 0 c) [] w'/\Below w w w'):=v1l ps.flatten.length h0 (by omega) w;clear hP;generalize hN:ps.flatten.length=N at u h0 hl⊢;have P:Hid (ps.flatten.length=N):=hN;clear hN;go_in;go_wp2_with fail
 go_loopw [3,11] (fun s x wr=>w=wr/\∃i:Nat,i<=ps.length/\x=.int .i64 (i:Int)/\s=.int .i64 ((ps.take i).flatten.length:Int)) (fun _ x _=>ps.length-(intOf x).toNat)
 case atStart=>exact⟨rfl,0,Nat.zero_le _,rfl,rfl⟩
 case round=>
  obtain⟨rfl,i,hi,rfl,rfl⟩:=hrel;by_cases C:i<ps.length
  ·have K:(i:Int)<(ps.length:Int):=by omega
   obtain⟨b0,o0,Y,j,rfl,q,p,_,_,_⟩:=z.o i C;have B:=congrArg List.length (k1i C);rw[List.length_append]at B;have E:=z8d ps (i+1);rw[P.o]at E;have M:=(show Hid (_=_)from B);have V:(ps.take i).flatten.length+ps[i].length<=900000:=by omega
   clear B E;generalize ps[i].length=pn at M p V
   generalize(ps.take i).flatten.length=sn at M V⊢
   have Aa:¬(sn:Int)+(pn:Int)<0:=by omega
   go_wp2;refine⟨⟨trivial,i+1,C,by go_num,?_⟩,?_⟩
   ·rw[M.o];go_num
   ·simp[intOf];omega
  ·have K:¬(i:Int)<(ps.length:Int):=by omega
   have G:(ps.take i).flatten.length=N:=by rw[List.take_of_length_le (by omega)];exact P.o
   rw[G];clear G;go_wp2_with fail;refine u.o.mono ?_;rintro e w1⟨c1,rfl,S,b1⟩;have f:Hid (y9i w ps 0 (.slice (some ⟨w,0,none⟩) 0 c1) w1):=⟨Nat.zero_le _,S,b1⟩;clear S b1;go_wp2_with fail
   go_loopw [6,27] (fun v x w'=>∃(i:Nat)(A:Option Addr)(n c:Nat),x=.int .i64 (i:Int)/\v=.slice A n c/\n=(ps.take i).flatten.length/\y9i w ps i (.slice A n c) w') (fun _ x _=>ps.length-(intOf x).toNat)
   case atStart=>exact⟨0,_,_,_,rfl,rfl,rfl,f.o⟩
   case round=>
    obtain⟨i,A,n,l,rfl,rfl,L,O⟩:=hrel;have E:=z8d ps i;rw[P.o,<-L]at E;by_cases C:i<ps.length
    ·have K:(i:Int)<(ps.length:Int):=by omega
     obtain⟨b0,o0,Y,j,rfl,q,p,_,hT,J⟩:=z.o.W O.b i C;have B:=k1i C;have I:=z8d ps (i+1);rw[B,List.length_append,P.o,<-L]at I;have M:=(show Hid (_=_)from B);have Z:Hid (q1s w (.slice A n l) (ps.take i).flatten wr):=O.o;have d:Hid (Below w w wr):=O.b;have X:=O.b.size;have HT:Hid (Tds wr Y ps[i]):=hT;have Q:Hid (Y=none->ps[i].length=0/\j=0):=J;have y:Hid ((ps.take i).flatten.length=n):=L.symm;have g:Hid (∃m,ps[i].length=m):=⟨_,rfl⟩;generalize U:ps[i].length=pn at p I Q;have R:Hid (ps[i].length=pn):=U;clear B hT J L O U g E;go_wp2_with(at_builtin;refine k4c rfl _ _ rfl w.heap.size _ (ps.take i).flatten rfl Z.o Y pn ps[i] R.o j rfl HT.o Q.o (n+pn) (by rw[y.o]) (by omega) X ?_);intro t c3 w3 H D
     have h:Hid (y9i w ps (i+1) (.slice t (n+pn) c3) w3):=by
      refine⟨C,?_,d.o.grown D X (fun k hk=>(World.ownsRow.lt Z.o k hk).1)⟩;rw[M.o];exact H
     clear H D;go_wp2;refine⟨⟨i+1,t,n+pn,c3,by go_num,rfl,?_,h.o⟩,?_⟩
     ·rw[M.o,List.length_append,y.o,R.o]
     ·simp[intOf];omega
    ·have K:¬(i:Int)<(ps.length:Int):=by omega
     have G:ps.take i=ps:=List.take_of_length_le (by omega);obtain⟨_,r,hb⟩:=O;rw[G]at r L;rw[P.o]at L;subst L;have Z:Hid (q1s w (.slice A n l) ps.flatten wr):=r;have d:Hid (Below w w wr):=hb;clear r hb G;go_wp2;go_ret;exact⟨A,l,rfl,Z.o,d.o⟩
end Go.Proofs.YtfdppahhbpfnoaaGreatDoor
