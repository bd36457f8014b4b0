import Derived.Test.YtelcnplcpboonaaGreatDoorPb14
import Derived.Lib.AppendZerosOnto
import Derived.Lib.SliceRun
import Derived.Deep.CutBlock
import Derived.Deep.DeepCutAuto
open Go.Proofs.Tryz
namespace Go.Proofs.YtelcnplcpboonaaGreatDoor
open Go Go.RowKit
set_option maxRecDepth 100000
set_option maxHeartbeats 4000000
theorem j9p(n:Nat)(h1:0<n)(hn:n<=1000000)(w:World):
  Calls prog 239 #[.slice none 0 0,.int .i64 (n:Int)] w fun e w'=>∃c,e=.returned (.slice (some ⟨w,0,none⟩) 0 c)/\q1p w (.slice (some ⟨w,0,none⟩) 0 c) [] w'/\Below w w w':=by
 obtain⟨J,M,E,I,C⟩:=info_parts j8c
 have B:∀ty,(Builtin.append_ #[82,3] ty #[.slice none 0 0,.int .i64 (n:Int)]).run prog w=
   .ok (.slice (some ⟨w,0,none⟩) n (grownCap w n 0 81)) (w.drew.alloc (.cells (#[]++Builtin.zeroCells (Value.agg #[.int .i64 0,.string ⟨#[]⟩,.int .i64 0]).cells n++Builtin.zeroCells (Value.agg #[.int .i64 0,.string ⟨#[]⟩,.int .i64 0]).cells (grownCap w n 0 81-n)) 81)):=fun ty=>by
  have D:(Builtin.firstCells J.size 0 (.slice none 0 0)).run prog w.drew=.ok ([]:List Value).toArray w.drew:=run_firstCells_none w.drew J.size 0 0 0;have h:=Lib.run_append_grow_zeros w 82 3 ty 81 J _ .i64 .i64 Tryz.underlying82 Tryz.underlying3 M E none 0 0 [] D n h1 (by omega) (by omega) (by omega) (by rw[C];omega) (growslice_fits (by omega) (by rw[C];omega));simp only[Nat.zero_add]at h;exact h
 have H:n<=grownCap w n 0 81:=grownCap_ge w _ _ _;have A:=grownCap_le_maxLen w n 0 81 (by unfold maxLen;omega);generalize grownCap w n 0 81=G at B H A;have L:G<=9223372036854775807:=by unfold maxLen at A;omega
 have K:Hid (q1p w (.slice (some ⟨w,0,none⟩) 0 G) [] (w.drew.alloc (.cells (#[]++Builtin.zeroCells (Value.agg #[.int .i64 0,.string ⟨#[]⟩,.int .i64 0]).cells n++Builtin.zeroCells (Value.agg #[.int .i64 0,.string ⟨#[]⟩,.int .i64 0]).cells (G-n)) 81))):=by
  refine⟨rfl,.inr ⟨w.heap.size,G,_,rfl,Nat.le_refl _,heap_alloc_new w.drew _,Nat.zero_le _,A,?_,rfl⟩⟩;simp only[Array.size_append,size_zeroCells,Array.size_empty];show 0+n*3+(G-n)*3=G*3;omega
 have N:(0:Int)<(n:Int):=by omega
 generalize(#[]++Builtin.zeroCells (Value.agg #[.int .i64 0,.string ⟨#[]⟩,.int .i64 0]).cells n++Builtin.zeroCells (Value.agg #[.int .i64 0,.string ⟨#[]⟩,.int .i64 0]).cells (G-n))=Z at B K
 clear M E I C A;go_in;go_wp2_with(at_builtin;refine Lib.wpList_append_run _ rfl _ _ _ _ rfl _ _ rfl rfl _ _ (B _) ?_);go_ret;exact⟨G,rfl,K.o,Below.drew (Zb.alloc Zl _)⟩
def y3d(w:World)(a:Option Addr)(ps:List (List Td)):Prop:=
 ∀i(h:i<ps.length),∃b o a' c',a=some ⟨b,o,none⟩/\b<w.heap.size/\w.cell? ⟨b,o+i,none⟩=some (.slice a' ps[i].length c')/\ps[i].length<=c'/\Tds w a' ps[i]/\(a'=none->ps[i].length=0/\c'=0)
theorem y3d.W{w w':World}{a:Option Addr}{ps:List (List Td)}(h:y3d w a ps)(hb:Below w w w'):y3d w' a ps:=by
 intro i I;obtain⟨b,o,B,C,e,A,D,E,G,H⟩:=h i I;exact⟨b,o,B,C,e,Nat.lt_of_lt_of_le A hb.size,(hb.cell (p:=⟨b,_,none⟩) A).trans D,E,G.W hb,H⟩
theorem z9i{ps:List (List Td)}{i:Nat}(h:i<ps.length):(ps.take (i+1)).flatten=(ps.take i).flatten++ps[i]:=by
 rw[List.take_succ_eq_append_getElem h,List.flatten_append];simp
theorem z6v(ps:List (List Td))(i:Nat):(ps.take i).flatten.length<=ps.flatten.length:=by
 have h:ps.flatten=(ps.take i).flatten++(ps.drop i).flatten:=by rw[<-List.flatten_append,List.take_append_drop]
 rw[h,List.length_append];omega
structure y8a(w:World)(ps:List (List Td))(i:Nat)(v:Value)(wr:World):Prop where
 le:i<=ps.length
 o:q1p w v (ps.take i).flatten wr
 b:Below w w wr
theorem k4h(ps:List (List Td))(a:Option Addr)(c:Nat)(w:World)(hP:y3d w a ps)(h0:0<ps.flatten.length)(hl:ps.flatten.length<=900000)(hp:ps.length<=10):
  Calls prog 217 #[.slice a ps.length c] w fun e w'=>∃A c',e=.returned (.slice A ps.flatten.length c')/\q1p w (.slice A ps.flatten.length c') ps.flatten w'/\Below w w w':=by
 have z:Hid (y3d w a ps):=hP;have u:Hid (Calls prog 239 #[.slice none 0 0,.int .i64 (ps.flatten.length:Int)] w fun e w'=>∃c,e=.returned (.slice (some ⟨w,0,none⟩) 0 c)/\q1p w (.slice (some ⟨w,0,none⟩) 0 c) [] w'/\Below w w w'):=j9p ps.flatten.length h0 (by omega) w;clear hP;generalize hN:ps.flatten.length=N at u h0 hl⊢;have P:Hid (ps.flatten.length=N):=hN;clear hN;go_in;go_wp2_with fail
 go_loopw [3,11] (fun s x wr=>w=wr/\∃i:Nat,i<=ps.length/\x=.int .i64 (i:Int)/\s=.int .i64 ((ps.take i).flatten.length:Int)) (fun _ x _=>ps.length-(intOf x).toNat)
 case atStart=>exact⟨rfl,0,Nat.zero_le _,rfl,rfl⟩
 case round=>
  obtain⟨rfl,i,hi,rfl,rfl⟩:=hrel;by_cases C:i<ps.length
  ·have K:(i:Int)<(ps.length:Int):=by omega
   obtain⟨b0,o0,Y,j,rfl,q,p,_,_,_⟩:=z.o i C;have B:=congrArg List.length (z9i C);rw[List.length_append]at B;have E:=z6v ps (i+1);rw[P.o]at E;have M:=(show Hid (_=_)from B);have V:(ps.take i).flatten.length+ps[i].length<=900000:=by omega
   clear B E;generalize ps[i].length=pn at M p V
   generalize(ps.take i).flatten.length=sn at M V⊢
   have Aa:¬(sn:Int)+(pn:Int)<0:=by omega
   go_wp2;refine⟨⟨trivial,i+1,C,by go_num,?_⟩,?_⟩
   ·rw[M.o];go_num
   ·simp[intOf];omega
  ·have K:¬(i:Int)<(ps.length:Int):=by omega
   have G:(ps.take i).flatten.length=N:=by rw[List.take_of_length_le (by omega)];exact P.o
   rw[G];clear G;go_wp2_with fail;refine u.o.mono ?_;rintro e w1⟨c1,rfl,S,b1⟩;have f:Hid (y8a w ps 0 (.slice (some ⟨w,0,none⟩) 0 c1) w1):=⟨Nat.zero_le _,S,b1⟩;clear S b1;go_wp2_with fail
   go_loopw [6,27] (fun v x w'=>∃(i:Nat)(A:Option Addr)(n c:Nat),x=.int .i64 (i:Int)/\v=.slice A n c/\n=(ps.take i).flatten.length/\y8a w ps i (.slice A n c) w') (fun _ x _=>ps.length-(intOf x).toNat)
   case atStart=>exact⟨0,_,_,_,rfl,rfl,rfl,f.o⟩
   case round=>
    obtain⟨i,A,n,l,rfl,rfl,L,O⟩:=hrel;have E:=z6v ps i;rw[P.o,<-L]at E;by_cases C:i<ps.length
    ·have K:(i:Int)<(ps.length:Int):=by omega
     obtain⟨b0,o0,Y,j,rfl,q,p,_,hT,J⟩:=z.o.W O.b i C;have B:=z9i C;have I:=z6v ps (i+1);rw[B,List.length_append,P.o,<-L]at I;have M:=(show Hid (_=_)from B);have Z:Hid (q1p w (.slice A n l) (ps.take i).flatten wr):=O.o;have d:Hid (Below w w wr):=O.b;have X:=O.b.size;have HT:Hid (Tds wr Y ps[i]):=hT;have Q:Hid (Y=none->ps[i].length=0/\j=0):=J;have y:Hid ((ps.take i).flatten.length=n):=L.symm;have g:Hid (∃m,ps[i].length=m):=⟨_,rfl⟩;generalize U:ps[i].length=pn at p I Q;have R:Hid (ps[i].length=pn):=U;clear B hT J L O U g E;go_wp2_with(at_builtin;refine k1w rfl _ _ rfl w.heap.size _ (ps.take i).flatten rfl Z.o Y pn ps[i] R.o j rfl HT.o Q.o (n+pn) (by rw[y.o]) (by omega) X ?_);intro t c3 w3 H D
     have h:Hid (y8a w ps (i+1) (.slice t (n+pn) c3) w3):=by
      refine⟨C,?_,d.o.grown D X (fun k hk=>(World.ownsRow.lt Z.o k hk).1)⟩;rw[M.o];exact H
     clear H D;go_wp2;refine⟨⟨i+1,t,n+pn,c3,by go_num,rfl,?_,h.o⟩,?_⟩
     ·rw[M.o,List.length_append,y.o,R.o]
     ·simp[intOf];omega
    ·have K:¬(i:Int)<(ps.length:Int):=by omega
     have G:ps.take i=ps:=List.take_of_length_le (by omega);obtain⟨_,r,hb⟩:=O;rw[G]at r L;rw[P.o]at L;subst L;have Z:Hid (q1p w (.slice A n l) ps.flatten wr):=r;have d:Hid (Below w w wr):=hb;clear r hb G;go_wp2;go_ret;exact⟨A,l,rfl,Z.o,d.o⟩
structure q3u(s:ByteArray)(w:World)(i:Nat)(dn:List (Nat × List UInt8))(A P:Option Addr)(ac pc:Nat)(wr:World):Prop where
 b:Below w w wr
 le:i<=s.size
 ln:dn.length<=i
 eq:lx (btL s) 0=(dn++lxW ((btL s).drop i) i,lxF ((btL s).drop i) i)
 ws:wr.ownsRow w.heap.size 9 1 (.slice A dn.length ac) dn.length (strCells (dn.map fun x=>wbS x.2))
 ps:wr.ownsRow w.heap.size 3 1 (.slice P dn.length pc) dn.length (q1w (dn.map (·.1)))
theorem q3u.space{s:ByteArray}{w:World}{i:Nat}{dn:List (Nat × List UInt8)}{A P:Option Addr}{ac pc:Nat}{wr:World}(h:q3u s w i dn A P ac pc wr)(hi:i<s.size)(hs:spB s[i]=true):q3u s w (i+1) dn A P ac pc wr:=by
 have e:=h.eq;rw[q1t hi,lxW,lxF,z7h _ _ hs]at e;exact{b:=h.b,le:=hi,ln:=by have:=h.ln;omega,eq:=e,ws:=h.ws,ps:=h.ps}
theorem j4w{s:ByteArray}{w:World}{i:Nat}{dn:List (Nat × List UInt8)}{A P:Option Addr}{ac pc:Nat}{wr:World}(h:q3u s w i dn A P ac pc wr)(hi:i<s.size)(hs:spB s[i]=false)(ho:tOk s i=false):lxF (btL s) 0=some i:=by
 have e:=h.eq;rw[tOk,q1t hi]at ho;rw[q1t hi,lxW,lxF,z9w _ hs ho]at e;rw[lxF,e]
theorem q3u.word{s:ByteArray}{w:World}{i:Nat}{dn:List (Nat × List UInt8)}{A P:Option Addr}{ac pc:Nat}{wr:World}(h:q3u s w i dn A P ac pc wr)(hi:i<s.size)(hs:spB s[i]=false)(ho:tOk s i=true){A' P':Option Addr}{B C:Nat}{w':World}(hb:Below w w w')
  (h1:w'.ownsRow w.heap.size 9 1 (.slice A' (dn.length+1) B) (dn.length+1) (strCells (dn.map fun x=>wbS x.2)++[.string (wbS (tkW ((btL s).drop i)))])) (h2:w'.ownsRow w.heap.size 3 1 (.slice P' (dn.length+1) C) (dn.length+1) (q1w (dn.map (·.1))++[.int .i64 (i:Int)])):
  q3u s w (i+j7y s i) (dn++[(i,tkW ((btL s).drop i))]) A' P' B C w':=by
 have e:=h.eq;have D:=g0j hi;have H:((btL s).drop i).drop (j7y s i)=(btL s).drop (i+j7y s i):=by rw[List.drop_drop]
 have E:q4o (s[i]::(btL s).drop (i+1))=true:=by rw[<-q1t hi];exact ho
 have G:lx ((btL s).drop i) i=((i,tkW ((btL s).drop i))::lxW ((btL s).drop (i+j7y s i)) (i+j7y s i),lxF ((btL s).drop (i+j7y s i)) (i+j7y s i)):=by
  rw[<-H,j7y,q1t hi];exact z3h i hs E
 rw[lxW,lxF,G]at e;refine{b:=hb,le:=D.2,ln:=by have:=h.ln;simp;omega,eq:=by rw[e];simp,ws:=?_,ps:=?_}
 ·rw[List.length_append,List.map_append,q3l];exact h1
 ·rw[List.length_append,List.map_append,z1f];exact h2
theorem v2n{L:List UInt8}{k:Nat}(h:L.length<=60000)(hf:lxF L 0=some k):q6h L=5/\z7d L=k:=by
 have e:q6h L=5:=by rw[q6h,if_neg (by omega),hf];rfl
 exact⟨e,by rw[z7d,if_pos e,hf];rfl⟩
theorem j4u{L:List UInt8}(h:L.length<=60000)(hf:lxF L 0=none)(hm:300<many (q2x L)):q6h L=3/\z7d L=0:=by
 have e:q6h L=3:=by rw[q6h,if_neg (by omega),hf,if_neg (by simp),if_pos hm]
 exact⟨e,by rw[z7d,e];rfl⟩
theorem j4v{L:List UInt8}(h:L.length<=60000)(hf:lxF L 0=none)(hm:¬300<many (q2x L)):q6h L=0/\z7d L=0:=by
 have e:q6h L=0:=by rw[q6h,if_neg (by omega),hf,if_neg (by simp),if_neg hm]
 exact⟨e,by rw[z7d,e];rfl⟩
theorem j4t{L:List UInt8}(h:60000<L.length):q6h L=3/\z7d L=0:=by
 have e:q6h L=3:=by rw[q6h,if_pos h]
 exact⟨e,by rw[z7d,e];rfl⟩
theorem j4x{s:ByteArray}{w:World}{i:Nat}{dn:List (Nat × List UInt8)}{A P:Option Addr}{ac pc:Nat}{wr:World}(h:q3u s w i dn A P ac pc wr)(hi:¬i<s.size):lxF (btL s) 0=none/\lxW (btL s) 0=dn:=by
 have e:=h.eq;rw[List.drop_eq_nil_of_le (by rw[q0b];omega),lxW,lxF,q7q,List.append_nil]at e;rw[lxF,lxW,e];exact⟨rfl,rfl⟩
theorem v2x{s:ByteArray}{k:Nat}(h:k<s.size)(hs:spB s[k]=false):many [tkW ((btL s).drop k)]=if s[k] != 35 then 1 else 0:=by
 have C:∃z,tkW ((btL s).drop k)=s[k]::z:=by
  rw[tkW,q1t h];have E:=q3n s[k] ((btL s).drop (k+1));obtain⟨m,D⟩:∃m,q0m (s[k]::(btL s).drop (k+1))=m+1:=⟨_,(Nat.sub_add_cancel E).symm⟩;rw[D,List.take_succ_cons];exact z0x (k9s hs) _
 obtain⟨z,G⟩:=C;rw[G];have B:y9t (s[k]::z)=(s[k] != 35):=rfl;cases A:(s[k] != 35)with
 | true=>rw[many,List.filter_cons_of_pos (by rw[B];exact A)];rfl
 | false=>rw[many,List.filter_cons_of_neg (by rw[B,A];decide)];rfl
end Go.Proofs.YtelcnplcpboonaaGreatDoor
