import Derived.Test.YthcpdohdppkmkaaGreatDoorPl18
import Derived.Laws.Strings2
import Derived.Lib.AppendZerosOnto
import Derived.Lib.SliceRun
import Derived.Test.YthcpdohdppkmkaaGreatDoorPl05
import Derived.Test.YthcpdohdppkmkaaGreatDoorShg
import Derived.Defers
import Derived.Lib.LaidTab
import Derived.Lib.AppendIntMem
import Derived.Lib.ItoaNum
open Go.Proofs.Tryz
namespace Go.Proofs.YthcpdohdppkmkaaGreatDoor
open Go Go.RowKit
set_option maxRecDepth 100000
set_option maxHeartbeats 2000000
theorem j0e(x:Td)(w:World):Calls prog 186 #[tdV x] w fun e w'=>e=.returned (.int .i64 (kdZ x))/\Below w w w':=by
 obtain⟨A,J,n⟩:=x;have B:∀O:Obj,Below w w (w.alloc O):=fun O=>(Below.refl _ w).alloc Zl O
 by_cases C:A=3
 ·subst C;go_in;go_wp2;go_ret;exact⟨by simp[kdZ],B _⟩
 by_cases D:A=4
 ·subst D;go_in;go_wp2;go_ret;exact⟨by simp[kdZ],B _⟩
 by_cases E:A=5
 ·subst E;go_in;go_wp2;go_ret;exact⟨by simp[kdZ,kdT],B _⟩
 by_cases G:A=6
 ·subst G;go_in;go_wp2;go_ret;exact⟨by simp[kdZ,kdT],B _⟩
 by_cases H:A=7
 ·subst H;go_in;go_wp2;go_ret;exact⟨by simp[kdZ,kdT],B _⟩
 by_cases I:A=8
 ·subst I;go_in;go_wp2;go_ret;exact⟨by simp[kdZ,kdT],B _⟩
 have K:Hid (kdZ ⟨A,J,n⟩=0):=by show kdZ ⟨A,J,n⟩=0;simp[kdZ,kdT,C,D,E,G,H,I]
 have L:(A==3)=false:=by simp[C]
 have M:(A==4)=false:=by simp[D]
 have N:(A==5)=false:=by simp[E]
 have P:(A==6)=false:=by simp[G]
 have Q:(A==7)=false:=by simp[H]
 have R:(A==8)=false:=by simp[I]
 clear C D E G H I;go_in;go_wp2;go_ret;exact⟨by rw[K.o];rfl,B _⟩
theorem z4p(ds:List Td)(a:Option Addr)(cap:Nat)(hl:ds.length<=400)(hk:∀x∈ds,q0q x=0):∀(f i:Nat)(w:World),Tds w a ds->ds.length-i<f->i<=1000->
  Calls prog 122 #[.slice a ds.length cap,.int .i64 i] w fun e w'=>e=.returned (.int .i64 (z8e (q3q ds i 1)))/\Below w w w':=by
 have S:Hid (∀x∈ds,q0q x=0):=hk;clear hk;intro f
 induction f with
 | zero=>intro i w _ h;omega
 | succ f ih=>
  intro i w X hf hi;have U:Hid (Tds w a ds):=X
  have d:Hid (∀(i:Nat)(w:World),Tds w a ds->ds.length-i<f->i<=1000->
   Calls prog 122 #[.slice a ds.length cap,.int .i64 i] w fun e w'=>e=.returned (.int .i64 (z8e (q3q ds i 1)))/\Below w w w'):=ih
  clear X ih;by_cases C:i<ds.length
  ·obtain⟨b,o,s,hb,l,n,r⟩:=U.o i C;have M:Hid (q3q ds i 1=q3q ds (i+1) (kdT ds[i])):=z3u _ _ 0 C;have P:=v8g (S.o _ (List.getElem_mem C));have H:Hid (kdZ ds[i]=(kdT ds[i]:Int)):=v8h (S.o _ (List.getElem_mem C));have t:(i:Int)<(ds.length:Int):=by omega
   have N:¬(ds.length:Int)<=(i:Int):=by omega
   subst s;generalize ds[i]=x at l n r M P H;generalize Q:kdT x=p at M P H;clear Q;obtain⟨Z,c,Y⟩:=x
   have L:Hid (∀W:World,Calls prog 186 #[.agg #[.int .i64 Z,.string c,.int .i64 Y]] W fun e w'=>e=.returned (.int .i64 (p:Int))/\Below W W w'):=fun W=>by
    have:=j0e ⟨Z,c,Y⟩ W
    rw[H.o]at this;exact this
   clear H;go_in;go_wp2_with fail;refine(L.o _).mono ?_;rintro e w1⟨rfl,g⟩;go_wp2_with fail
   go_loopw [1,5] (fun z m wr=>Below w w wr/\∃q:Nat,q<=6/\m=.int .i64 q/\((∃k:Nat,i<k/\k<=ds.length/\z=.int .i64 k/\q3q ds i 1=q3q ds k q)\/(z=.int .i64 (-1)/\q3q ds i 1=none))) (fun _ m _=>(intOf m).toNat)
   case atStart=>exact⟨g,p,P,rfl,.inl ⟨i+1,by omega,by omega,by go_num,M.o⟩⟩
   case round=>
    obtain⟨B,q,hq,rfl,⟨k,v,y,rfl,E⟩|⟨rfl,E⟩⟩:=hrel
    ·have D:Hid (q3q ds i 1=q3q ds k q):=E;have A:Hid (Below w w wr):=B;clear E B;by_cases I:q=0
     ·subst I;have K:Hid (q3q ds i 1=some k):=D.o.trans (k0q _ _);go_wp2;go_ret;exact⟨by rw[K.o];rfl,A.o⟩
     ·obtain⟨G,rfl⟩:∃G,q=G+1:=⟨q-1,by omega⟩;have R:Hid (q3q ds i 1=(q3q ds k 1).bind fun j=>q3q ds j G):=D.o.trans (by rw[Nat.add_comm G 1,v2y]);clear I;go_wp2_with fail;refine(d.o k _ (U.o.W A.o) (by omega) (by omega)).mono ?_;rintro e w2⟨rfl,V⟩;have J:Hid (Below w w w2):=q0e A.o Zl V;clear V;go_wp2
      go_roundw
      case rel=>
       refine⟨J.o,G,by omega,by go_num,?_⟩;cases O:q3q ds k 1 with
       | none=>exact .inr ⟨rfl,by rw[R.o,O];rfl⟩
       | some j=>
        have u:=y0z O;exact .inl ⟨j,by omega,by omega,rfl,by rw[R.o,O];rfl⟩
      case measure=>simp[intOf]
    ·have D:Hid (q3q ds i 1=none):=E;have A:Hid (Below w w wr):=B;clear E B;by_cases I:q=0
     ·subst I;go_wp2;go_ret;exact⟨by rw[D.o];rfl,A.o⟩
     ·go_wp2;go_ret;exact⟨by rw[D.o];rfl,A.o⟩
  ·have D:Hid (q3q ds i 1=none):=q8j _ _ _ (by omega);have N:(ds.length:Int)<=(i:Int):=by omega
   go_in;go_wp2;go_ret;exact⟨by rw[D.o];rfl,Below.refl _ _⟩
theorem v7w(d:Nat)(h:d<=9)(W:World):(Instr.slice 9 (.string ⟨#[48,49,50,51,52,53,54,55,56,57]⟩) (some (.int .i64 (d:Int))) (some (.int .i64 ((d:Int)+1))) none).run prog W=.ok (.string (wbS [UInt8.ofNat (48+d)])) W:=by
 rw[run_slice_string (P:=prog) (w:=W) 9 _ .i64 .i64 (d:Int) ((d:Int)+1) Tryz.underlying9 (by omega) (by omega) (by show(d:Int)+1<=10;omega)];have e:((d:Int)+1).toNat=d+1:=by omega
 rw[e,Int.toNat_natCast]
 match d,h with
 | 0,_=>rfl
 | 1,_=>rfl
 | 2,_=>rfl
 | 3,_=>rfl
 | 4,_=>rfl
 | 5,_=>rfl
 | 6,_=>rfl
 | 7,_=>rfl
 | 8,_=>rfl
 | 9,_=>rfl
theorem q1y(a b:List UInt8):wbS a++wbS b=wbS (a++b):=by
 apply ByteArray.ext;simp[wbS]
theorem k9a{n:Nat}(h:n<=9):q7m n=[UInt8.ofNat (48+n)]:=by rw[q7m,dif_pos h]
theorem v2v{n:Nat}(h:¬n<=9):q7m n=q7m (n / 10)++[UInt8.ofNat (48+n % 10)]:=by rw[q7m,dif_neg h]
theorem q2s(l:List UInt8):(wbS l).size=l.length:=by
 rw[<-q0b];rfl
theorem v5n(n:Nat)(hn:n<=999999)(w:World):Calls prog 126 #[.int .i64 (n:Int)] w fun e w'=>e=.returned (.string (wbS (q7m n)))/\w=w':=by
 have H:=z8a 5 n (by omega);go_in;go_wp2_with fail
 go_loopw [0,3] (fun x s wr=>wr=w/\∃(m:Nat)(t:List UInt8),x=.int .i64 (m:Int)/\s=.string (wbS t)/\m<=n/\q7m n=q7m m++t) (fun x _ _=>(intOf x).toNat)
 case atStart=>exact⟨rfl,n,[],rfl,rfl,Nat.le_refl _,by simp⟩
 case round=>
  obtain⟨rfl,m,t,rfl,rfl,P,I⟩:=hrel;have K:Hid (q7m n=q7m m++t):=I
  have C:(wbS t).size<=100:=by
   have:=congrArg List.length I
   rw[List.length_append]at this;rw[q2s];omega
  clear I H;by_cases E:m<=9
  ·have G:¬(9:Int)<(m:Int):=by omega
   have D:=v7w m E;have B:(wbS [UInt8.ofNat (48+m)]).size<=1:=by rw[q2s];exact Nat.le_refl _
   have A:Hid (wbS [UInt8.ofNat (48+m)]++wbS t=wbS (q7m n)):=by
    show _=_;rw[K.o,k9a E,q1y]
   generalize wbS [UInt8.ofNat (48+m)]=dg at D B A;generalize wbS t=ts at C A;go_wp2;go_ret;exact⟨by rw[<-A.o];rfl,rfl⟩
  ·have G:(9:Int)<(m:Int):=by omega
   have D:=v7w (m % 10) (by omega);have L:((m % 10:Nat):Int)=(m:Int) % 10:=by omega
   have M:((m / 10:Nat):Int)=(m:Int) / 10:=by omega
   rw[L]at D;have B:(wbS [UInt8.ofNat (48+m % 10)]).size<=1:=by rw[q2s];exact Nat.le_refl _
   have A:Hid (wbS [UInt8.ofNat (48+m % 10)]++wbS t=wbS ([UInt8.ofNat (48+m % 10)]++t)):=q1y _ _
   have N:Hid (q7m n=q7m (m / 10)++([UInt8.ofNat (48+m % 10)]++t)):=by
    show _=_;rw[K.o,v2v E,List.append_assoc]
   have O:Hid (((m / 10:Nat):Int)=(m:Int) / 10):=M;generalize wbS [UInt8.ofNat (48+m % 10)]=dg at D B A;generalize J:wbS t=ts at C A;clear L M J;go_wp2;exact⟨⟨by trivial,m / 10,_,by rw[O.o],by rw[A.o],by omega,N.o⟩,by simp[intOf];omega⟩
def y4k(p k:Int)(s:Bool):Bool:=(decide (p=6)&&decide (k=5))||(s&&(decide (p=5)||decide (p=6))&&decide (k=p))
theorem y0a(p x:Td)(s:Bool)(h:p.op=5\/p.op=6):y4k p.op x.op s=decide (prc x<(if p.op=5 then(if s then 1 else 0)else(if s then 2 else 1))):=by
 unfold y4k prc;rcases h with h|h<;>rw[h]<;>cases s<;>by_cases A:x.op=5<;>by_cases B:x.op=6<;>simp_all
theorem j0f(p x:Td)(s:Bool)(w:World):Calls prog 187 #[tdV p,tdV x,.bool s] w fun e w'=>e=.returned (.bool (y4k p.op x.op s))/\Below w w w':=by
 obtain⟨B,K,J⟩:=p;obtain⟨C,M,L⟩:=x;unfold tdV;simp only;go_in;have A:Hid (∀o1 o2:Obj,Below w w ((w.alloc o1).alloc o2)):=fun o1 o2=>(Zb.alloc Zl _).alloc (by rw[World.size_alloc];omega) _
 go_wp2
 all_goals go_ret
 all_goals refine⟨?_,?_⟩
 all_goals first|exact A.o _ _|(simp_all[y4k];done)|(by_cases D:C=5<;>by_cases E:C=6<;>by_cases H:B=5<;>by_cases I:B=6<;>by_cases G:C=B<;>simp_all[y4k])
set_option maxHeartbeats 4000000
theorem j5t(n:Nat)(h1:0<n)(hn:n<=1000000)(w:World):
  Calls prog 241 #[.slice none 0 0,.int .i64 (n:Int)] w fun e w'=>∃c,e=.returned (.slice (some ⟨w,0,none⟩) 0 c)/\q5z w.heap.size (.slice (some ⟨w,0,none⟩) 0 c) [] w'/\Below w w w':=by
 obtain⟨J,M,E,I,C⟩:=info_parts v8k
 have B:∀ty,(Builtin.append_ #[53,3] ty #[.slice none 0 0,.int .i64 (n:Int)]).run prog w=
   .ok (.slice (some ⟨w,0,none⟩) n (grownCap w n 0 177)) (w.drew.alloc (.cells (#[]++Builtin.zeroCells (Value.agg #[.int .i64 0,.string ⟨#[]⟩,.int .i64 0]).cells n++Builtin.zeroCells (Value.agg #[.int .i64 0,.string ⟨#[]⟩,.int .i64 0]).cells (grownCap w n 0 177-n)) 177)):=fun ty=>by
  have D:(Builtin.firstCells J.size 0 (.slice none 0 0)).run prog w.drew=.ok ([]:List Value).toArray w.drew:=run_firstCells_none w.drew J.size 0 0 0;have h:=Lib.run_append_grow_zeros w 53 3 ty 177 J _ .i64 .i64 Tryz.underlying53 Tryz.underlying3 M E none 0 0 [] D n h1 (by omega) (by omega) (by omega) (by rw[C];omega) (growslice_fits (by omega) (by rw[C];omega));simp only[Nat.zero_add]at h;exact h
 have H:n<=grownCap w n 0 177:=grownCap_ge w _ _ _;have A:=grownCap_le_maxLen w n 0 177 (by unfold maxLen;omega);generalize grownCap w n 0 177=G at B H A;have L:G<=9223372036854775807:=by unfold maxLen at A;omega
 have K:Hid (q5z w.heap.size (.slice (some ⟨w,0,none⟩) 0 G) [] (w.drew.alloc (.cells (#[]++Builtin.zeroCells (Value.agg #[.int .i64 0,.string ⟨#[]⟩,.int .i64 0]).cells n++Builtin.zeroCells (Value.agg #[.int .i64 0,.string ⟨#[]⟩,.int .i64 0]).cells (G-n)) 177))):=by
  refine⟨rfl,.inr ⟨w.heap.size,G,_,rfl,Nat.le_refl _,heap_alloc_new w.drew _,Nat.zero_le _,A,?_,rfl⟩⟩;simp only[Array.size_append,size_zeroCells,Array.size_empty];show 0+n*3+(G-n)*3=G*3;omega
 have N:(0:Int)<(n:Int):=by omega
 generalize(#[]++Builtin.zeroCells (Value.agg #[.int .i64 0,.string ⟨#[]⟩,.int .i64 0]).cells n++Builtin.zeroCells (Value.agg #[.int .i64 0,.string ⟨#[]⟩,.int .i64 0]).cells (G-n))=Z at B K
 clear M E I C A;go_in;go_wp2_with(at_builtin;refine Lib.wpList_append_run _ rfl _ _ _ _ rfl _ _ rfl rfl _ _ (B _) ?_);go_ret;exact⟨G,rfl,K.o,Below.drew (Zb.alloc Zl _)⟩
def v9t(w:World)(a:Option Addr)(ps:List (List Nd)):Prop:=
 ∀i(h:i<ps.length),∃b o a' c',a=some ⟨b,o,none⟩/\b<w.heap.size/\w.cell? ⟨b,o+i,none⟩=some (.slice a' ps[i].length c')/\q1u w a' ps[i]/\(a'=none->ps[i].length=0/\c'=0)
theorem v9t.W{w w':World}{a:Option Addr}{ps:List (List Nd)}(h:v9t w a ps)(hb:Below w w w'):v9t w' a ps:=by
 intro i H;obtain⟨b,o,B,C,e,A,D,E,G⟩:=h i H;exact⟨b,o,B,C,e,Nat.lt_of_lt_of_le A hb.size,(hb.cell (p:=⟨b,_,none⟩) A).trans D,E.W hb,G⟩
theorem z6d{ps:List (List Nd)}{i:Nat}(h:i<ps.length):(ps.take (i+1)).flatten=(ps.take i).flatten++ps[i]:=by
 rw[List.take_succ_eq_append_getElem h,List.flatten_append];simp
theorem z4a(ps:List (List Nd))(i:Nat):(ps.take i).flatten.length<=ps.flatten.length:=by
 have h:ps.flatten=(ps.take i).flatten++(ps.drop i).flatten:=by rw[<-List.flatten_append,List.take_append_drop]
 rw[h,List.length_append];omega
structure y7y(w:World)(ps:List (List Nd))(i:Nat)(v:Value)(wr:World):Prop where
 le:i<=ps.length
 o:q5z w.heap.size v (ps.take i).flatten wr
 b:Below w w wr
theorem z4e(ps:List (List Nd))(a:Option Addr)(c:Nat)(w:World)(hP:v9t w a ps)(h0:0<ps.flatten.length)(hl:ps.flatten.length<=900000)(hp:ps.length<=10):
  Calls prog 213 #[.slice a ps.length c] w fun e w'=>∃A c',e=.returned (.slice A ps.flatten.length c')/\q5z w.heap.size (.slice A ps.flatten.length c') ps.flatten w'/\Below w w w':=by
 have z:Hid (v9t w a ps):=hP;have u:Hid (Calls prog 241 #[.slice none 0 0,.int .i64 (ps.flatten.length:Int)] w fun e w'=>∃c,e=.returned (.slice (some ⟨w,0,none⟩) 0 c)/\q5z w.heap.size (.slice (some ⟨w,0,none⟩) 0 c) [] w'/\Below w w w'):=j5t ps.flatten.length h0 (by omega) w;clear hP;generalize hN:ps.flatten.length=N at u h0 hl⊢;have P:Hid (ps.flatten.length=N):=hN;clear hN;go_in;go_wp2_with fail
 go_loopw [3,11] (fun s x wr=>w=wr/\∃i:Nat,i<=ps.length/\x=.int .i64 (i:Int)/\s=.int .i64 ((ps.take i).flatten.length:Int)) (fun _ x _=>ps.length-(intOf x).toNat)
 case atStart=>exact⟨rfl,0,Nat.zero_le _,rfl,rfl⟩
 case round=>
  obtain⟨rfl,i,hi,rfl,rfl⟩:=hrel;by_cases C:i<ps.length
  ·have K:(i:Int)<(ps.length:Int):=by omega
   obtain⟨b0,o0,Y,j,rfl,q,p,_,_⟩:=z.o i C;have B:=congrArg List.length (z6d C);rw[List.length_append]at B;have E:=z4a ps (i+1);rw[P.o]at E;have M:=(show Hid (_=_)from B);have V:(ps.take i).flatten.length+ps[i].length<=900000:=by omega
   clear B E;generalize ps[i].length=pn at M p V
   generalize(ps.take i).flatten.length=sn at M V⊢
   have Aa:¬(sn:Int)+(pn:Int)<0:=by omega
   go_wp2;refine⟨⟨trivial,i+1,C,by go_num,?_⟩,?_⟩
   ·rw[M.o];go_num
   ·simp[intOf];omega
  ·have K:¬(i:Int)<(ps.length:Int):=by omega
   have G:(ps.take i).flatten.length=N:=by rw[List.take_of_length_le (by omega)];exact P.o
   rw[G];clear G;go_wp2_with fail;refine u.o.mono ?_;rintro e w1⟨c1,rfl,S,b1⟩;have f:Hid (y7y w ps 0 (.slice (some ⟨w,0,none⟩) 0 c1) w1):=⟨Nat.zero_le _,S,b1⟩;clear S b1;go_wp2_with fail
   go_loopw [6,27] (fun v x w'=>∃(i:Nat)(A:Option Addr)(n c:Nat),x=.int .i64 (i:Int)/\v=.slice A n c/\n=(ps.take i).flatten.length/\y7y w ps i (.slice A n c) w') (fun _ x _=>ps.length-(intOf x).toNat)
   case atStart=>exact⟨0,_,_,_,rfl,rfl,rfl,f.o⟩
   case round=>
    obtain⟨i,A,n,l,rfl,rfl,L,O⟩:=hrel;have E:=z4a ps i;rw[P.o,<-L]at E;by_cases C:i<ps.length
    ·have K:(i:Int)<(ps.length:Int):=by omega
     obtain⟨b0,o0,Y,j,rfl,q,p,hT,J⟩:=z.o.W O.b i C;have B:=z6d C;have I:=z4a ps (i+1);rw[B,List.length_append,P.o,<-L]at I;have M:=(show Hid (_=_)from B);have Z:Hid (q5z w.heap.size (.slice A n l) (ps.take i).flatten wr):=O.o;have d:Hid (Below w w wr):=O.b;have X:=O.b.size;have HT:Hid (q1u wr Y ps[i]):=hT;have Q:Hid (Y=none->ps[i].length=0/\j=0):=J;have y:Hid ((ps.take i).flatten.length=n):=L.symm;have g:Hid (∃m,ps[i].length=m):=⟨_,rfl⟩;generalize U:ps[i].length=pn at p I Q;have R:Hid (ps[i].length=pn):=U;clear B hT J L O U g E;go_wp2_with(at_builtin;refine z7q rfl _ _ rfl w.heap.size _ (ps.take i).flatten rfl Z.o Y pn ps[i] R.o j rfl HT.o Q.o (n+pn) (by rw[y.o]) (by omega) X ?_);intro t c3 w3 H D
     have h:Hid (y7y w ps (i+1) (.slice t (n+pn) c3) w3):=by
      refine⟨C,?_,d.o.grown D X (fun k hk=>(World.ownsRow.lt Z.o k hk).1)⟩;rw[M.o];exact H
     clear H D;go_wp2;refine⟨⟨i+1,t,n+pn,c3,by go_num,rfl,?_,h.o⟩,?_⟩
     ·rw[M.o,List.length_append,y.o,R.o]
     ·simp[intOf];omega
    ·have K:¬(i:Int)<(ps.length:Int):=by omega
     have G:ps.take i=ps:=List.take_of_length_le (by omega);obtain⟨_,r,hb⟩:=O;rw[G]at r L;rw[P.o]at L;subst L;have Z:Hid (q5z w.heap.size (.slice A n l) ps.flatten wr):=r;have d:Hid (Below w w wr):=hb;clear r hb G;go_wp2;go_ret;exact⟨A,l,rfl,Z.o,d.o⟩
structure But(B b:Nat)(w w':World):Prop where
 os:w'.os=w.os
 tape:w'.tape=w.tape
 output:w'.output=w.output
 size:w.heap.size<=w'.heap.size
 block:∀k,k<B->k≠b->w'.heap[k]?=w.heap[k]?
section
variable {B b:Nat} {w w' a:World}
theorem But.refl(B b:Nat)(w:World):But B b w w:=⟨rfl,rfl,rfl,Nat.le_refl _,fun _ _ _=>rfl⟩
theorem But.trans{c:World}(h:But B b a w)(k:But B b w c):But B b a c:=
 ⟨k.os.trans h.os,k.tape.trans h.tape,k.output.trans h.output,Nat.le_trans h.size k.size,fun i hi hb=>(k.block i hi hb).trans (h.block i hi hb)⟩
theorem But.drew(h:But B b a w):But B b a w.drew:=⟨h.os,h.tape,h.output,h.size,h.block⟩
theorem But.of(h:Below B w w'):But B b w w':=⟨h.os,h.tape,h.output,h.size,fun k hk _=>h.block k hk⟩
theorem But.W(h:But B b w w')(hB:B<=b):Below B w w':=⟨h.os,h.tape,h.output,h.size,fun k hk=>h.block k hk (by omega)⟩
theorem But.mono{B':Nat}(h:But B b w w')(hB:B'<=B):But B' b w w':=⟨h.os,h.tape,h.output,h.size,fun k hk=>h.block k (by omega)⟩
theorem But.alloc(h:But B b a w)(hB:B<=w.heap.size)(o:Obj):But B b a (w.alloc o):=
 h.trans (.of ((Below.refl B w).alloc hB o))
theorem But.setCell(h:But B b a w){p:Addr}(hp:p.block=b\/B<=p.block)(u:Value):But B b a (w.setCell p u):=
 h.trans ⟨rfl,rfl,rfl,by simp[World.setCell],fun k hk hb=>Below.heap_setCell _ _ _ _ (by omega)⟩
theorem But.grown{row:Option Nat}(h:But B b a w)(hg:w.grownBy w' row)(hB:B<=w.heap.size)(hr:∀k,row=some k->B<=k):But B b a w':=
 h.trans ⟨hg.os,hg.tape,hg.output,hg.size,fun k hk _=>hg.block k (by omega) (fun e=>by have:=hr k e.symm;omega)⟩
theorem But.cell(h:But B b w w'){p:Addr}(hp:p.block<B)(hb:p.block≠b):w'.cell? p=w.cell? p:=World.cell?_of_block (w:=w) (h.block p.block hp hb)
end
theorem But.low{B b:Nat}{w w':World}(h:But B b w w'){B':Nat}(hB:B'<=B)(hb:B'<=b):Below B' w w':=(h.mono hB).W hb
def j1m (w : World) : Prop := Lib.TabIs prog w "internal/strconv.uint64pow10" .u64 Lib.pow10Tab
structure z2t(w:World):Prop where
 pow:j1m w
 spc : Lib.TabIs prog w "strings.asciiSpace" .u8 Lib.asciiSpaceTab
theorem k2q{n:String}{k:IntKind}{zs:List Int}{w w':World}{g:Nat}(hg:prog.globalNamed n=some g)(h:Lib.TabIs prog w n k zs)(hb:Below w w w'):Lib.TabIs prog w' n k zs:=by
 unfold Lib.TabIs World.var? at h⊢;rw[hg]at h⊢;simp only[Option.bind_some]at h⊢
 have B:g<w.heap.size:=by
  rcases Nat.lt_or_ge g w.heap.size with A|A
  ·exact A
  ·rw[Array.getElem?_eq_none A]at h;cases h
 rw[hb.block g B];exact h
theorem j1m.W{w w':World}(h:j1m w)(hb:Below w w w'):j1m w':=k2q (g:=6) (by kernel_rfl) h hb
theorem z2t.W{w w':World}(h:z2t w)(hb:Below w w w'):z2t w':=
 ⟨h.pow.W hb,k2q (g:=1) (by kernel_rfl) h.spc hb⟩
theorem q4c(w:World)(o:Obj):Below w w (w.alloc o):= Zb.alloc Zl _
theorem k3c(w:World)(o:Obj):Below w w (w.alloc o).drew:=(q4c w o).drew
theorem y3c{w:World}{b o c:Nat}{x:Td}{ds:List Td}(h:Tds w (some ⟨b,o,none⟩) (x::ds))(hc:(x::ds).length<=c):
  ∃A,(∀W:World,(Instr.slice 51 (.slice (some ⟨b,o,none⟩) (x::ds).length c) (some (.int .i64 1)) none none).run prog W=.ok (.slice A ds.length (c-1)) W)/\Tds w A ds:=by
 refine⟨if c=1 then some ⟨b,o,none⟩else some ⟨b,o+3,none⟩,fun W=>?_,?_⟩
 ·rw[run_slice_l W 51 _ (x::ds).length c Tryz.underlying51 .i64 1 (by omega) (by simp only[List.length_cons];omega)];have I:(sizeOf (prog.elem 51)).run prog W=.ok 3 W:=by kernel_rfl
  rw[I];have H:(⟨b,o,none⟩:Addr).add 3=⟨b,o+3,none⟩:=rfl;simp[Result.andThen,sliced,H]
 ·by_cases e:c=1
  ·have:ds=[]:=List.eq_nil_of_length_eq_zero (by simp only[List.length_cons]at hc;omega)
   rw[this];exact Tds.nil _ _
  ·rw[if_neg e];intro i K;obtain⟨J,L,G,B,C,D,E⟩:=h (i+1) (by simp only[List.length_cons];omega);simp only[Option.some.injEq,Addr.mk.injEq,and_true]at G;obtain⟨rfl,rfl⟩:=G;simp only[List.getElem_cons_succ]at C D E;refine⟨b,o+3,rfl,B,?_,?_,?_⟩
   ·rw[show o+3+i*3=o+(i+1)*3 by omega];exact C
   ·rw[show o+3+i*3+1=o+(i+1)*3+1 by omega];exact D
   ·rw[show o+3+i*3+2=o+(i+1)*3+2 by omega];exact E
theorem z7v(a b:List UInt8):Lib.byteCells (a++b)=Lib.byteCells a++Lib.byteCells b:=by simp[Lib.byteCells]
theorem IsX.grew{T B b:Nat}{bs R:List Value}{w w':World}(h:IsX T B b bs R w)(hb:Below w w w'):IsX T B b bs R w':=by
 have C:∀p,XAt T B b p bs R w->XAt T B b p bs R w':=by
  rintro p⟨v,D,A,G,H⟩;refine⟨v,(hb.block b ?_).trans D,A.kept (row:=none) ⟨hb.os,hb.tape,hb.output,hb.size,fun k D _=>hb.block k D⟩ (by cases I:v.ownBlock<;>simp),G,H⟩;rcases Nat.lt_or_ge b w.heap.size with E|E
  ·exact E
  ·simp[Array.getElem?_eq_none E]at D
 exact h.imp (C _) (C _)
theorem j6x(x:Td)(op:Int)(A:op=5\/op=6)(s:Bool)(w:World):Calls prog 237 #[.int .i64 x.op,.int .i64 op,.bool s] w fun e w'=>e=.returned (.bool (decide (prc x<(op-5).toNat+s.toNat)))/\w'=w:=by
 have D:prc x=if x.op=5 then 0 else if x.op=6 then 1 else 2:=rfl
 rw[D];generalize x.op=k;clear D;by_cases B:k=5
 ·subst B;rcases A with rfl|rfl<;>cases s
  all_goals
   go_in;go_wp2;go_ret;exact⟨rfl,rfl⟩
 ·by_cases C:k=6
  ·subst C;rcases A with rfl|rfl<;>cases s
   all_goals
    go_in;go_wp2;go_ret;exact⟨rfl,rfl⟩
  ·rw[if_neg B,if_neg C];have E:(k==5)=false:=by simp[B]
   have G:(k==6)=false:=by simp[C]
   rcases A with rfl|rfl<;>cases s
   all_goals
    go_in;go_wp2;go_ret;exact⟨rfl,rfl⟩
theorem v2d(w:World)(o p:Obj):Below w w ((w.alloc o).alloc p):=((Below.refl _ w).alloc Zl o).alloc (by rw[World.size_alloc];omega) p
theorem z1r(w:World)(o p:Obj):((w.alloc o).alloc p).heap[w.heap.size]?=some o:=by
 have A:((w.heap.push o).push p)[w.heap.size]?=some o:=by
  rw[Array.getElem?_push,if_neg (by simp),Array.getElem?_push,if_pos rfl]
 exact A
theorem q9i(w:World)(o p:Obj):((w.alloc o).alloc p).heap[w.heap.size+1]?=some p:=by
 have A:((w.heap.push o).push p)[w.heap.size+1]?=some p:=by
  rw[Array.getElem?_push,if_pos (by simp)]
 exact A
abbrev ndO(x:Nd):Obj:=.cells #[.int .i64 x.op,.string x.tx,.int .i64 x.n] 177 (0,0)
theorem k7l{x:Nd}{W:World}{k:Nat}(h:W.heap[k]?=some (ndO x)):q1u W (some ⟨k,0,none⟩) [x]:=by
 intro i B;have C:i=0:=by simp at B;exact B
 subst C;have A:k<W.heap.size:=(Array.getElem?_eq_some_iff.1 h).1;refine⟨k,0,rfl,A,?_,?_,?_⟩<;>rw[Lib.cell_of_heap h]<;>rfl
theorem v7u{x:Nd}{xs:List Nd}{A:Option Addr}{c:Nat}(w W:World)(hb:Below w w W)(h0:W.heap[w.heap.size]?=some (ndO x))(h1:W.heap[w.heap.size+1]?=some (.cells #[.slice (some ⟨w,0,none⟩) 1 1,.slice A xs.length c] 53 (0,0)))
  (hN:q1u w A xs) (E:A=none->xs.length=0/\c=0) (hl:xs.length<=100000):
  Calls prog 213 #[.slice (some ⟨w.heap.size+1,0,none⟩) 2 2] W fun e w'=>NdR w (x::xs) e w':=by
 have D:w.heap.size+1<W.heap.size:=(Array.getElem?_eq_some_iff.1 h1).1;have B:∀i,W.cell? ⟨w.heap.size+1,i,none⟩=#[Value.slice (some ⟨w,0,none⟩) 1 1,.slice A xs.length c][i]?:=fun i=>by simp[World.cell?,h1]
 have M:v9t W (some ⟨w.heap.size+1,0,none⟩) [[x],xs]:=by
  intro i N;have L:i=0\/i=1:=by simp at N;omega
  rcases L with rfl|rfl
  ·exact⟨w.heap.size+1,0,some ⟨w,0,none⟩,1,rfl,D,B 0,k7l h0,fun e=>by cases e⟩
  ·exact⟨w.heap.size+1,0,A,c,rfl,D,B 1,hN.W hb,E⟩
 have C:[[x],xs].flatten=x::xs:=by simp
 have I:=z4e [[x],xs] (some ⟨w.heap.size+1,0,none⟩) 2 W M (by rw[C];simp) (by rw[C,List.length_cons];omega) (by simp);rw[C]at I;refine I.mono ?_;rintro e O⟨J,K,rfl,H,G⟩;exact⟨J,K,rfl,H.down hb.size,q0e hb Zl G⟩
theorem v2p{x:Nd}{xs ys:List Nd}{A A':Option Addr}{c c':Nat}(w W:World)(hb:Below w w W)(h0:W.heap[w.heap.size]?=some (ndO x))(h1:W.heap[w.heap.size+1]?=some (.cells #[.slice (some ⟨w,0,none⟩) 1 1,.slice A xs.length c,.slice A' ys.length c'] 53 (0,0)))
  (hN:q1u w A xs) (G:A=none->xs.length=0/\c=0) (hM:q1u w A' ys) (E:A'=none->ys.length=0/\c'=0) (hl:xs.length+ys.length<=100000):
  Calls prog 213 #[.slice (some ⟨w.heap.size+1,0,none⟩) 3 3] W fun e w'=>NdR w (x::(xs++ys)) e w':=by
 have D:w.heap.size+1<W.heap.size:=(Array.getElem?_eq_some_iff.1 h1).1;have B:∀i,W.cell? ⟨w.heap.size+1,i,none⟩=#[Value.slice (some ⟨w,0,none⟩) 1 1,.slice A xs.length c,.slice A' ys.length c'][i]?:=fun i=>by simp[World.cell?,h1]
 have N:v9t W (some ⟨w.heap.size+1,0,none⟩) [[x],xs,ys]:=by
  intro i O;have M:i=0\/i=1\/i=2:=by simp at O;omega
  rcases M with rfl|rfl|rfl
  ·exact⟨w.heap.size+1,0,some ⟨w,0,none⟩,1,rfl,D,B 0,k7l h0,fun e=>by cases e⟩
  ·exact⟨w.heap.size+1,0,A,c,rfl,D,B 1,hN.W hb,G⟩
  ·exact⟨w.heap.size+1,0,A',c',rfl,D,B 2,hM.W hb,E⟩
 have C:[[x],xs,ys].flatten=x::(xs++ys):=by simp
 have J:=z4e [[x],xs,ys] (some ⟨w.heap.size+1,0,none⟩) 3 W N (by rw[C];simp) (by rw[C,List.length_cons,List.length_append];omega) (by simp);rw[C]at J;refine J.mono ?_;rintro e P⟨K,L,rfl,I,H⟩;exact⟨K,L,rfl,I.down hb.size,q0e hb Zl H⟩
theorem q2k(s:ByteArray)(w:World):Calls prog 172 #[.string s] w fun e w'=>NdR w [⟨1,s,0⟩] e w':=by
 have B:=hid (q5z.one w ⟨1,s,0⟩);have A:Hid (∀O:Obj,Below w w (w.alloc O)):=fun O=>(Below.refl _ w).alloc Zl O
 go_in;go_wp2;go_ret;exact⟨_,1,rfl,B.o,A.o _⟩
theorem z1t(w:World):Calls prog 175 #[] w fun e w'=>NdR w [⟨2,⟨#[]⟩,0⟩] e w':=by
 have B:=hid (q5z.one w ⟨2,⟨#[]⟩,0⟩);have A:Hid (∀O:Obj,Below w w (w.alloc O)):=fun O=>(Below.refl _ w).alloc Zl O
 go_in;go_wp2;go_ret;exact⟨_,1,rfl,B.o,A.o _⟩
theorem k1o(w:World):Calls prog 242 #[] w fun e w'=>NdR w [⟨3,⟨#[]⟩,0⟩] e w':=by
 have B:=hid (q5z.one w ⟨3,⟨#[]⟩,0⟩);have A:Hid (∀O:Obj,Below w w (w.alloc O)):=fun O=>(Below.refl _ w).alloc Zl O
 go_in;go_wp2;go_ret;exact⟨_,1,rfl,B.o,A.o _⟩
theorem q9k{xs:List Nd}{v:Value}(w:World)(hx:NdV w v xs)(hl:xs.length<=100000):Calls prog 174 #[v] w fun e w'=>NdR w (⟨7,⟨#[]⟩,2⟩::xs) e w':=by
 obtain⟨A,c,rfl,E,B⟩:=hx;have D:=hid (fun W C h2 h3=>v7u (x:=⟨7,⟨#[]⟩,2⟩) (c:=c) w W C h2 h3 E B hl);clear E B hl;generalize xs.length=n at D⊢;go_in;go_wp2_with fail;refine(D.o _ (v2d w _ _) (z1r w _ _) (q9i w _ _)).mono ?_;rintro e I C;have G:=hid C;obtain⟨H,rfl,_,_⟩:=C.val;clear C;go_wp2;go_ret;exact G.o
theorem z1v{xs:List Nd}{v:Value}(w:World)(hx:NdV w v xs)(hl:xs.length<=100000):Calls prog 173 #[v] w fun e w'=>NdR w (⟨8,⟨#[]⟩,0⟩::xs) e w':=by
 obtain⟨A,c,rfl,E,B⟩:=hx;have D:=hid (fun W C h2 h3=>v7u (x:=⟨8,⟨#[]⟩,0⟩) (c:=c) w W C h2 h3 E B hl);clear E B hl;generalize xs.length=n at D⊢;go_in;go_wp2_with fail;refine(D.o _ (v2d w _ _) (z1r w _ _) (q9i w _ _)).mono ?_;rintro e I C;have G:=hid C;obtain⟨H,rfl,_,_⟩:=C.val;clear C;go_wp2;go_ret;exact G.o
theorem q1n{xs ys:List Nd}{v u:Value}(w:World)(hx:NdV w v xs)(hy:NdV w u ys)(hl:xs.length+ys.length<=100000):Calls prog 170 #[v,u] w fun e w'=>NdR w (⟨6,⟨#[]⟩,0⟩::(xs++ys)) e w':=by
 obtain⟨A,c,rfl,H,C⟩:=hx;obtain⟨J,c',rfl,G,B⟩:=hy;have E:=hid (fun W D h2 h3=>v2p (x:=⟨6,⟨#[]⟩,0⟩) (c:=c) (c':=c') w W D h2 h3 H C G B hl);clear H C G B hl;generalize xs.length=n at E⊢;generalize ys.length=m at E⊢;go_in;go_wp2_with fail;refine(E.o _ (v2d w _ _) (z1r w _ _) (q9i w _ _)).mono ?_;rintro e L D;have I:=hid D;obtain⟨K,rfl,_,_⟩:=D.val;clear D;go_wp2;go_ret;exact I.o
structure Ly(w0:World)(b:Nat)(ds:List Td)(w:World)(A:Option Addr)(c:Nat):Prop where
 x:w.heap[b]?=some (.cells #[.slice A ds.length c] 175 (0,0))
 le:ds.length<=c
 td:Tds w0 A ds
 bl:Below w0 w0 w
 lt:w0.heap.size<=b
def LyE(w0:World)(b:Nat)(ds:List Td)(w:World):Prop:=∃A c,Ly w0 b ds w A c
theorem Ly.in{w0:World}{b:Nat}{ds:List Td}{w:World}{A:Option Addr}{c:Nat}(h:Ly w0 b ds w A c):b<w.heap.size:=(Array.getElem?_eq_some_iff.1 h.x).1
theorem LyE.grew{w0:World}{b:Nat}{ds:List Td}{w w':World}(h:LyE w0 b ds w)(hb:Below w w w'):LyE w0 b ds w':=by
 obtain⟨A,c,h⟩:=h;exact⟨A,c,(hb.block b h.in).trans h.x,h.le,h.td,q0e h.bl Zl hb,h.lt⟩
structure Lk(w0:World)(b:Nat)(w:World)(rest:List Td)(wk:World):Prop where
 bt:But w b w wk
 ly:LyE w0 b rest wk
 lt:b<w.heap.size
theorem Lk.step{w0:World}{b:Nat}{w:World}{rest:List Td}{wk w':World}(h:Lk w0 b w rest wk)(hb:Below wk wk w'):Lk w0 b w rest w':=
 ⟨h.bt.trans (But.of (hb.mono h.bt.size)),h.ly.grew hb,h.lt⟩
theorem Lk.in{w0:World}{b:Nat}{w:World}{rest:List Td}{wk:World}(h:Lk w0 b w rest wk):b<wk.heap.size:=Nat.lt_of_lt_of_le h.lt h.bt.size
def NdB(b:Nat)(w:World)(v:Value)(xs:List Nd):Prop:=∃A c B,v=.slice A xs.length c/\b<B/\q5z B (.slice A xs.length c) xs w
theorem NdB.but{b:Nat}{w w':World}{v:Value}{xs:List Nd}(h:NdB b w v xs)(hb:But w b w w'):NdB b w' v xs:=by
 obtain⟨A,c,B,e,C,D⟩:=h;exact⟨A,c,B,e,C,D.kept fun g h1 h2=>hb.block g h2 (by omega)⟩
theorem NdB.bel{b:Nat}{w w':World}{v:Value}{xs:List Nd}(h:NdB b w v xs)(hb:Below w w w'):NdB b w' v xs:=h.but (.of hb)
theorem NdB.val{b:Nat}{w:World}{v:Value}{xs:List Nd}(h:NdB b w v xs):NdV w v xs:=by
 obtain⟨A,c,B,rfl,D,C⟩:=h;exact C.val
theorem NdR.valB{w:World}{xs:List Nd}{e:Ending}{w':World}{b:Nat}(h:NdR w xs e w')(hb:b<w.heap.size):∃v,e=.returned v/\NdB b w' v xs/\Below w w w':=by
 obtain⟨A,c,e,B,C⟩:=h;exact⟨_,e,⟨A,c,_,rfl,hb,B⟩,C⟩
def NdG(w0:World)(b:Nat)(w:World)(xs:List Nd)(rest:List Td)(e:Ending)(w':World):Prop:=∃A c,e=.returned (.slice A xs.length c)/\q5z w.heap.size (.slice A xs.length c) xs w'/\Lk w0 b w rest w'
theorem NdR.gof{w0:World}{b:Nat}{w wk:World}{xs:List Nd}{B:List Td}{e:Ending}{w':World}(h:NdR wk xs e w')(hk:Lk w0 b w B wk):NdG w0 b w xs B e w':=by
 obtain⟨A,c,e,C,D⟩:=h;exact⟨A,c,e,C.down hk.bt.size,hk.step D⟩
theorem NdG.val{w0:World}{b:Nat}{w:World}{xs:List Nd}{B:List Td}{e:Ending}{w':World}(h:NdG w0 b w xs B e w'):∃v,e=.returned v/\NdB b w' v xs/\Lk w0 b w B w':=by
 obtain⟨A,c,e,D,C⟩:=h;exact⟨_,e,⟨A,c,_,rfl,C.lt,D⟩,C⟩
theorem Lk.then{w0:World}{b:Nat}{w wk w':World}{r1 r2:List Td}(h:Lk w0 b w r1 wk)(k:Lk w0 b wk r2 w'):Lk w0 b w r2 w':=⟨h.bt.trans (k.bt.mono h.bt.size),k.ly,h.lt⟩
theorem NdG.then{w0:World}{b:Nat}{w wk w':World}{r1 r2:List Td}{xs:List Nd}{e:Ending}(h:Lk w0 b w r1 wk)(k:NdG w0 b wk xs r2 e w'):NdG w0 b w xs r2 e w':=by
 obtain⟨A,c,e,B,C⟩:=k;exact⟨A,c,e,B.down h.bt.size,h.then C⟩
theorem y0b{w:World}{k:Nat}{a a':Value}{T:TypeId}(h:w.heap[k]?=some (.cells #[a] T (0,0))):(w.setCell ⟨k,0,none⟩ a').heap[k]?=some (.cells #[a'] T (0,0)):=by
 simp[World.setCell,Array.getElem?_modify,h]
theorem q4i{w0:World}{b:Nat}{x:Td}{ds:List Td}{w:World}(h:LyE w0 b (x::ds) w):
  Calls prog 169 #[.pointer (some ⟨b,0,none⟩)] w fun e w'=>e=.returned (tdV x)/\Lk w0 b w ds w':=by
 obtain⟨A,c,h⟩:=h;obtain⟨C,J,rfl,B,K,L,M⟩:=h.td 0 (by simp);obtain⟨G,D,E⟩:=y3c h.td h.le;simp only[List.getElem_cons_zero,Nat.zero_mul,Nat.add_zero]at K L M;obtain⟨I,_⟩:=q1z h.bl;have a:w.cell? ⟨C,J,none⟩=some (.int .i64 x.op):=(I _ _ B).trans K;have d:w.cell? ⟨C,J+1,none⟩=some (.string x.tx):=(I _ _ B).trans L;have f:w.cell? ⟨C,J+2,none⟩=some (.int .i64 x.n):=(I _ _ B).trans M;have N:b<w.heap.size:=h.in;have Z:C<w.heap.size:=Nat.lt_of_lt_of_le B h.bl.size;have U:w.cell? ⟨b,0,none⟩=some (.slice (some ⟨C,J,none⟩) (x::ds).length c):=by rw[Lib.cell_of_heap h.x];rfl
 have g:w.frozen? ⟨b,0,none⟩=false:=Lib.frozen_of_heap h.x 0;have X:¬C=b:=by have:=h.lt;omega
 have H:=hid h;have S:Hid (Tds w0 G ds):=E;have O:=h.le;generalize Q:(x::ds).length=n at U D O;have V:0<n:=by rw[<-Q];simp
 clear h E K L M I Q;generalize P:ds.length=m at D;have R:Hid (ds.length=m):=P;clear P;go_in;go_wp2;refine bodyPost_ret (v:=tdV x) (by simp[results,Tryz.results169,go_sem]) rfl ?_;have h:=H.o
 have Y:LyE w0 b ds (w.setCell ⟨b,0,none⟩ (.slice G m (c-1))):=by
  refine⟨G,c-1,?_,?_,S.o,h.bl.setCell (p:=⟨b,0,none⟩) h.lt _,h.lt⟩
  ·rw[R.o];exact y0b h.x
  ·have:=h.le;simp only[List.length_cons]at this;omega
 have W:Lk w0 b w ds (w.setCell ⟨b,0,none⟩ (.slice G m (c-1))):=⟨(But.refl _ _ _).setCell (p:=⟨b,0,none⟩) (.inl rfl) _,Y,N⟩;exact⟨rfl,W.step (v2d _ _ _)⟩
theorem y0t(n:Nat):Lib.decDigits n=q7m n:=by
 induction n using Nat.strongRecOn with
 | ind n ih=>
  rw[Lib.decDigits,q7m];by_cases h:n<10
  ·rw[dif_pos h,dif_pos (by omega)]
  ·rw[dif_neg h,dif_neg (by omega),ih (n / 10) (by omega)]
theorem v3y(n:Int)(h0:0<=n)(h1:n<=999999)(w:World)(ht:j1m w):Calls prog 154 #[.int .i64 n] w fun e w'=>e=.returned (.string (wbS (q7m n.toNat)))/\Below w w w':=by
 refine(itoa_sh n (by omega) (by omega) w ht).mono ?_;rintro e w'⟨rfl,k,A,rfl⟩;refine⟨?_,Lib.below_grow _ _ Zl _ _⟩;rw[Lib.itoa,if_neg (by omega),y0t];rfl
theorem q2h(c:UInt8)(w:World):Calls prog 75 #[.int .u8 (c.toNat:Int)] w fun e w'=>e=.returned (.bool (q2a c))/\w=w':=by
 by_cases B:(48:Int)<=(c.toNat:Int)
 ·by_cases C:(c.toNat:Int)<=57
  ·have A:Hid (q2a c=true):=by show q2a c=true;simp[q2a];omega
   go_in;go_wp2;go_ret;exact⟨by rw[A.o];rfl,rfl⟩
  ·have A:Hid (q2a c=false):=by show q2a c=false;simp[q2a];omega
   go_in;go_wp2;go_ret;exact⟨by rw[A.o];rfl,rfl⟩
 ·have A:Hid (q2a c=false):=by show q2a c=false;simp[q2a];omega
  go_in;go_wp2;go_ret;exact⟨by rw[A.o];rfl,rfl⟩
end Go.Proofs.YthcpdohdppkmkaaGreatDoor
