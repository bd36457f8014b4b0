import Derived.Test.YtchdplceopegoaaGreatDoorPi12
import Derived.Lib.AppendZerosOnto
import Derived.Lib.SliceRun
import Derived.Test.YtchdplceopegoaaGreatDoorPi08
import Derived.Lib.Atoi
import Derived.Lib.AtoiErrMem
open Go.Proofs.Tryz
open List (drop_eq_getElem_cons getElem_mem length length_append length_cons length_drop length_map length_nil map_cons sum_cons take_append_drop)
open Nat (le_refl zero_le)
namespace Go.Proofs.YtchdplceopegoaaGreatDoor
open Go Go.RowKit
set_option maxRecDepth 100000
set_option maxHeartbeats 2000000
structure LwK where
 gw:Nat
 cw:Nat
 ga:Nat
 ca:Nat
structure Ry(K:LwK)(ws:List Wd)(pl:Nat->Nat)(b q:Nat)(w:World):Prop where
 le:q<=ws.length
 c0:w.cell? ⟨b,0,none⟩=some (.slice (some ⟨K.gw,q,none⟩) (ws.length+1-q) (K.cw-q))
 c1:w.cell? ⟨b,1,none⟩=some (.slice (some ⟨K.ga,q,none⟩) (ws.length+1-q) (K.ca-q))
 row:k1g w b 2
 wd:∀i,i<=ws.length->w.cell? ⟨K.gw,i,none⟩=some (.string (wbS (ws.getD i [])))
 pt:∀i,i<=ws.length->w.cell? ⟨K.ga,i,none⟩=some (.int .i64 (pl i:Int))
 nw:K.gw≠b
 na:K.ga≠b
 lw:ws.length<K.cw
 la:ws.length<K.ca
 few:ws.length<=60000
section
variable {K:LwK} {ws:List Wd} {pl:Nat→Nat} {b q:Nat} {w w':World}
theorem Ry.gwlt(h:Ry K ws pl b q w):K.gw<w.heap.size:=World.block_lt_of_cell? _ _ (h.wd 0 (zero_le _))
theorem Ry.galt(h:Ry K ws pl b q w):K.ga<w.heap.size:=World.block_lt_of_cell? _ _ (h.pt 0 (zero_le _))
theorem Ry.keepB{B:Nat}(h:Ry K ws pl b q w)(hb:Below B w w')(h1:b<B)(h2:K.gw<B)(h3:K.ga<B):Ry K ws pl b q w':=
 ⟨h.le,(hb.cell (p:=⟨b,0,none⟩) h1).trans h.c0,(hb.cell (p:=⟨b,1,none⟩) h1).trans h.c1,h.row.kept (hb.block b h1),fun i hi=>(hb.cell (p:=⟨K.gw,i,none⟩) h2).trans (h.wd i hi),fun i hi=>(hb.cell (p:=⟨K.ga,i,none⟩) h3).trans (h.pt i hi),h.nw,h.na,h.lw,h.la,h.few⟩
theorem Ry.keep(h:Ry K ws pl b q w)(hb:Below w w w'):Ry K ws pl b q w':=h.keepB hb h.row.lt h.gwlt h.galt
theorem Ry.step(h:Ry K ws pl b q w)(hq:q<ws.length){w':World}(A:w'=(w.setCell b (.slice (some ↑(K.gw,q+1)) (ws.length-q) (K.cw-q-1))).setCell (b,1) (.slice (some ↑(K.ga,q+1)) (ws.length-q) (K.ca-q-1))):Ry K ws pl b (q+1) w':=by
 subst A;have B:ws.length+1-(q+1)=ws.length-q:=by omega
 refine⟨hq,?_,?_,h.row.set.set,fun i hi=>?_,fun i hi=>?_,h.nw,h.na,h.lw,h.la,h.few⟩
 ·rw[B,Nat.sub_add_eq];exact(cso (.inr (by omega))).trans (css h.c0)
 ·rw[B,Nat.sub_add_eq];exact css ((cso (.inr (by omega))).trans h.c1)
 ·exact(cso (.inl h.nw.symm)).trans ((cso (.inl h.nw.symm)).trans (h.wd i hi))
 ·exact(cso (.inl h.na.symm)).trans ((cso (.inl h.na.symm)).trans (h.pt i hi))
end
theorem q3z{ws:List Wd}{q:Nat}(h:q<ws.length):ws.getD q []=ws[q]:=by simp[h]
theorem q6y{ws:List Wd}{q:Nat}(h:ws.length<=q):ws.getD q []=[]:=by simp[h]
theorem q6t{K:LwK}{ws:List Wd}{pl:Nat->Nat}{b q:Nat}{w:World}(h:Ry K ws pl b q w):
  Calls prog 79 #[.pointer b] w fun e w'=>e=.returned (.string (wbS (ws.getD q [])))/\w'=w:=by
 have A:=h.c0;have B:=h.wd q h.le;generalize wbS (ws.getD q [])=S at B⊢;have C:0<ws.length+1-q:=by have:=h.le;omega
 generalize ws.length+1-q=n at A C;generalize K.cw-q=c at A;clear h;go_in;go_wp2;go_ret;exact⟨rfl,rfl⟩
theorem v8g(b o n c:Nat)(hn:1<=n)(hc:1<c)(W:World):
  (Instr.slice 51 (.slice (some ↑(b,o)) n c) (some (.int .i64 1)) none none).run prog W=.ok (.slice (some ↑(b,o+1)) (n-1) (c-1)) W:=by
 rw[run_slice_l W 51 _ n c Tryz.underlying51 .i64 1 (by omega) (by omega)];have C:(sizeOf (prog.elem 51)).run prog W=.ok 1 W:=by kernel_rfl
 rw[C];have B:((b,o):Addr).add 1=(b,o+1):=rfl;have A:¬c=1:=by omega
 simp[Result.andThen,sliced,B,A]
theorem v6a(b o n c:Nat)(hn:1<=n)(hc:1<c)(W:World):
  (Instr.slice 63 (.slice (some ↑(b,o)) n c) (some (.int .i64 1)) none none).run prog W=.ok (.slice (some ↑(b,o+1)) (n-1) (c-1)) W:=by
 rw[run_slice_l W 63 _ n c Tryz.underlying63 .i64 1 (by omega) (by omega)];have C:(sizeOf (prog.elem 63)).run prog W=.ok 1 W:=by kernel_rfl
 rw[C];have B:((b,o):Addr).add 1=(b,o+1):=rfl;have A:¬c=1:=by omega
 simp[Result.andThen,sliced,B,A]
theorem q8r{K:LwK}{ws:List Wd}{pl:Nat->Nat}{b q:Nat}{w:World}(h:Ry K ws pl b q w)(hq:q<ws.length):
  Calls prog 145 #[.pointer b] w fun e w'=>e=.returned (.string (wbS ws[q]))/\Ry K ws pl b (q+1) w'/\But w b w w':=by
 have G:=h.c0;have I:=h.c1;have J:=h.wd q h.le;rw[q3z hq]at J;have P:w.frozen? b=false:=h.row.frozen;have Q:w.frozen? (b,1)=false:=h.row.frozen;have H:=hid h;have O:=h.lw;have N:=h.la;generalize wbS ws[q]=S at J⊢;have D:Hid (ws.length+1-q-1=ws.length-q):=(show _=_ by omega);have E:1<=ws.length+1-q:=by omega
 have B:=v8g K.gw q (ws.length+1-q) (K.cw-q) E (by omega);have C:=v6a K.ga q (ws.length+1-q) (K.ca-q) E (by omega);rw[D.o]at B C;generalize ws.length+1-q=n at G I B C E
 have A:Hid (∀w',w'=(w.setCell b (.slice (some ↑(K.gw,q+1)) (ws.length-q) (K.cw-q-1))).setCell (b,1) (.slice (some ↑(K.ga,q+1)) (ws.length-q) (K.ca-q-1))->Ry K ws pl b (q+1) w'/\But w b w w'):=fun w' hw=>⟨H.o.step hq hw,by
  subst hw
  exact((But.refl _ _ _).setCell (p:=b) (.inl rfl) _).setCell (p:=(b,1)) (.inl rfl) _⟩
 generalize ws.length-q=m at B C A;generalize K.cw-q=cw at G B A;generalize K.ca-q=ca at I C A;clear h O N hq;go_in;go_wp2_with fail
 go_region
 go_wp2;go_ret;obtain⟨L,M⟩:=A.o _ rfl;exact⟨rfl,L.keep (Below.drew Zb),M.drew⟩
abbrev q5w(k:Nat):PanicEntry:={v:=.iface 156 (.agg #[.int .i64 (k:Int)]),recovered:=false}
theorem k4u{K:LwK}{ws:List Wd}{pl:Nat->Nat}{b q:Nat}{w:World}(h:Ry K ws pl b q w):
  Calls prog 147 #[.pointer b] w fun e w'=>e=.panicked [q5w (pl q)]/\w'=w:=by
 have A:=h.c1;have C:=h.pt q h.le;have B:0<ws.length+1-q:=by have:=h.le;omega
 generalize ws.length+1-q=n at A B;generalize K.ca-q=c at A;clear h;go_in;go_wp2;exact⟨rfl,rfl,rfl⟩
theorem z6f(s:Wd)(lo hi:Nat)(w:World)(h1:1<=lo):
  Calls prog 177 #[.string (wbS s),.int .u8 (lo:Int),.int .u8 (hi:Int)] w fun e w'=>e=.returned (.bool (decide (lo<=(s.headD 0).toNat)&&decide ((s.headD 0).toNat<=hi)))/\w'=w:=by
 cases s with
 | nil=>
  have N:(decide (lo<=(([]:Wd).headD 0).toNat)&&decide ((([]:Wd).headD 0).toNat<=hi))=false:=by
   have:¬lo<=(([]:Wd).headD 0).toNat:=by show ¬lo<=0;omega
   simp only[decide_eq_false this,Bool.false_and]
  rw[N];have K:wbS []=⟨#[]⟩:=rfl;rw[K];go_in;go_wp2;go_ret;exact⟨rfl,rfl⟩
 | cons c r=>
  have D:0<(wbS (c::r)).size:=by rw[<-q0c];show 0<(c::r).length;simp
  have B:∀h:0<(wbS (c::r)).size,(wbS (c::r))[0]=c:=fun _=>rfl
  have H:¬(wbS (c::r)).toList=[]:=by rw[Lib.toList_data];show ¬(c::r)=[];simp
  have C:((wbS (c::r)).toList==[])=false:=by rw[Lib.toList_data];rfl
  have O:(⟨#[]⟩:ByteArray).toList=[]:=by rw[Lib.toList_data]
  show Calls _ _ _ _ fun e w'=>e=.returned (.bool (decide (lo<=c.toNat)&&decide (c.toNat<=hi)))/\w'=w
  have E:Hid (∀(a b:Bool),a=decide ((lo:Int)<=(c.toNat:Int))->b=decide ((c.toNat:Int)<=(hi:Int))->(decide (lo<=c.toNat)&&decide (c.toNat<=hi))=(a&&b)):=fun a b ha hb=>by
   subst ha hb;have L:decide ((lo:Int)<=(c.toNat:Int))=decide (lo<=c.toNat):=by congr 1;simp
   have M:decide ((c.toNat:Int)<=(hi:Int))=decide (c.toNat<=hi):=by congr 1;simp
   rw[L,M]
  generalize(decide (lo<=c.toNat)&&decide (c.toNat<=hi))=R at E⊢
  generalize wbS (c::r)=S at D B H C⊢;have J:=B D;by_cases G:(lo:Int)<=(c.toNat:Int)
  ·by_cases I:(c.toNat:Int)<=(hi:Int)
   ·have A:=E.o true true (decide_eq_true G).symm (decide_eq_true I).symm;simp only[Bool.and_self]at A;subst A;go_in;go_wp2;go_ret;exact⟨rfl,rfl⟩
   ·have A:=E.o true false (decide_eq_true G).symm (decide_eq_false I).symm;simp only[Bool.and_false]at A;subst A;go_in;go_wp2;go_ret;exact⟨rfl,rfl⟩
  ·have A:=E.o false (decide ((c.toNat:Int)<=(hi:Int))) (decide_eq_false G).symm rfl;simp only[Bool.false_and]at A;subst A;go_in;go_wp2;go_ret;exact⟨rfl,rfl⟩
theorem j3w(s:Wd)(w:World):Calls prog 209 #[.string (wbS s)] w fun e w'=>e=.returned (.bool (z0d s))/\w'=w:=by
 have A:Hid (∀W,Cp 177 #[.string (wbS s),.int .u8 48,.int .u8 57] W fun e w'=>e=.returned (.bool (z0d s))/\w'=W):=fun W=>z6f s 48 57 W (by omega)
 generalize z0d s=R at A⊢;go_in;go_wp2_with fail;refine(A.o _).mono ?_;rintro e B⟨rfl,rfl⟩;go_wp2;go_ret;exact⟨rfl,rfl⟩
theorem y8o:nmW q9n=false:=by decide
theorem k7q(s:Wd)(hs:s=[]\/q3l s)(w:World):Calls prog 146 #[.string (wbS s)] w fun e w'=>e=.returned (.bool (nmW s))/\w'=w:=by
 by_cases C:s=q9n
 ·subst C;rw[y8o];have E:wbS q9n=⟨#[108,101,116]⟩:=rfl;rw[E];go_in;go_wp2;go_ret;exact⟨rfl,rfl⟩
 ·have H:nmW s=q2a (s.headD 0):=by
   rcases hs with rfl|hs
   ·decide
   ·rw[v8t hs];simp[C]
  rw[H];have B:Hid (∀W,Cp 177 #[.string (wbS s),.int .u8 97,.int .u8 122] W fun e w'=>e=.returned (.bool (q2a (s.headD 0)))/\w'=W):=fun W=>z6f s 97 122 W (by omega)
  have A:((wbS s).toList==[108,101,116])=false:=by
   rw[Lib.toList_data]
   show(s==[108,101,116])=false
   simpa using C
  have D:¬(wbS s).toList=[108,101,116]:=by
   intro e;rw[e]at A;cases A
  have G:(⟨#[108,101,116]⟩:ByteArray).toList=[108,101,116]:=by rw[Lib.toList_data]
  generalize q2a (s.headD 0)=R at B⊢;generalize wbS s=S at B D A⊢;go_in;go_wp2_with fail;refine(B.o _).mono ?_;rintro e I⟨rfl,rfl⟩;go_wp2;go_ret;exact⟨rfl,rfl⟩
theorem z6h(s:Wd)(w:World):Calls prog 104 #[.string (wbS s)] w fun e w'=>e=.returned (.bool (decide (s.headD 0=35)))/\w'=w:=by
 have A:Hid (∀W,Cp 144 #[.string (wbS s),.string ⟨#[35]⟩] W fun e w'=>e=.returned (.bool (decide (s.headD 0=35)))/\w'=W):=fun W=>by
  have h:=hasPrefix_sh (wbS s) ⟨#[35]⟩ W
  have B:Lib.hasPrefix (wbS s).data.toList (⟨#[35]⟩:ByteArray).data.toList=decide (s.headD 0=35):=by
   show Lib.hasPrefix s [35]=_;cases s with
   | nil=>decide
   | cons c r=>
    show([35]:Wd).isPrefixOf (c::r)=decide (c=35)
    simp only[List.isPrefixOf,Bool.and_true];rw[Bool.eq_iff_iff,beq_iff_eq,decide_eq_true_eq];exact⟨Eq.symm,Eq.symm⟩
  rw[B]at h;exact h
 generalize decide (s.headD 0=35)=R at A⊢;go_in;go_wp2_with fail;refine(A.o _).mono ?_;rintro e C⟨rfl,rfl⟩;go_wp2;go_ret;exact⟨rfl,rfl⟩
section
variable {K:LwK} {ws:List Wd} {pl:Nat→Nat} {b q:Nat} {w:World}
theorem y9x(a c:Wd):((wbS a).toList==(wbS c).toList)=(a==c):=by
 rw[Lib.toList_data,Lib.toList_data];rfl
theorem q7q(h:Ry K ws pl b q w)(s:Wd)(hs:ws[q]?=some s):
  Calls prog 106 #[.pointer b,.string (wbS s)] w fun e w'=>e=.returned (.bool true)/\Ry K ws pl b (q+1) w'/\But w b w w':=by
 obtain⟨C,B⟩:=List.getElem?_eq_some_iff.1 hs
 have E:Hid (Cp 79 #[.pointer b] w fun e w'=>e=.returned (.string (wbS s))/\w'=w):=by
  have A:=q6t h;rw[q3z C,B]at A;exact A
 have D:Hid (Cp 145 #[.pointer b] w fun e w'=>e=.returned (.string (wbS s))/\Ry K ws pl b (q+1) w'/\But w b w w'):=by
  have A:=q8r h C;rw[B]at A;exact A
 have J:((wbS s).toList==(wbS s).toList)=true:=by simp
 generalize wbS s=S at E D J⊢;clear h hs C B;go_in;go_wp2_with fail;refine E.o.mono ?_;rintro e L⟨rfl,rfl⟩;go_wp2_with fail;refine D.o.mono ?_;rintro e M⟨rfl,H,G⟩;have I:=hid (And.intro H G);clear H G;go_wp2;go_ret;exact⟨rfl,I.o⟩
theorem q8q(h:Ry K ws pl b q w)(s:Wd)(h0:s≠[])(hs:ws[q]?≠some s):
  Calls prog 106 #[.pointer b,.string (wbS s)] w fun e w'=>e=.returned (.bool false)/\w'=w:=by
 have C:Hid (Cp 79 #[.pointer b] w fun e w'=>e=.returned (.string (wbS (ws.getD q [])))/\w'=w):=q6t h
 have B:((wbS (ws.getD q [])).toList==(wbS s).toList)=false:=by
  rw[y9x];by_cases D:q<ws.length
  ·rw[q3z D];rw[List.getElem?_eq_getElem D]at hs;simpa using hs
  ·rw[q6y (by omega)];cases s with
   | nil=>exact absurd rfl h0
   | cons=>rfl
 have A:¬(wbS (ws.getD q [])).toList=(wbS s).toList:=by
  intro e;rw[e]at B;simp at B
 generalize wbS (ws.getD q [])=X at C B A;generalize wbS s=S at B A⊢;clear h hs h0;go_in;go_wp2_with fail;refine C.o.mono ?_;rintro e E⟨rfl,rfl⟩;go_wp2;go_ret;exact⟨rfl,rfl⟩
theorem q6s(h:Ry K ws pl b q w)(s:Wd)(hs:ws[q]?=some s):
  Calls prog 108 #[.pointer b,.string (wbS s)] w fun e w'=>e=.returned (.tuple #[])/\Ry K ws pl b (q+1) w'/\But w b w w':=by
 have A:Hid (Cp 106 #[.pointer b,.string (wbS s)] w fun e w'=>e=.returned (.bool true)/\Ry K ws pl b (q+1) w'/\But w b w w'):=q7q h s hs;generalize wbS s=S at A⊢;clear h hs;go_in;go_wp2_with fail;refine A.o.mono ?_;rintro e E⟨rfl,C,B⟩;have D:=hid (And.intro C B);clear C B;go_wp2
 go_end0
 exact⟨rfl,D.o⟩
theorem q7r(h:Ry K ws pl b q w)(s:Wd)(h0:s≠[])(hs:ws[q]?≠some s):
  Calls prog 108 #[.pointer b,.string (wbS s)] w fun e w'=>e=.panicked [q5w (pl q)]/\w'=w:=by
 have A:Hid (Cp 106 #[.pointer b,.string (wbS s)] w fun e w'=>e=.returned (.bool false)/\w'=w):=q8q h s h0 hs;have B:Hid (Cp 147 #[.pointer b] w fun e w'=>e=.panicked [q5w (pl q)]/\w'=w):=k4u h;generalize wbS s=S at A⊢;clear h hs h0;go_in;go_wp2_with fail;refine A.o.mono ?_;rintro e C⟨rfl,rfl⟩;go_wp2_with fail;refine B.o.mono ?_;rintro e C⟨rfl,rfl⟩;go_wp2;exact⟨rfl,rfl,rfl⟩
end
set_option maxHeartbeats 4000000
theorem v3y(n:Nat)(h1:0<n)(hn:n<=1000000)(w:World):
  Calls prog 208 #[.slice none 0 0,(n:Int)] w fun e w'=>∃c,e=.returned (.slice w.heap.size 0 c)/\q1b w (.slice w.heap.size 0 c) [] w'/\Below w w w':=by
 obtain⟨J,M,E,I,C⟩:=info_parts v2j
 have B:∀ty,(Builtin.append_ #[59,3] ty #[.slice none 0 0,(n:Int)]).run prog w=
   .ok (.slice w.heap.size n (grownCap w n 0 71)) (w.drew.alloc (.cells (#[]++Builtin.zeroCells (Value.agg #[.int .i64 0,.string ⟨#[]⟩,.int .i64 0]).cells n++Builtin.zeroCells (Value.agg #[.int .i64 0,.string ⟨#[]⟩,.int .i64 0]).cells (grownCap w n 0 71-n)) 71)):=fun ty=>by
  have D:(Builtin.firstCells J.size 0 (.slice none 0 0)).run prog w.drew=.ok ([]:List Value).toArray w.drew:=run_firstCells_none w.drew J.size 0 0 0;have h:=Lib.run_append_grow_zeros w 59 3 ty 71 J _ .i64 .i64 Tryz.underlying59 Tryz.underlying3 M E none 0 0 [] D n h1 (by omega) (by omega) (by omega) (by rw[C];omega) (growslice_fits (by omega) (by rw[C];omega));simp only[Nat.zero_add]at h;exact h
 have H:n<=grownCap w n 0 71:=grownCap_ge w _ _ _;have A:=grownCap_le_maxLen w n 0 71 (by unfold maxLen;omega);generalize grownCap w n 0 71=G at B H A;have L:G<=9223372036854775807:=by unfold maxLen at A;omega
 have K:Hid (q1b w (.slice w.heap.size 0 G) [] (w.drew.alloc (.cells (#[]++Builtin.zeroCells (Value.agg #[.int .i64 0,.string ⟨#[]⟩,.int .i64 0]).cells n++Builtin.zeroCells (Value.agg #[.int .i64 0,.string ⟨#[]⟩,.int .i64 0]).cells (G-n)) 71))):=by
  refine⟨rfl,.inr ⟨w.heap.size,G,_,rfl,le_refl _,heap_alloc_new w.drew _,zero_le _,A,?_,rfl⟩⟩;simp only[Array.size_append,size_zeroCells,Array.size_empty];show 0+n*3+(G-n)*3=G*3;omega
 have N:(0:Int)<(n:Int):=by omega
 generalize(#[]++Builtin.zeroCells (Value.agg #[.int .i64 0,.string ⟨#[]⟩,.int .i64 0]).cells n++Builtin.zeroCells (Value.agg #[.int .i64 0,.string ⟨#[]⟩,.int .i64 0]).cells (G-n))=Z at B K
 clear M E I C A;go_in;go_wp2_with(at_builtin;refine Lib.wpList_append_run _ rfl _ _ _ _ rfl _ _ rfl rfl _ _ (B _) ?_);go_ret;exact⟨G,rfl,K.o,Below.drew (Zb.alloc Zl _)⟩
def y6y(w:World)(a:Option Addr)(ps:List (List Td)):Prop:=
 ∀i(h:i<ps.length),∃b o a' c',a=some ⟨b,o,none⟩/\b<w.heap.size/\w.cell? ⟨b,o+i,none⟩=some (.slice a' ps[i].length c')/\ps[i].length<=c'/\Tds w a' ps[i]/\(a'=none->ps[i].length=0/\c'=0)
theorem y6y.W{w w':World}{a:Option Addr}{ps:List (List Td)}(h:y6y w a ps)(hb:Below w w w'):y6y w' a ps:=by
 intro i I;obtain⟨b,o,B,C,e,A,D,E,G,H⟩:=h i I;exact⟨b,o,B,C,e,Nat.lt_of_lt_of_le A hb.size,(hb.cell (p:=⟨b,_,none⟩) A).trans D,E,G.W hb,H⟩
theorem k2h{ps:List (List Td)}{i:Nat}(h:i<ps.length):(ps.take (i+1)).flatten=(ps.take i).flatten++ps[i]:=by
 rw[List.take_succ_eq_append_getElem h,List.flatten_append];simp
theorem z9k(ps:List (List Td))(i:Nat):(ps.take i).flatten.length<=ps.flatten.length:=by
 have h:ps.flatten=(ps.take i).flatten++(ps.drop i).flatten:=by rw[<-List.flatten_append,take_append_drop]
 rw[h,length_append];omega
structure g1e(w:World)(ps:List (List Td))(i:Nat)(v:Value)(wr:World):Prop where
 le:i<=ps.length
 o:q1b w v (ps.take i).flatten wr
 b:Below w w wr
theorem k7p(ps:List (List Td))(a:Option Addr)(c:Nat)(w:World)(hP:y6y w a ps)(h0:0<ps.flatten.length)(hl:ps.flatten.length<=900000)(hp:ps.length<=10):
  Calls prog 178 #[.slice a ps.length c] w fun e w'=>∃A c',e=.returned (.slice A ps.flatten.length c')/\q1b w (.slice A ps.flatten.length c') ps.flatten w'/\Below w w w':=by
 have u:=hid hP;have r:=hid (v3y ps.flatten.length h0 (by omega) w);clear hP;generalize hN:ps.flatten.length=N at r h0 hl⊢;have P:=hid hN;clear hN;go_in;go_wp2_with fail
 go_loopw [3,11] (fun s x wr=>w=wr/\∃i:Nat,i<=ps.length/\x=(i:Int)/\s=((ps.take i).flatten.length:Int)) (fun _ x _=>ps.length-(intOf x).toNat)
 case atStart=>exact⟨rfl,0,zero_le _,rfl,rfl⟩
 case round=>
  obtain⟨rfl,i,hi,rfl,rfl⟩:=hrel;by_cases C:i<ps.length
  ·have K:(i:Int)<(ps.length:Int):=by omega
   obtain⟨b0,o0,p,z,rfl,j,h,_,_,_⟩:=u.o i C;have B:=congrArg length (k2h C);rw[length_append]at B;have E:=z9k ps (i+1);rw[P.o]at E;have M:=(show Hid (_=_)from B);have V:(ps.take i).flatten.length+ps[i].length<=900000:=by omega
   clear B E;generalize ps[i].length=pn at M h V
   generalize(ps.take i).flatten.length=sn at M V⊢
   have Aa:¬(sn:Int)+(pn:Int)<0:=by omega
   go_wp2;refine⟨⟨trivial,i+1,C,by go_num,?_⟩,?_⟩
   ·rw[M.o];go_num
   ·simp[intOf];omega
  ·have K:¬(i:Int)<(ps.length:Int):=by omega
   have G:(ps.take i).flatten.length=N:=by rw[List.take_of_length_le (by omega)];exact P.o
   rw[G];clear G;go_wp2_with fail;refine r.o.mono ?_;rintro e w1⟨c1,rfl,S,y⟩;have d:Hid (g1e w ps 0 (.slice w.heap.size 0 c1) w1):=⟨zero_le _,S,y⟩;clear S y;go_wp2_with fail
   go_loopw [6,27] (fun v x w'=>∃(i:Nat)(A:Option Addr)(n c:Nat),x=(i:Int)/\v=.slice A n c/\n=(ps.take i).flatten.length/\g1e w ps i (.slice A n c) w') (fun _ x _=>ps.length-(intOf x).toNat)
   case atStart=>exact⟨0,_,_,_,rfl,rfl,rfl,d.o⟩
   case round=>
    obtain⟨i,A,n,c2,rfl,rfl,L,O⟩:=hrel;have E:=z9k ps i;rw[P.o,<-L]at E;by_cases C:i<ps.length
    ·have K:(i:Int)<(ps.length:Int):=by omega
     obtain⟨b0,o0,p,z,rfl,j,h,_,hT,J⟩:=u.o.W O.b i C;have B:=k2h C;have I:=z9k ps (i+1);rw[B,length_append,P.o,<-L]at I;have M:=(show Hid (_=_)from B);have Y:=hid O.o;have Z:=hid O.b;have X:=O.b.size;have HT:=hid hT;have Q:=hid J;have t:=hid L.symm;have f:Hid (∃m,ps[i].length=m):=⟨_,rfl⟩;generalize U:ps[i].length=pn at h I Q;have R:=hid U;clear B hT J L O U f E;go_wp2_with(at_builtin;refine q4l rfl _ _ rfl w.heap.size _ (ps.take i).flatten rfl Y.o p pn ps[i] R.o z rfl HT.o Q.o (n+pn) (by rw[t.o]) (by omega) X ?_);intro q c3 w3 H D
     have g:Hid (g1e w ps (i+1) (.slice q (n+pn) c3) w3):=by
      refine⟨C,?_,Z.o.grown D X (fun k hk=>(World.ownsRow.lt Y.o k hk).1)⟩;rw[M.o];exact H
     clear H D;go_wp2;refine⟨⟨i+1,q,n+pn,c3,by go_num,rfl,?_,g.o⟩,?_⟩
     ·rw[M.o,length_append,t.o,R.o]
     ·simp[intOf];omega
    ·have K:¬(i:Int)<(ps.length:Int):=by omega
     have G:ps.take i=ps:=List.take_of_length_le (by omega);obtain⟨_,l,hb⟩:=O;rw[G]at l L;rw[P.o]at L;subst L;have Y:=hid l;have Z:=hid hb;clear l hb G;go_wp2;go_ret;exact⟨A,c2,rfl,Y.o,Z.o⟩
set_option maxHeartbeats 16000000
theorem q0h{ws:List Wd}{p:Nat}:(ws.drop p).length=ws.length-p:=length_drop
theorem q2l(ws:List Wd)(p:Nat):(ws.drop p).head?=ws[p]?:=List.head?_drop
theorem q7h{ws:List Wd}{p:Nat}{r:List Wd}(h:r <:+ ws.drop p):ws.drop (ws.length-r.length)=r:=by
 obtain⟨t,A⟩:=h.trans (List.drop_suffix p ws);have B:=congrArg length A;rw[length_append]at B;have e:ws.length-r.length=t.length:=by omega
 rw[e,<-A,List.drop_left]
structure v4f(K:LwK)(ws:List Wd)(pl:Nat->Nat)(b:Nat)(j:Job)(p:Nat)(w:World)(m:Nat)(ns:List Td)(u:List Wd)(v:Value)(w':World):Prop where
 pr:PR j (ws.drop p) (.ok m ns u)
 o:q1b w v ns w'
 n:ns.length+u.length<=(ws.drop p).length
 rd:Ry K ws pl b (ws.length-u.length) w'
 bt:But w b w w'
inductive q4z (K:LwK) (ws:List Wd) (pl:Nat->Nat) (b:Nat) (j:Job) (p:Nat) (w:World):Ending->World->Prop where
 | ok {m ns u A c w'} (h:v4f K ws pl b j p w m ns u (.slice A ns.length c) w'):q4z K ws pl b j p w (.returned (.slice A ns.length c)) w'
 | bad {u w'} (pr:PR j (ws.drop p) (.bad u)) (bt:But w b w w'):q4z K ws pl b j p w (.panicked [q5w (pl (ws.length-u.length))]) w'
abbrev v4h(K:LwK)(ws:List Wd)(pl:Nat->Nat)(b p:Nat):Prop:=∀w:World,Ry K ws pl b p w->Calls prog 109 #[.pointer (some ⟨b,0,none⟩)] w fun e w'=>q4z K ws pl b (.level 0) p w e w'
abbrev y7c(K:LwK)(ws:List Wd)(pl:Nat->Nat)(b p:Nat):Prop:=∀w:World,Ry K ws pl b p w->Calls prog 149 #[.pointer (some ⟨b,0,none⟩)] w fun e w'=>q4z K ws pl b (.level 1) p w e w'
abbrev y6j(K:LwK)(ws:List Wd)(pl:Nat->Nat)(b p:Nat):Prop:=∀w:World,Ry K ws pl b p w->Calls prog 179 #[.pointer (some ⟨b,0,none⟩)] w fun e w'=>q4z K ws pl b (.level 2) p w e w'
def j2w(w:World)(b:Nat):Nat:=match w.cell? ⟨b,0,none⟩with
 | some (.slice _ n _)=>n
 | _=>0
section
variable {K:LwK} {ws:List Wd} {pl:Nat→Nat} {b q p:Nat} {w w':World}
theorem Ry.len_eq(h:Ry K ws pl b q w):j2w w b=ws.length+1-q:=by
 unfold j2w;rw[h.c0]
theorem q1b.but2{B:Nat}{v:Value}{xs:List Td}(h:q1b B v xs w)(hb:But w b w w')(hB:b<B):q1b B v xs w':=h.kept fun g _ h2=>hb.block g h2 (by omega)
structure j0v(K:LwK)(ws:List Wd)(pl:Nat->Nat)(b k p:Nat)(w:World)(q:Nat)(acc:List Td)(v:Value)(wr:World):Prop where
 lt:p<q
 n:acc.length+(ws.length-q)<=ws.length-p
 o:q1b w v acc wr
 rd:Ry K ws pl b q wr
 bt:But w b w wr
 ok:∀r,PR (.loop k acc) (ws.drop q) r->PR (.level k) (ws.drop p) r
theorem v6t{k m:Nat}{ns:List Td}{u:List Wd}{v:Value}{w1:World}(hk:k<2)(h:v4f K ws pl b (.level (k+1)) p w m ns u v w1):j0v K ws pl b k p w (ws.length-u.length) ns v w1:=by
 have A:=q5o h.pr;have C:ws.drop (ws.length-u.length)=u:=q7h A.1;have D:=h.n;have B:=A.2 m ns u rfl;rw[q0h]at B D;simp only[Job.eats]at B;exact⟨by omega,by omega,h.o,h.rd,h.bt,fun r hr=>by rw[C]at hr;exact .levO hk h.pr hr⟩
theorem y4q{k q m:Nat}{A ns:List Td}{u:List Wd}{v v4 v5:Value}{wr w3 w4 w5:World}(hV:j0v K ws pl b k p w q A v wr)(hq:q<ws.length)(hd:ws.drop q=sgn k::ws.drop (q+1))(C:But w b w w3)(E:w.heap.size<=w3.heap.size)
  (hG:v4f K ws pl b (.level (k+1)) (q+1) w3 m ns u v4 w4) (b5:Below w4 w4 w5) (ho:q1b w v5 (sgT k::(A++ns)) w5):
  j0v K ws pl b k p w (ws.length-u.length) (sgT k::(A++ns)) v5 w5/\q<ws.length-u.length:=by
 have B:=q5o hG.pr;have H:ws.drop (ws.length-u.length)=u:=q7h B.1;have L:=hG.n;have G:=B.2 m ns u rfl;rw[q0h]at L G;simp only[Job.eats]at G;have I:=hV.n;have J:=hV.lt;have D:(sgT k::(A++ns)).length=1+A.length+ns.length:=by simp;omega
 have M:=hG.bt.size;exact⟨⟨by omega,by rw[D];omega,ho,hG.rd.keep b5,(C.trans (hG.bt.mono E)).trans (But.of (b5.mono (by omega))),fun r hr=>by rw[H]at hr;exact hV.ok _ (by rw[hd];exact .lopO hG.pr hr)⟩,by omega⟩
end
theorem z8g(k F:Nat)(s:UInt8)(o:Int)(hk:k=0/\F=149/\s=43/\o=5\/k=1/\F=179/\s=42/\o=6){K:LwK}{ws:List Wd}{pl:Nat->Nat}{b p:Nat}(hL:∀q,p<=q->q<=ws.length->∀w:World,Ry K ws pl b q w->Calls prog F #[.pointer b] w fun e w'=>q4z K ws pl b (.level (k+1)) q w e w')(w:World)(h:Ry K ws pl b p w):
  Calls prog 148 #[.pointer b,.string ⟨#[s]⟩,o,.func (.func F) #[.pointer b] #[]] w fun e w'=>q4z K ws pl b (.level k) p w e w':=by
 have C:Tag k:=.mk;rcases hk with⟨rfl,rfl,rfl,rfl⟩|⟨rfl,rfl,rfl,rfl⟩
 all_goals
  have HL:=hid hL;have Aa:Hid (Calls prog ↑(q5t C 149 179) #[.pointer b] w fun e w'=>q4z K ws pl b (.level (↑(q5t C 0 1)+1)) p w e w'):=hL p Zl h.le w h;have r:b<w.heap.size:=h.row.lt;have Ay:=h.le;have Av:=h.few;go_in;go_wp2_with fail;refine Aa.o.mono ?_;intro e w1 hG;cases hG with
  | bad pr bt=>
   have HB:Hid (q4z K ws pl b (.level ↑(q5t C 0 1)) p w (.panicked [q5w (pl (ws.length-_))]) w1):=.bad (.levB (by omega) pr) bt;go_wp2;exact⟨rfl,HB.o⟩
  | @ok m ns u A c _ hg=>
   have j:Hid (j0v K ws pl b ↑(q5t C 0 1) p w (ws.length-u.length) ns (.slice A ns.length c) w1):=v6t (by omega) hg;generalize Am:ns.length=nl at j;have Ac:Hid (ns.length=nl):=Am;go_wp2_with fail
   go_loopw [9] (fun x wr=>∃(q:Nat)(B:List Td)(A':Option Addr)(n' c':Nat),x=.slice A' n' c'/\B.length=n'/\j0v K ws pl b ↑(q5t C 0 1) p w q B (.slice A' n' c') wr) (fun _ wr=>j2w wr b)
   case atStart=>exact⟨_,ns,A,nl,c,rfl,Ac.o,j.o⟩
   case round=>
    obtain⟨q,B,P,I,R,rfl,l,H⟩:=hrel;have Q:=hid H;have L:Hid (B.length=I):=l;have Aw:=H.rd.le;have hn:=H.n;have Au:=H.bt.size;rw[l]at hn;by_cases N:ws[q]?=some (sgn ↑(q5t C 0 1))
    ·obtain⟨O,Aq⟩:=List.getElem?_eq_some_iff.1 N
     have a:Hid (ws.drop q=sgn ↑(q5t C 0 1)::ws.drop (q+1)):=by
      show _=_;rw[drop_eq_getElem_cons O,Aq]
     have HH:Hid (Cp 106 #[.pointer b,.string ⟨#[↑(sel C (43:UInt8) 42)]⟩] wr fun e w'=>e=.returned (.bool true)/\Ry K ws pl b (q+1) w'/\But wr b wr w'):=q7q H.rd (sgn ↑(q5t C 0 1)) N;go_wp2_with fail;refine HH.o.mono ?_;rintro e E⟨rfl,h2,b2⟩;have X:Hid (But wr b wr E):=b2;have Az:=b2.size;have Ai:b<E.heap.size:=h2.row.lt
     have Af:Hid (∃J,E.alloc (.cells #[.int .i64 ↑(sel C (5:Int) 6),.string ⟨#[]⟩,.int .i64 0] 71)=J/\Calls prog ↑(q5t C 149 179) #[.pointer b] J (fun e w'=>q4z K ws pl b (.level (↑(q5t C 0 1)+1)) (q+1) J e w')/\q1b E (.slice E.heap.size 1 1) [sgT ↑(q5t C 0 1)] J/\q1b w (.slice P I R) B J/\But w b w J/\J.heap.size=E.heap.size+1):=by
      refine⟨_,rfl,HL.o (q+1) (by have:=Q.o.lt;omega) (by omega) _ (h2.keep (q1w E _)),q1b.one E (sgT ↑(q5t C 0 1)),?_,(Q.o.bt.trans (X.o.mono Au)).alloc (by omega) _,World.size_alloc ..⟩;have ho:=Q.o.o.but2 X.o r;exact ho.kept fun g _ h5=>Lib.alloc_old E _ g h5
     go_wp2_with fail;obtain⟨J,At,t,As,An,Ak,Ax⟩:=Af.o;rw[At];have Ag:Hid (q1b E (.slice E.heap.size 1 1) [sgT ↑(q5t C 0 1)] J):=As;have Ad:Hid (q1b w (.slice P I R) B J):=An;have Y:Hid (But w b w J):=Ak;refine t.mono ?_;intro e D hG;cases hG with
     | @bad u4 _ pr bt=>
      have HB:Hid (q4z K ws pl b (.level ↑(q5t C 0 1)) p w (.panicked [q5w (pl (ws.length-u4.length))]) D):=.bad (Q.o.ok _ (by rw[a.o];exact .lopB pr)) (Y.o.trans (bt.mono (by omega)));go_wp2;exact⟨rfl,HB.o⟩
     | @ok m4 ns4 u4 A4 c4 _ hg=>
      have HG:=hid hg;have A0:=hg.bt.size;have Al:=hg.n;rw[q0h]at Al;have Ah:Hid (q1b E (.slice E.heap.size 1 1) [sgT ↑(q5t C 0 1)] D):=Ag.o.but2 hg.bt Ai;have f:Hid (q1b w (.slice P I R) B D):=Ad.o.but2 hg.bt r
      have Ae:Hid (∀W,Below D D W->W.heap[D.heap.size]?=some (.cells #[.slice E.heap.size 1 1,.slice P I R,.slice A4 ns4.length c4] 59 (0,0))->y6y W D.heap.size [[sgT ↑(q5t C 0 1)],B,ns4]):=by
       intro W S hk;have V:D.heap.size<W.heap.size:=(Array.getElem?_eq_some_iff.1 hk).1;have G:∀i,W.cell? ⟨D,i,none⟩=#[Value.slice (some ⟨E,0,none⟩) 1 1,.slice P I R,.slice A4 ns4.length c4][i]?:=fun i=>by simp[World.cell?,hk]
       intro i hi;have h3:i=0\/i=1\/i=2:=by simp at hi;omega
       have e1:=k6x f.o;have e2:=k6x HG.o.o;rcases h3 with rfl|rfl|rfl
       ·exact⟨D.heap.size,0,some ↑E.heap.size,1,rfl,V,G 0,le_refl _,Ah.o.tds.W S,fun e=>by cases e⟩
       ·exact⟨D.heap.size,0,P,R,rfl,V,by rw[show(([[sgT ↑(q5t C 0 1)],B,ns4]:List (List Td))[1]).length=I from L.o];exact G 1,e1.2.1,e1.2.2.W S,fun e=>by
         have:=f.o.none.2 e
         exact⟨by show B.length=0;rw[L.o];exact this.1,this.2⟩⟩
       ·exact⟨D.heap.size,0,A4,c4,rfl,V,G 2,e2.2.1,e2.2.2.W S,fun e=>HG.o.o.none.2 e⟩
      have U:[[sgT ↑(q5t C 0 1)],B,ns4].flatten=sgT ↑(q5t C 0 1)::(B++ns4):=by simp
      have M:(sgT ↑(q5t C 0 1)::(B++ns4)).length=1+I+ns4.length:=by rw[length_cons,length_append,L.o];omega
      have Z:Hid (∀W,Below D D W->W.heap[D.heap.size]?=some (.cells #[.slice E.heap.size 1 1,.slice P I R,.slice A4 ns4.length c4] 59 (0,0))->Cp 178 #[.slice D.heap.size 3 3] W fun e w'=>∃A c',e=.returned (.slice A (1+I+ns4.length) c')/\j0v K ws pl b ↑(q5t C 0 1) p w (ws.length-u4.length) (sgT ↑(q5t C 0 1)::(B++ns4)) (.slice A (1+I+ns4.length) c') w'/\q<ws.length-u4.length):=by
       intro W S hk;have h9:=k7p [[sgT ↑(q5t C 0 1)],B,ns4] D.heap.size 3 W (Ae.o W S hk) (by rw[U,M];omega) (by rw[U,M];omega) (by simp);rw[U,M]at h9;refine h9.mono ?_;rintro e w6⟨y,c6,rfl,Ao,Aj⟩;have Ar:=S.size;exact⟨y,c6,rfl,y4q Q.o O a.o Y.o (by omega) HG.o (S.trans (Aj.mono Ar)) (Ao.down (by omega))⟩
      have d:=(show Hid (_=_)from M);generalize ns4.length=n4 at Z d⊢;go_wp2_with fail;refine(Z.o _ (q1w D _) (heap_alloc_new D _)).mono ?_;rintro e w6⟨y,c6,rfl,h6,Ap⟩;have z:=hid (And.intro h6 Ap);go_wp2;refine⟨⟨_,_,y,_,c6,rfl,d.o,z.o.1⟩,?_⟩;rw[z.o.1.rd.len_eq,Q.o.rd.len_eq]
      have:=z.o.2
      omega
    ·have Ab:Hid ((ws.drop q).head?≠some (sgn ↑(q5t C 0 1))):=by
      show _≠_;rw[q2l];exact N
     have HH:Hid (Cp 106 #[.pointer b,.string ⟨#[↑(sel C (43:UInt8) 42)]⟩] wr fun e w'=>e=.returned (.bool false)/\w'=wr):=q8q H.rd (sgn ↑(q5t C 0 1)) (by decide) N;go_wp2_with fail;refine HH.o.mono ?_;rintro e E⟨rfl,rfl⟩;go_wp2;go_ret;have H:=Q.o;obtain rfl:=L.o;have v:(ws.drop q).length=ws.length-q:=q0h;refine .ok (m:=0) (u:=ws.drop q) ⟨H.ok _ (.lopE Ab.o),H.o,?_,?_,H.bt⟩
     ·rw[v,q0h];have:=H.n;omega
     ·rw[v,show ws.length-(ws.length-q)=q by omega];exact H.rd
theorem v4c{K:LwK}{ws:List Wd}{pl:Nat->Nat}{b p:Nat}(hL:∀q,p<=q->q<=ws.length->y7c K ws pl b q):v4h K ws pl b p:=by
 intro w h;have G:∀(fn:Fn)(first cap:Array Value)(w:World),(Instr.makeFunc fn first cap).run prog w=.ok (.func fn first cap) w:=fun _ _ _ _=>rfl
 have D:Hid (Cp 148 #[.pointer b,.string ⟨#[43]⟩,.int .i64 5,.func (.func 149) #[.pointer b] #[]] w fun e w'=>q4z K ws pl b (.level 0) p w e w'):=z8g 0 _ _ _ (.inl ⟨rfl,rfl,rfl,rfl⟩) hL w h;go_in;go_wp2_with fail;refine D.o.mono ?_;intro e C E;cases E with
 | @bad u _ pr bt=>
  have B:Hid (q4z K ws pl b (.level 0) p w (.panicked [q5w (pl (ws.length-u.length))]) C):=.bad pr bt;go_wp2;exact⟨rfl,B.o⟩
 | @ok m ns u A c _ hg=>
  have B:Hid (q4z K ws pl b (.level 0) p w (.returned (.slice A ns.length c)) C):=.ok hg;generalize ns.length=nl at B⊢;go_wp2;go_ret;exact B.o
theorem k4w{K:LwK}{ws:List Wd}{pl:Nat->Nat}{b p:Nat}(hL:∀q,p<=q->q<=ws.length->y6j K ws pl b q):y7c K ws pl b p:=by
 intro w h;have G:∀(fn:Fn)(first cap:Array Value)(w:World),(Instr.makeFunc fn first cap).run prog w=.ok (.func fn first cap) w:=fun _ _ _ _=>rfl
 have D:Hid (Cp 148 #[.pointer b,.string ⟨#[42]⟩,.int .i64 6,.func (.func 179) #[.pointer b] #[]] w fun e w'=>q4z K ws pl b (.level 1) p w e w'):=z8g 1 _ _ _ (.inr ⟨rfl,rfl,rfl,rfl⟩) hL w h;go_in;go_wp2_with fail;refine D.o.mono ?_;intro e C E;cases E with
 | @bad u _ pr bt=>
  have B:Hid (q4z K ws pl b (.level 1) p w (.panicked [q5w (pl (ws.length-u.length))]) C):=.bad pr bt;go_wp2;exact⟨rfl,B.o⟩
 | @ok m ns u A c _ hg=>
  have B:Hid (q4z K ws pl b (.level 1) p w (.returned (.slice A ns.length c)) C):=.ok hg;generalize ns.length=nl at B⊢;go_wp2;go_ret;exact B.o
structure g1h(K:LwK)(ws:List Wd)(pl:Nat->Nat)(b:Nat)(e:Wd)(op:Int)(tx:ByteArray)(p:Nat)(w:World)(n:Nat)(ns:List Td)(u:List Wd)(v:Value)(w':World):Prop where
 pr:PR (.args e 0 []) (ws.drop p) (.ok n ns u)
 o:q1b w v (⟨op,tx,(n:Int)⟩::ns) w'
 n:ns.length+u.length<=(ws.drop p).length
 rd:Ry K ws pl b (ws.length-u.length) w'
 bt:But w b w w'
inductive j4f (K:LwK) (ws:List Wd) (pl:Nat->Nat) (b:Nat) (e:Wd) (op:Int) (tx:ByteArray) (p:Nat) (w:World):Ending->World->Prop where
 | ok {n ns u A c w'} (h:g1h K ws pl b e op tx p w n ns u (.slice A (ns.length+1) c) w'):j4f K ws pl b e op tx p w (.returned (.slice A (ns.length+1) c)) w'
 | bad {u w'} (pr:PR (.args e 0 []) (ws.drop p) (.bad u)) (bt:But w b w w'):j4f K ws pl b e op tx p w (.panicked [q5w (pl (ws.length-u.length))]) w'
structure g1j(K:LwK)(ws:List Wd)(pl:Nat->Nat)(b:Nat)(e:Wd)(op:Int)(tx:ByteArray)(p:Nat)(w:World)(q n:Nat)(acc:List Td)(v:Value)(wr:World):Prop where
 n1:1<=n
 nq:n<=q
 lt:p<q
 nn:acc.length+(ws.length-q)<=ws.length-p
 o:q1b (w.heap.size+1) v acc wr
 rd:Ry K ws pl b q wr
 bt:But w b w wr
 bx:wr.heap[w.heap.size]?=some (.cells #[.int .i64 op,.string tx,.int .i64 (n:Int)] 71 (0,0))
 ok:∀r,PR (.args e n acc) (ws.drop q) r->PR (.args e 0 []) (ws.drop p) r
theorem Ry.far{K:LwK}{ws:List Wd}{pl:Nat->Nat}{b q:Nat}{w:World}(h:Ry K ws pl b q w){k i:Nat}{v:Value}(h1:k≠b)(h2:k≠K.gw)(h3:k≠K.ga):Ry K ws pl b q (w.setCell ⟨k,i,none⟩ v):=
 ⟨h.le,(cso (.inl h1)).trans h.c0,(cso (.inl h1)).trans h.c1,h.row.set,fun i hi=>(cso (.inl h2)).trans (h.wd i hi),fun i hi=>(cso (.inl h3)).trans (h.pt i hi),h.nw,h.na,h.lw,h.la,h.few⟩
theorem j5l{w:World}{k:Nat}{a c d d':Value}{T:TypeId}(h:w.heap[k]?=some (.cells #[a,c,d] T (0,0))):(w.setCell (k,2) d').heap[k]?=some (.cells #[a,c,d'] T (0,0)):=by
 simp[World.setCell,Array.getElem?_modify,h]
section
variable {K:LwK} {ws:List Wd} {pl:Nat→Nat} {b p q:Nat} {e:Wd} {op:Int} {tx:ByteArray} {w:World}
theorem k4v(he:e≠[])(U:e≠[44])(hS:∀q,p<=q->q<=ws.length->v4h K ws pl b q)(h:Ry K ws pl b p w):
  Calls prog 212 #[.pointer b,.agg #[op,.string tx,.int .i64 0],.string (wbS e)] w fun r w'=>j4f K ws pl b e op tx p w r w':=by
 have HS:=hid hS;have Bj:=h.row.lt;have A1:=h.le;have Bf:=h.few;have Bl:=h.gwlt;have Bk:=h.galt;have Z:Hid (Ry K ws pl b p (w.alloc (.cells #[op,.string tx,.int .i64 0] 71))):=h.keep (q1w w _);have HE:=hid he;have Ak:=hid U;clear h hS he U;by_cases Q:ws[p]?=some e
 ·obtain⟨A4,A0⟩:=List.getElem?_eq_some_iff.1 Q
  have HD:Hid (ws.drop p=e::ws.drop (p+1)):=by
   show _=_;rw[drop_eq_getElem_cons A4,A0]
  have R:Hid (Cp 106 #[.pointer b,.string (wbS e)] (w.alloc (.cells #[op,.string tx,.int .i64 0] 71)) fun r w'=>∃M,w'=M/\r=.returned (.bool true)/\Ry K ws pl b (p+1) M/\But w b w M/\M.heap[w.heap.size]?=some (.cells #[op,.string tx,.int .i64 0] 71 (0,0))):=by
   refine(q7q Z.o e Q).mono ?_;rintro r M⟨rfl,h1,b1⟩;have Bu:(w.alloc (.cells #[op,.string tx,.int .i64 0] 71)).heap.size=w.heap.size+1:=World.size_alloc ..;exact⟨M,rfl,rfl,h1,(But.of (q1w w _)).trans (b1.mono (by omega)),(b1.block _ (by omega) (by omega)).trans (heap_alloc_new w _)⟩
  generalize wbS e=S at R⊢;clear Q A0 Z;go_in;go_wp2_with fail;refine R.o.mono ?_;rintro r w'⟨M,rfl,rfl,h1,b1,t⟩;have d0:w'.cell? w.heap.size=some ↑op:=by rw[Lib.cell_of_heap t];rfl
  have d1:w'.cell? (w.heap.size,1)=some (.string tx):=by rw[Lib.cell_of_heap t];rfl
  have d2:w'.cell? (w.heap.size,2)=some (.int .i64 0):=by rw[Lib.cell_of_heap t];rfl
  have A7:=b1.size
  have HX:Hid (j4f K ws pl b e op tx p w (.returned (.slice w'.heap.size 1 1)) (w'.alloc (.cells #[op,.string tx,.int .i64 0] 71))):=by
   refine j4f.ok (n:=0) (ns:=[]) (u:=ws.drop (p+1)) ⟨by rw[HD.o];exact .aEnd,(q1b.one w' ⟨op,tx,0⟩).down A7,?_,?_,b1.alloc A7 _⟩
   ·rw[q0h,q0h];simp only[length_nil];omega
   ·rw[q0h,show ws.length-(ws.length-(p+1))=p+1 by omega];exact h1.keep (q1w w' _)
  clear h1 b1 t R;go_wp2;go_ret;exact HX.o
 ·have R:=hid (q8q Z.o e HE.o Q)
  have Am:Hid ((ws.drop p).head?≠some e):=by
   show _≠_;rw[q2l];exact Q
  have a:Hid (∃M,w.alloc (.cells #[op,.string tx,.int .i64 0] 71)=M/\Cp 109 #[.pointer b] M (fun r w'=>q4z K ws pl b (.level 0) p M r w')/\But w b w M/\M.heap.size=w.heap.size+1/\M.heap[w.heap.size]?=some (.cells #[op,.string tx,.int .i64 0] 71 (0,0))):=
   ⟨_,rfl,HS.o p Zl A1 _ Z.o,But.of (q1w w _),World.size_alloc ..,heap_alloc_new w _⟩
  clear Q Z;go_in;go_wp2_with fail;refine R.o.mono ?_;rintro r w'⟨rfl,rfl⟩;go_wp2_with fail;obtain⟨M,A9,Ab,z,A8,Aa⟩:=a.o;rw[A9];have Ai:=hid z;have Aj:=(show Hid (_=_)from Aa);clear z Aa a A9 R;refine Ab.mono ?_;clear Ab;intro r w2 hG;cases hG with
  | @bad u2 _ pr bt=>
   have HB:Hid (j4f K ws pl b e op tx p w (.panicked [q5w (pl (ws.length-u2.length))]) w2):=.bad (.aB0 Am.o pr) (Ai.o.trans (bt.mono (by omega)));clear pr bt;go_wp2;exact⟨rfl,HB.o⟩
  | @ok m2 ns2 u2 A2 c2 _ hg=>
   have L:=q5o hg.pr;have hu:ws.drop (ws.length-u2.length)=u2:=q7h L.1;have Ax:=hg.n;have U:=L.2 m2 ns2 u2 rfl;rw[q0h]at Ax U;simp only[Job.eats]at U;have Br:=hg.bt.size;have N:w2.heap[w.heap.size]?=some (.cells #[op,.string tx,.int .i64 0] 71 (0,0)):=(hg.bt.block _ (by omega) (by omega)).trans Aj.o;have d2:w2.cell? (w.heap.size,2)=some (.int .i64 0):=by rw[Lib.cell_of_heap N];rfl
   have f2:w2.frozen? (w.heap.size,2)=false:=Lib.frozen_of_heap N 2
   have Aq:Hid (g1j K ws pl b e op tx p w (ws.length-u2.length) 1 ns2 (.slice A2 ns2.length c2) (w2.setCell (w.heap.size,2) (.int .i64 1))):=by
    have ho:q1b (w.heap.size+1) (.slice A2 ns2.length c2) ns2 w2:=by rw[<-A8];exact hg.o
    refine⟨le_refl _,by omega,by omega,by omega,ho.kept fun g h1 h2=>Below.heap_setCell _ _ _ _ (by show g≠w.heap.size;omega),hg.rd.far (by omega) (by omega) (by omega),(Ai.o.trans (hg.bt.mono (by omega))).setCell (p:=(w.heap.size,2)) (.inr Zl) _,j5l N,fun r hr=>?_⟩;rw[hu]at hr;exact .aO0 Am.o hg.pr (by simpa using hr)
   clear hg hu Ax U L N;generalize Az:ns2.length=nl at Aq;have Bb:Hid (ns2.length=nl):=Az;clear Az;go_wp2_with fail
   go_loopw [7] (fun x wr=>∃(q n:Nat)(A:List Td)(A':Option Addr)(W c':Nat),x=.slice A' W c'/\A.length=W/\g1j K ws pl b e op tx p w q n A (.slice A' W c') wr) (fun _ wr=>j2w wr b)
   case atStart=>exact⟨_,1,ns2,A2,nl,c2,rfl,Bb.o,Aq.o⟩
   case round=>
    obtain⟨q,n,A,A3,H,c3,rfl,J,G⟩:=hrel;have I:=hid G;have X:Hid (A.length=H):=J;have Bh:=G.rd.le;have hn:=G.nn;have Bp:=G.nq;have Ag:=G.bt.size;have Bi:b<wr.heap.size:=G.rd.row.lt;have Bn:w.heap.size<wr.heap.size:=(Array.getElem?_eq_some_iff.1 G.bx).1;rw[J]at hn;by_cases Q:ws[q]?=some [44]
    ·obtain⟨f,d⟩:=List.getElem?_eq_some_iff.1 Q
     have m:Hid (ws.drop q=[44]::ws.drop (q+1)):=by
      show _=_;rw[drop_eq_getElem_cons f,d]
     have R:Hid (Cp 106 #[.pointer b,.string ⟨#[44]⟩] wr fun r w'=>r=.returned (.bool true)/\Ry K ws pl b (q+1) w'/\But wr b wr w'):=q7q G.rd [44] Q;clear G J Q d;go_wp2_with fail;refine R.o.mono ?_;rintro r w4⟨rfl,h4,b4⟩;have j:Hid (But wr b wr w4):=b4;have Bs:=b4.size;have a:Hid (Cp 109 #[.pointer b] w4 (fun r w'=>q4z K ws pl b (.level 0) (q+1) w4 r w')):=HS.o (q+1) (by have:=I.o.lt;omega) (by omega) _ h4;clear h4 b4 R;go_wp2_with fail;refine a.o.mono ?_;intro r D hG;cases hG with
     | @bad u5 _ pr bt=>
      have HB:Hid (j4f K ws pl b e op tx p w (.panicked [q5w (pl (ws.length-u5.length))]) D):=by
       obtain⟨W,c⟩:∃W,n=W+1:=⟨n-1,by have:=I.o.n1;omega⟩;subst c;exact .bad (I.o.ok _ (by rw[m.o];exact .aB Ak.o pr)) ((I.o.bt.trans (j.o.mono Ag)).trans (bt.mono (by omega)))
      clear pr bt;go_wp2;exact⟨rfl,HB.o⟩
     | @ok m5 ns5 u5 A5 c5 _ hg=>
      have L:=q5o hg.pr;have hu:ws.drop (ws.length-u5.length)=u5:=q7h L.1;have Ay:=hg.n;have Ae:=L.2 m5 ns5 u5 rfl;rw[q0h]at Ay Ae;simp only[Job.eats]at Ae;have Be:=hg.bt.size;have An:Hid (q1b (w.heap.size+1) (.slice A3 H c3) A D):=(I.o.o.but2 j.o (by omega)).but2 hg.bt (by omega);have Bd:Hid (Tds D A5 ns5):=hg.o.tds;have Al:Hid (A5=none->ns5.length=0/\c5=0):=hg.o.none.2;have y:Hid (D.heap[w.heap.size]?=some (.cells #[op,.string tx,(n:Int)] 71 (0,0))):=(hg.bt.block _ (by omega) (by omega)).trans ((j.o.block _ (by omega) (by omega)).trans I.o.bx);have l:Hid (But w b w D):=(I.o.bt.trans (j.o.mono Ag)).trans (hg.bt.mono (by omega));have s:Hid (Ry K ws pl b (ws.length-u5.length) D):=hg.rd
      have Bc:Hid (∀r,PR (.args e (n+1) (A++ns5)) (ws.drop (ws.length-u5.length)) r->PR (.args e 0 []) (ws.drop p) r):=fun r hr=>by
       obtain⟨W,c⟩:∃W,n=W+1:=⟨n-1,by have:=I.o.n1;omega⟩;subst c;rw[hu]at hr;exact I.o.ok _ (by rw[m.o];exact .aO Ak.o hg.pr hr)
      have Bq:q<ws.length-u5.length:=by omega
      clear hg hu L Ae;generalize Ac:ns5.length=n5 at Ay Al;have Y:Hid (ns5.length=n5):=Ac;have Ad:H+n5<=1000000:=by omega
      clear Ac a;go_wp2_with(at_builtin;refine q4l rfl _ _ rfl (w.heap.size+1) _ A rfl An.o A5 n5 ns5 Y.o c5 rfl Bd.o Al.o (H+n5) (by rw[X.o]) Ad (by omega) ?_);intro A6 c6 w6 E C;have Bt:=C.size;have B:Below (w.heap.size+1) D w6:= Zb.grown C (by omega) (fun k hk=>(World.ownsRow.lt An.o k hk).1);have P:w6.heap[w.heap.size]?=some (.cells #[op,.string tx,(n:Int)] 71 (0,0)):=(B.block _ (by omega)).trans y.o;have d6:w6.cell? (w.heap.size,2)=some ↑(n:Int):=by rw[Lib.cell_of_heap P];rfl
      have f6:w6.frozen? (w.heap.size,2)=false:=Lib.frozen_of_heap P 2
      have Ar:Hid (g1j K ws pl b e op tx p w (ws.length-u5.length) (n+1) (A++ns5) (.slice A6 (H+n5) c6) (w6.setCell ↑(w.heap.size,2) ↑((n:Int)+1))):=by
       have At:(A++ns5).length=H+n5:=by rw[length_append,X.o,Y.o]
       have h7:=I.o.lt;refine⟨by omega,by omega,by omega,by rw[At];omega,E.kept fun g h1 h2=>Below.heap_setCell _ _ _ _ (by show g≠w.heap.size;omega),(s.o.keepB B (by omega) (by omega) (by omega)).far (by omega) (by omega) (by omega),(l.o.trans (But.of (B.mono (by omega)))).setCell (p:=(w.heap.size,2)) (.inr Zl) _,?_,Bc.o⟩;rw[show((n+1:Nat):Int)=(n:Int)+1 by omega];exact j5l P
      have Ah:Hid ((A++ns5).length=H+n5):=(show _=_ by rw[length_append,X.o,Y.o]);have Bg:(n:Int)+1<=60001:=by omega
      clear E C B P y;go_wp2;refine⟨⟨_,n+1,A++ns5,A6,H+n5,c6,rfl,Ah.o,Ar.o⟩,?_⟩;rw[Ar.o.rd.len_eq,I.o.rd.len_eq];omega
    ·have R:Hid (Cp 106 #[.pointer b,.string ⟨#[44]⟩] wr fun r w'=>r=.returned (.bool false)/\w'=wr):=q8q G.rd [44] (by simp) Q;by_cases V:ws[q]?=some e
     ·obtain⟨f,d⟩:=List.getElem?_eq_some_iff.1 V
      have m:Hid (ws.drop q=e::ws.drop (q+1)):=by
       show _=_;rw[drop_eq_getElem_cons f,d]
      have HM:Hid (Cp 108 #[.pointer b,.string (wbS e)] wr fun r w'=>r=.returned (.tuple #[])/\Ry K ws pl b (q+1) w'/\But wr b wr w'):=q6s G.rd e V;clear G J Q V d;go_wp2_with fail;refine R.o.mono ?_;rintro r w4⟨rfl,rfl⟩;go_wp2_with fail;refine HM.o.mono ?_;rintro r D⟨rfl,h5,b5⟩;have Be:=b5.size;have O:D.heap[w.heap.size]?=some (.cells #[op,.string tx,(n:Int)] 71 (0,0)):=(b5.block _ (by omega) (by omega)).trans I.o.bx;have d0:D.cell? w.heap.size=some ↑op:=by rw[Lib.cell_of_heap O];rfl
      have d1:D.cell? (w.heap.size,1)=some (.string tx):=by rw[Lib.cell_of_heap O];rfl
      have d2:D.cell? (w.heap.size,2)=some ↑(n:Int):=by rw[Lib.cell_of_heap O];rfl
      have Af:q1b (w.heap.size+1) (.slice A3 H c3) A D:=I.o.o.but2 b5 (by omega);have As:Hid (q1b w (.slice D.heap.size 1 1) [⟨op,tx,(n:Int)⟩] (D.alloc (.cells #[op,.string tx,(n:Int)] 71))):=(q1b.one D ⟨op,tx,(n:Int)⟩).down (by omega);have Ap:Hid (Tds (D.alloc (.cells #[op,.string tx,(n:Int)] 71)) A3 A):=Af.tds.alloc _;have Ba:Hid (A3=none->H=0/\c3=0):=Af.none.2;have Ao:Hid ((D.alloc (.cells #[op,.string tx,(n:Int)] 71)).heap.size=D.heap.size+1):=World.size_alloc ..;have s:Hid (Ry K ws pl b (q+1) (D.alloc (.cells #[op,.string tx,(n:Int)] 71))):=h5.keep (q1w D _);have l:Hid (But w b w (D.alloc (.cells #[op,.string tx,(n:Int)] 71))):=(I.o.bt.trans (b5.mono Ag)).alloc (by omega) _;have Ad:1+H<=1000000:=by omega
      have Au:b<D.heap.size:=h5.row.lt;have Aw:=h5.gwlt;have Av:=h5.galt;clear h5 b5 O Af R HM;go_wp2_with(at_builtin;refine q4l rfl _ _ rfl w.heap.size _ [⟨op,tx,(n:Int)⟩] rfl As.o A3 H A X.o c3 rfl Ap.o Ba.o (1+H) rfl Ad (by rw[Ao.o];omega) ?_);intro A6 c6 w6 E C
      have i:∀k',(Value.slice D.heap.size 1 1).ownBlock=some k'->D.heap.size<=k':=fun k' hk=>by
       simp only[Value.ownBlock,Option.some.injEq]at hk;omega
      have B:Below D (D.alloc (.cells #[op,.string tx,(n:Int)] 71)) w6:= Zb.grown C (by rw[Ao.o];omega) i
      have HX:Hid (j4f K ws pl b e op tx p w (.returned (.slice A6 (H+1) c6)) w6):=by
       have J:=X.o;subst J;have G:=I.o;have v:(ws.drop (q+1)).length=ws.length-(q+1):=q0h;have Bm:=G.lt;have Bo:=G.nn;refine j4f.ok (n:=n) (ns:=A) (u:=ws.drop (q+1)) ⟨G.ok _ (by rw[m.o];exact .aEnd),?_,?_,?_,l.o.trans (But.of (B.mono (by omega)))⟩
       ·rw[show A.length+1=1+A.length by omega];exact E
       ·rw[v,q0h];omega
       ·rw[v,show ws.length-(ws.length-(q+1))=q+1 by omega];exact s.o.keepB B Au Aw Av
      clear E C B i s l As Ap;rw[show 1+H=H+1 by omega];go_wp2;go_ret;exact HX.o
     ·have HM:Hid (Cp 108 #[.pointer b,.string (wbS e)] wr fun r w'=>r=.panicked [q5w (pl q)]/\w'=wr):=q7r G.rd e HE.o V
      have HX:Hid (j4f K ws pl b e op tx p w (.panicked [q5w (pl q)]) wr):=by
       have v:(ws.drop q).length=ws.length-q:=q0h;obtain⟨W,c⟩:∃W,n=W+1:=⟨n-1,by have:=G.n1;omega⟩;subst c;have h9:=j4f.bad (K:=K) (pl:=pl) (b:=b) (op:=op) (tx:=tx) (w:=w) (G.ok _ (.aSep (by rw[q2l];exact V) (by rw[q2l];exact Q))) G.bt;rw[v,show ws.length-(ws.length-q)=q by omega]at h9;exact h9
      clear G J Q V;go_wp2_with fail;refine R.o.mono ?_;rintro r w4⟨rfl,rfl⟩;go_wp2_with fail;refine HM.o.mono ?_;rintro r D⟨rfl,rfl⟩;go_wp2;exact⟨rfl,HX.o⟩
end
theorem k8h:∀(w:Wd)(a:Nat),(∀b∈w,q1x b=true)->Lib.decFrom a w=some (w.foldl (fun a c=>a*10+(c.toNat-48)) a)
 | [],a,_=>rfl
 | c::r,a,h=>by
  have hc:=h c (by simp);simp only[q1x,Bool.and_eq_true,decide_eq_true_eq]at hc;have e:Lib.digitVal c=some (c.toNat-48):=by rw[Lib.digitVal,if_pos hc]
  rw[Lib.decFrom,e];exact k8h r _ fun b hb=>h b (by simp[hb])
theorem v4l{w:Wd}(h:∀b∈w,q1x b=true)(h0:w≠[]):Lib.atoi w=some ((z6i w:Nat):Int):=by
 cases w with
 | nil=>exact absurd rfl h0
 | cons c r=>
  have A:=h c (by simp);simp only[q1x,Bool.and_eq_true,decide_eq_true_eq]at A
  have B:(c==45)=false:=by
   rw[beq_eq_false_iff_ne];rintro rfl;revert A;decide
  have C:(c==43)=false:=by
   rw[beq_eq_false_iff_ne];rintro rfl;revert A;decide
  have D:Lib.decNat (c::r)=some (z6i (c::r)):=by
   rw[Lib.decNat];exact k8h (c::r) 0 h
  simp only[Lib.atoi,B,C,D];rfl
theorem v4k(w:Wd)(h:∀b∈w,q1x b=true)(h0:w≠[])(hl:w.length<=6)(W:World):Cb 210 #[.string (wbS w)] W (.tuple #[.int .i64 ((z6i w:Nat):Int),.nilIface]):=by
 unfold Cb;refine(atoi_sh (wbS w) ((z6i w:Nat):Int) (by rw[<-q0c];show w.length<=18;omega) (v4l h h0) W).mono ?_;rintro e w'⟨rfl,t,rfl⟩;exact⟨rfl,Lib.bytesWorld_below _ _ _⟩
section
variable {K:LwK} {ws:List Wd} {pl:Nat→Nat} {b p:Nat} {w:World}
theorem q4z.lev2{e:Ending}{w':World}(h:q4z K ws pl b .single p w e w'):q4z K ws pl b (.level 2) p w e w':=by
 cases h with
 | ok h=>exact .ok ⟨.lev2 h.pr,h.o,h.n,h.rd,h.bt⟩
 | bad pr bt=>exact .bad (.lev2 pr) bt
theorem v3x{j:Job}{q:Nat}{w':World}(hq:q<=ws.length)(pr:PR j (ws.drop p) (.bad (ws.drop q)))(bt:But w b w w'):q4z K ws pl b j p w (.panicked [q5w (pl q)]) w':=by
 have A:=q4z.bad (K:=K) (pl:=pl) pr bt;rw[q0h,show ws.length-(ws.length-q)=q by omega]at A;exact A
theorem q4s(h:p<ws.length):ws.drop p=ws[p]::ws.drop (p+1):=drop_eq_getElem_cons h
theorem j3x(hS:∀q,p<q->q<=ws.length->v4h K ws pl b q)(hp:p<ws.length)(hn:nmW ws[p]=true)(h:Ry K ws pl b p w):
  Calls prog 211 #[.pointer (some ⟨b,0,none⟩)] w fun e w'=>q4z K ws pl b .single p w e w':=by
 have G:=hid (q8r h hp);have L:=hid (q4s hp);have g:=h.row.lt;by_cases I:ws[p+1]?=some [40]
 ·obtain⟨D,R⟩:=List.getElem?_eq_some_iff.1 I
  have B:Hid (ws.drop (p+1)=[40]::ws.drop (p+2)):=by
   show _=_;rw[q4s D,R]
  have X:Hid (∀W,Ry K ws pl b (p+2) W->But w b w W->Cp 212 #[.pointer (some ⟨b,0,none⟩),.agg #[.int .i64 3,.string (wbS ws[p]),.int .i64 0],.string ⟨#[41]⟩] W fun r w'=>q4z K ws pl b .single p w r w'):=fun W hW hB=>by
   refine(k4v (e:=[41]) (op:=3) (tx:=wbS ws[p]) (by simp) (by decide) (fun q C P=>hS q (by omega) P) hW).mono ?_;intro r w' Q;have U:=hB.size;cases Q with
   | bad pr bt=>exact .bad (by rw[L.o,B.o];exact .sCB hn pr) (hB.trans (bt.mono U))
   | @ok n ns u A c _ hg=>
    have i:=hg.n;rw[q0h]at i;refine q4z.ok (m:=0) (ns:=clT ws[p] n::ns) (u:=u) ⟨by rw[L.o,B.o];exact .sCO hn hg.pr,hg.o.down U,?_,hg.rd,hB.trans (hg.bt.mono U)⟩;rw[q0h,length_cons];omega
  generalize wbS ws[p]=S at G X;go_in;go_wp2_with fail;refine G.o.mono ?_;rintro e Z⟨rfl,C,H⟩;have J:=hid H;have V:=H.size;have M:=hid (q7q C [40] I);go_wp2_with fail;refine M.o.mono ?_;rintro e a⟨rfl,P,f⟩;have N:=hid (X.o a P (J.o.trans (f.mono V)));go_wp2_with fail;refine N.o.mono ?_;intro r d Q;cases Q with
  | @bad u _ pr bt=>
   have E:Hid (q4z K ws pl b .single p w (.panicked [q5w (pl (ws.length-u.length))]) d):=.bad pr bt;go_wp2;exact⟨rfl,E.o⟩
  | @ok m ns u A c _ hg=>
   have E:Hid (q4z K ws pl b .single p w (.returned (.slice A ns.length c)) d):=.ok hg;generalize ns.length=nl at E⊢;go_wp2;go_ret;exact E.o
 ·have Y:Hid (∀W,Ry K ws pl b (p+1) W->But w b w W->q4z K ws pl b .single p w (.returned (.slice (some ⟨W,0,none⟩) 1 1)) (W.alloc (.cells #[.int .i64 2,.string (wbS ws[p]),.int .i64 0] 71))):=fun W hW hB=>by
   refine q4z.ok (m:=0) (ns:=[nmT ws[p]]) (u:=ws.drop (p+1)) ⟨by rw[L.o];exact .sName hn (by rw[q2l];exact I),(q1b.one W (nmT ws[p])).down hB.size,?_,?_,hB.alloc hB.size _⟩
   ·rw[q0h,q0h];simp only[length_cons,length_nil];omega
   ·rw[q0h,show ws.length-(ws.length-(p+1))=p+1 by omega];exact hW.keep (q1w W _)
  generalize wbS ws[p]=S at G Y;go_in;go_wp2_with fail;refine G.o.mono ?_;rintro e Z⟨rfl,C,H⟩;have O:=hid (Y.o Z C H);have M:=hid (q8q C [40] (by simp) I);go_wp2_with fail;refine M.o.mono ?_;rintro e a⟨rfl,rfl⟩;go_wp2;go_ret;exact O.o
end
section
variable {K:LwK} {ws:List Wd} {pl:Nat→Nat} {b p:Nat} {w:World}
theorem v9o{X:Wd}(h:Ry K ws pl b p w)(hX:ws.getD p []=X)(ht:X=[]\/q3l X):
  (Calls prog 79 #[.pointer b] w fun e w'=>e=.returned (.string (wbS X))/\w=w')/\(Calls prog 209 #[.string (wbS X)] w fun e w'=>e=.returned (.bool (z0d X))/\w=w')/\(Calls prog 146 #[.string (wbS X)] w fun e w'=>e=.returned (.bool (nmW X))/\w=w'):=by
 subst hX;exact⟨(q6t h).mono fun _ _ h=>⟨h.1,h.2.symm⟩,(j3w _ w).mono fun _ _ h=>⟨h.1,h.2.symm⟩,(k7q _ ht w).mono fun _ _ h=>⟨h.1,h.2.symm⟩⟩
theorem z8h(ht:∀x∈ws,q3l x)(hS:∀q,p<q->q<=ws.length->v4h K ws pl b q):y6j K ws pl b p:=by
 intro w h;have t:=h.le;have Ao:=h.row.lt;show Calls prog 179 #[.pointer b] w fun e H=>q4z K ws pl b (.level 2) p w e H
 by_cases j:p<ws.length
 ·have L:=ht _ (getElem_mem j);have i:=q3z j;obtain⟨a,O,P⟩:=v9o h i (.inr L);have v:=hid (q4s j);by_cases D:z0d ws[p]=true
  ·rw[D]at O;have B:=(show Hid (Calls _ _ _ _ _)from a);have C:=(show Hid (Calls _ _ _ _ _)from O);obtain⟨l,h6⟩:=y5x L D;have HN:=hid (q8r h j);have HA:Hid (∀W,Cp 210 #[.string (wbS ws[p])] W fun e H=>e=.returned (.tuple #[((z6i ws[p]:Nat):Int),.nilIface])/\Below W W H):=fun W=>v4k ws[p] l (y1v L) h6 W
   have HX:Hid (∀W,Ry K ws pl b (p+1) W->But w b w W->q4z K ws pl b (.level 2) p w (.returned (.slice W.heap.size 1 1)) (W.alloc (.cells #[.int .i64 1,.string ⟨#[]⟩,((z6i ws[p]:Nat):Int)] 71))):=fun W hW hB=>by
    refine q4z.ok (m:=0) (ns:=[y6n ws[p]]) (u:=ws.drop (p+1)) ⟨by rw[v.o];exact .lev2 (.sNum D),(q1b.one W (y6n ws[p])).down hB.size,?_,?_,hB.alloc hB.size _⟩
    ·rw[q0h,q0h];simp only[length_cons,length_nil];omega
    ·rw[q0h,show ws.length-(ws.length-(p+1))=p+1 by omega];exact hW.keep (q1w W _)
   generalize wbS ws[p]=S at B C HN HA
   generalize((z6i ws[p]:Nat):Int)=V at HA HX
   clear a O P h hS ht L i D l h6;go_in;go_wp2_with fail;refine B.o.mono ?_;rintro e d⟨rfl,rfl⟩;go_wp2_with fail;refine C.o.mono ?_;rintro e N⟨rfl,rfl⟩;go_wp2_with fail;refine HN.o.mono ?_;rintro e f⟨rfl,h3,z⟩;have K3:=hid (And.intro h3 z);have Z:=z.size;clear h3 z;go_wp2_with fail;refine(HA.o _).mono ?_;rintro e w4⟨rfl,b4⟩;have Am:=hid (HX.o w4 (K3.o.1.keep b4) (K3.o.2.trans (But.of (b4.mono Z))));clear b4;go_wp2;go_ret;exact Am.o
  ·have E:z0d ws[p]=false:=by simpa using D
   rw[E]at O;have B:=(show Hid (Calls _ _ _ _ _)from a);have C:=(show Hid (Calls _ _ _ _ _)from O);by_cases M:nmW ws[p]=true
   ·rw[M]at P;have G:=(show Hid (Calls _ _ _ _ _)from P);have HN:=hid ((j3x hS j M h).mono fun _ _ g=>g.lev2);generalize wbS ws[p]=S at B C G;clear a O P h hS ht L i D E M;go_in;go_wp2_with fail;refine B.o.mono ?_;rintro e d⟨rfl,rfl⟩;go_wp2_with fail;refine C.o.mono ?_;rintro e N⟨rfl,rfl⟩;go_wp2_with fail;refine B.o.mono ?_;rintro e d⟨rfl,rfl⟩;go_wp2_with fail;refine G.o.mono ?_;rintro e N⟨rfl,rfl⟩;go_wp2_with fail;refine HN.o.mono ?_;intro r f g;cases g with
    | @bad u _ pr bt=>
     have U:Hid (q4z K ws pl b (.level 2) p w (.panicked [q5w (pl (ws.length-u.length))]) f):=.bad pr bt;clear pr bt;go_wp2;exact⟨rfl,U.o⟩
    | @ok m ns u A c _ hg=>
     have U:Hid (q4z K ws pl b (.level 2) p w (.returned (.slice A ns.length c)) f):=.ok hg;clear hg;generalize ns.length=nl at U⊢;go_wp2;go_ret;exact U.o
   ·have J:nmW ws[p]=false:=by simpa using M
    rw[J]at P;have G:=(show Hid (Calls _ _ _ _ _)from P);by_cases I:ws[p]=[91]
    ·have hm:ws[p]?=some [91]:=by rw[List.getElem?_eq_getElem j,I]
     have k:=hid (q7q h [91] hm)
     have HK:Hid (∀W,Ry K ws pl b (p+1) W->But w b w W->Cp 212 #[.pointer b,.agg #[.int .i64 4,.string ⟨#[]⟩,.int .i64 0],.string ⟨#[93]⟩] W fun r H=>q4z K ws pl b (.level 2) p w r H):=fun W hW hB=>by
      refine(k4v (e:=[93]) (op:=4) (tx:=⟨#[]⟩) (by simp) (by decide) (fun q h1 h2=>hS q (by omega) h2) hW).mono ?_;intro r H g;have hs:=hB.size;cases g with
      | bad pr bt=>exact .bad (by rw[v.o,I];exact .lev2 (.sLB pr)) (hB.trans (bt.mono hs))
      | @ok n ns u A c _ hg=>
       have hl:=hg.n;rw[q0h]at hl;refine q4z.ok (m:=0) (ns:=lsT n::ns) (u:=u) ⟨by rw[v.o,I];exact .lev2 (.sLO hg.pr),hg.o.down hs,?_,hg.rd,hB.trans (hg.bt.mono hs)⟩;rw[q0h,length_cons];omega
     generalize wbS ws[p]=S at B C G;clear a O P h hS ht L i D E M J hm I;go_in;go_wp2_with fail;refine B.o.mono ?_;rintro e d⟨rfl,rfl⟩;go_wp2_with fail;refine C.o.mono ?_;rintro e N⟨rfl,rfl⟩;go_wp2_with fail;refine B.o.mono ?_;rintro e d⟨rfl,rfl⟩;go_wp2_with fail;refine G.o.mono ?_;rintro e N⟨rfl,rfl⟩;go_wp2_with fail;refine k.o.mono ?_;rintro e N⟨rfl,h2,b2⟩;have Ak:=hid (HK.o N h2 b2);clear h2 b2 k HK;go_wp2_with fail;refine Ak.o.mono ?_;intro r f g;cases g with
     | @bad u _ pr bt=>
      have U:Hid (q4z K ws pl b (.level 2) p w (.panicked [q5w (pl (ws.length-u.length))]) f):=.bad pr bt;clear pr bt;go_wp2;exact⟨rfl,U.o⟩
     | @ok m ns u A c _ hg=>
      have U:Hid (q4z K ws pl b (.level 2) p w (.returned (.slice A ns.length c)) f):=.ok hg;clear hg;generalize ns.length=nl at U⊢;go_wp2;go_ret;exact U.o
    ·have hm:ws[p]?≠some [91]:=by rw[List.getElem?_eq_getElem j];simpa using I
     have k:Hid (Cp 106 #[.pointer b,.string ⟨#[91]⟩] w fun e H=>e=.returned (.bool false)/\w=H):=(q8q h [91] (by simp) hm).mono fun _ _ h=>⟨h.1,h.2.symm⟩
     by_cases Q:ws[p]=[40]
     ·have Y:ws[p]?=some [40]:=by rw[List.getElem?_eq_getElem j,Q]
      have HM:=hid (q6s h [40] Y)
      have y:Hid (ws.drop p=[40]::ws.drop (p+1)):=by
       show _=_;rw[v.o,Q]
      have HS:=hid (hS (p+1) (by omega) (by omega));generalize wbS ws[p]=S at B C G;clear a O P h hS ht L i D E M J hm I Q Y v;go_in;go_wp2_with fail;refine B.o.mono ?_;rintro e d⟨rfl,rfl⟩;go_wp2_with fail;refine C.o.mono ?_;rintro e N⟨rfl,rfl⟩;go_wp2_with fail;refine B.o.mono ?_;rintro e d⟨rfl,rfl⟩;go_wp2_with fail;refine G.o.mono ?_;rintro e N⟨rfl,rfl⟩;go_wp2_with fail;refine k.o.mono ?_;rintro e N⟨rfl,rfl⟩;go_wp2_with fail;refine HM.o.mono ?_;rintro e f⟨rfl,h3,z⟩;have Ad:=hid z;have Z:=z.size;have Al:=hid (HS.o f h3);clear h3 z HM k;go_wp2_with fail;refine Al.o.mono ?_;intro r w4 g;cases g with
      | @bad u _ pr bt=>
       have U:Hid (q4z K ws pl b (.level 2) p w (.panicked [q5w (pl (ws.length-u.length))]) w4):=.bad (by rw[y.o];exact .lev2 (.sPB pr)) (Ad.o.trans (bt.mono Z));clear pr bt;go_wp2;exact⟨rfl,U.o⟩
      | @ok m ns u A c _ hg=>
       have Ab:=q5o hg.pr;have hu:ws.drop (ws.length-u.length)=u:=q7h Ab.1;have hl:=hg.n;rw[q0h]at hl;have Ap:=hg.bt.size;have Ae:=Ad.o.trans (hg.bt.mono Z);by_cases R:ws[ws.length-u.length]?=some [41]
       ·obtain⟨Ag,Af⟩:=List.getElem?_eq_some_iff.1 R
        have Ac:u=[41]::ws.drop (ws.length-u.length+1):=by
         have h9:=q4s Ag;rw[hu,Af]at h9;exact h9
        have X:Hid (Cp 108 #[.pointer b,.string ⟨#[41]⟩] w4 fun e H=>e=.returned (.tuple #[])/\q4z K ws pl b (.level 2) p w (.returned (.slice A ns.length c)) H):=by
         refine(q6s hg.rd [41] R).mono ?_;rintro e w5⟨rfl,h5,b5⟩
         have Aq:u.length=(ws.drop (ws.length-u.length+1)).length+1:=by
          have h9:=congrArg length Ac;rw[length_cons]at h9;exact h9
         have Aj:=hg.pr;rw[Ac]at Aj;refine⟨rfl,q4z.ok (m:=0) (ns:=ns) (u:=ws.drop (ws.length-u.length+1)) ⟨by rw[y.o];exact .lev2 (.sPC Aj),(hg.o.but2 b5 (by omega)).down Z,?_,?_,Ae.trans (b5.mono (by omega))⟩⟩
         ·rw[q0h (p:=p)];omega
         ·rw[show ws.length-(ws.drop (ws.length-u.length+1)).length=ws.length-u.length+1 by omega];exact h5
        clear hg hu Ac R Af Ab hl;generalize ns.length=nl at X⊢;go_wp2_with fail;refine X.o.mono ?_;rintro e w5⟨rfl,h5⟩;have K5:=(show Hid (q4z _ _ _ _ _ _ _ _ _)from h5);clear h5;go_wp2;go_ret;exact K5.o
       ·have X:Hid (Cp 108 #[.pointer b,.string ⟨#[41]⟩] w4 fun e H=>e=.panicked [q5w (pl (ws.length-u.length))]/\q4z K ws pl b (.level 2) p w (.panicked [q5w (pl (ws.length-u.length))]) H):=by
         refine(q7r hg.rd [41] (by simp) R).mono ?_;rintro e w5⟨rfl,rfl⟩;refine⟨rfl,.bad ?_ Ae⟩;rw[y.o];refine .lev2 (.sPX hg.pr ?_);rw[<-hu,q2l];exact R
        clear hg hu R Ab hl;generalize ns.length=nl;generalize pl (ws.length-u.length)=pp at X;go_wp2_with fail;refine X.o.mono ?_;rintro e w5⟨rfl,h5⟩;have K5:=(show Hid (q4z _ _ _ _ _ _ _ _ _)from h5);clear h5;go_wp2;exact⟨rfl,K5.o⟩
     ·have Y:ws[p]?≠some [40]:=by rw[List.getElem?_eq_getElem j];simpa using Q
      have HM:Hid (Cp 108 #[.pointer b,.string ⟨#[40]⟩] w fun e H=>e=.panicked [q5w (pl p)]/\w=H):=(q7r h [40] (by simp) Y).mono fun _ _ h=>⟨h.1,h.2.symm⟩
      have HX:Hid (q4z K ws pl b (.level 2) p w (.panicked [q5w (pl p)]) w):=v3x t (by rw[v.o];exact .lev2 (.sBad Q I E J)) (But.refl _ _ _);generalize wbS ws[p]=S at B C G;clear a O P h hS ht L i D E M J hm I Q Y v;go_in;go_wp2_with fail;refine B.o.mono ?_;rintro e d⟨rfl,rfl⟩;go_wp2_with fail;refine C.o.mono ?_;rintro e N⟨rfl,rfl⟩;go_wp2_with fail;refine B.o.mono ?_;rintro e d⟨rfl,rfl⟩;go_wp2_with fail;refine G.o.mono ?_;rintro e N⟨rfl,rfl⟩;go_wp2_with fail;refine k.o.mono ?_;rintro e N⟨rfl,rfl⟩;go_wp2_with fail;refine HM.o.mono ?_;rintro e f⟨rfl,rfl⟩;go_wp2;exact⟨rfl,HX.o⟩
 ·have An:p=ws.length:=by omega
  have i:=q6y (ws:=ws) (q:=p) (by omega);obtain⟨a,O,P⟩:=v9o h i (.inl rfl);have Ah:z0d []=false:=rfl;have Ai:nmW []=false:=by decide
  rw[Ah]at O;rw[Ai]at P;have B:=(show Hid (Calls _ _ _ _ _)from a);have C:=(show Hid (Calls _ _ _ _ _)from O);have G:=(show Hid (Calls _ _ _ _ _)from P);have Aa:∀s,ws[p]?≠some s:=fun s=>by rw[List.getElem?_eq_none (by omega)];simp
  have k:Hid (Cp 106 #[.pointer b,.string ⟨#[91]⟩] w fun e H=>e=.returned (.bool false)/\w=H):=(q8q h [91] (by simp) (Aa _)).mono fun _ _ h=>⟨h.1,h.2.symm⟩
  have HM:Hid (Cp 108 #[.pointer b,.string ⟨#[40]⟩] w fun e H=>e=.panicked [q5w (pl p)]/\w=H):=(q7r h [40] (by simp) (Aa _)).mono fun _ _ h=>⟨h.1,h.2.symm⟩
  have HX:Hid (q4z K ws pl b (.level 2) p w (.panicked [q5w (pl p)]) w):=by
   refine v3x t ?_ (But.refl _ _ _);rw[List.drop_eq_nil_of_le (by omega)];exact .lev2 .sinN
  generalize wbS []=S at B C G;clear a O P h hS ht i Ah Ai Aa An;go_in;go_wp2_with fail;refine B.o.mono ?_;rintro e d⟨rfl,rfl⟩;go_wp2_with fail;refine C.o.mono ?_;rintro e N⟨rfl,rfl⟩;go_wp2_with fail;refine B.o.mono ?_;rintro e d⟨rfl,rfl⟩;go_wp2_with fail;refine G.o.mono ?_;rintro e N⟨rfl,rfl⟩;go_wp2_with fail;refine k.o.mono ?_;rintro e N⟨rfl,rfl⟩;go_wp2_with fail;refine HM.o.mono ?_;rintro e f⟨rfl,rfl⟩;go_wp2;exact⟨rfl,HX.o⟩
theorem v3z(ht:∀x∈ws,q3l x):∀n p,p<=ws.length->ws.length-p<=n->y6j K ws pl b p/\y7c K ws pl b p/\v4h K ws pl b p:=by
 intro n
 induction n with
 | zero=>
  intro p H G;have B:y6j K ws pl b p:=z8h ht fun q A h2=>by omega
  have A:y7c K ws pl b p:=k4w fun q A h2=>by
   obtain rfl:q=p:=by omega
   exact B
  exact⟨B,A,v4c fun q E h4=>by
   obtain rfl:q=p:=by omega
   exact A⟩
 | succ n ih=>
  intro p H G;have B:y6j K ws pl b p:=z8h ht fun q A h2=>(ih q h2 (by omega)).2.2
  have D:∀q,p<=q->q<=ws.length->y6j K ws pl b q:=fun q A h2=>by
   rcases Nat.eq_or_lt_of_le A with rfl|E
   ·exact B
   ·exact(ih q h2 (by omega)).1
  have A:=k4w D
  have C:∀q,p<=q->q<=ws.length->y7c K ws pl b q:=fun q h1q h2=>by
   rcases Nat.eq_or_lt_of_le h1q with rfl|E
   ·exact A
   ·exact(ih q h2 (by omega)).2.1
  exact⟨B,A,v4c C⟩
theorem j0s(ht:∀x∈ws,q3l x)(hp:p<=ws.length):v4h K ws pl b p:=(v3z ht _ p hp Zl).2.2
end
theorem y9p(s:List UInt8):(tkW s).length<=q0x s:=by
 unfold tkW;refine Nat.le_trans (z1u _) ?_;rw[List.length_take];omega
theorem z9t:∀(n:Nat)(s:List UInt8)(i:Nat),s.length<=n->((lxW s i).map fun x=>x.2.length).sum<=s.length
 | 0,s,i,h=>by
  have:s=[]:=List.eq_nil_of_length_eq_zero (by omega)
  subst this;rw[lxW,z3h];simp
 | n+1,s,i,h=>by
  cases s with
  | nil=>rw[lxW,z3h];simp
  | cons c r=>
   cases hs:spB c with
   | true=>
    have ih:=z9t n r (i+1) (by simp at h;omega);rw[lxW,k3e r i hs];rw[lxW]at ih;simp only[length_cons];omega
   | false=>
    cases ho:q4y (c::r)with
    | false=>rw[lxW,k9c i hs ho];simp
    | true=>
     have hp:=q5p c r;have hle:=z1q (c::r);have ih:=z9t n ((c::r).drop (q0x (c::r))) (i+q0x (c::r)) (by simp only[length_drop];omega);have hw:=y9p (c::r);rw[length_drop]at ih;rw[lxW,z7m i hs ho];simp only[map_cons,sum_cons];omega
theorem v3f(s:List UInt8):((q2o s).map length).sum<=s.length:=by
 have h:=z9t s.length s 0 Zl;rw[q2o,List.map_map];exact h
def szW(W:List Wd):Nat:=(W.map fun x=>x.length+1).sum
theorem k7g(a b:List Wd):szW (a++b)=szW a+szW b:=by simp[szW]
theorem q2h(x:Wd)(b:List Wd):szW (x::b)=x.length+1+szW b:=by simp[szW]
theorem k0t:∀W:List Wd,W.length<=szW W
 | []=>zero_le _
 | x::r=>by have:=k0t r;rw[q2h,length_cons];omega
theorem y3w:∀W:List Wd,(jb W).length<=szW W
 | []=>zero_le _
 | x::r=>by
  have:=y3w r
  rw[q2h];cases r with
  | nil=>simp[jb];omega
  | cons y r=>
   have e:jb (x::y::r)=x++32::jb (y::r):=by simp[jb]
   rw[e,length_append,length_cons];omega
theorem z4u:∀(l cur:Wd),szW (Lib.fieldsGo cur l)<=2*(cur.length+l.length)
 | [],cur=>by
  cases cur with
  | nil=>simp[Lib.fieldsGo,szW]
  | cons a z=>simp[Lib.fieldsGo,szW];omega
 | c::l,cur=>by
  cases hs:Lib.isSp c with
  | true=>
   have ih:=z4u l [];cases cur with
   | nil=>
    rw[Lib.fieldsGo_sp _ _ hs];simp only[length_nil,length_cons]at ih⊢;omega
   | cons a z=>
    rw[Lib.fieldsGo_end _ _ _ hs (by simp),q2h];simp only[length_nil,length_cons]at ih⊢;omega
  | false=>
   have ih:=z4u l (cur++[c]);rw[Lib.fieldsGo_more _ _ _ hs];simp only[length_append,length_cons,length_nil]at ih⊢;omega
theorem y7y(w:Wd):szW (z0j w)<=2*w.length:=by
 have:=z4u (w.drop 1) []
 rw[length_drop]at this;simp only[length_nil]at this;show szW (Lib.fieldsGo [] (w.drop 1))<=_;omega
theorem j7c:∀nts:List Wd,szW (nts.flatMap z0j)<=2*(nts.map length).sum
 | []=>zero_le _
 | x::r=>by
  have h1:=j7c r;have h2:=y7y x;rw[List.flatMap_cons,k7g,map_cons,sum_cons];omega
theorem v8i(ws:List Wd)(p k:Nat):(((ws.drop p).take k).map length).sum<=(ws.map length).sum:=by
 have e:ws=ws.take p++((ws.drop p).take k++(ws.drop p).drop k):=by rw[take_append_drop,take_append_drop]
 have h:=congrArg (fun l=>(l.map length).sum) e;simp only[List.map_append,List.sum_append]at h;omega
theorem j7t(s:ByteArray)(w:World):Cb 86 #[.slice none 0 0,.string s] w (.string ⟨#[]⟩):=by
 unfold Cb;go_in;go_wp2;go_ret;exact⟨rfl,Below.refl _ _⟩
theorem z5s{B:Nat}{w:World}{A:Option Addr}{n c:Nat}{xs:List ByteArray}(h:q2i B (.slice A n c) xs w):n=xs.length/\n<=c/\((A=none/\n=0/\c=0)\/∃g,A=some ⟨g,0,none⟩/\g<w.heap.size):=by
 rcases h.2 with⟨C,G⟩|⟨g,I,E,C,_,H,D,_⟩
 ·simp only[Value.slice.injEq]at C;obtain⟨rfl,rfl,rfl⟩:=C;exact⟨G.symm,le_refl _,.inl ⟨rfl,rfl,rfl⟩⟩
 ·simp only[Value.slice.injEq]at C;obtain⟨rfl,rfl,rfl⟩:=C;exact⟨rfl,D,.inr ⟨g,rfl,(Array.getElem?_eq_some_iff.1 H).1⟩⟩
theorem j7s{B:Nat}{A:Option Addr}{n c:Nat}{W:List Wd}{w:World}(h:q2i B (.slice A n c) (W.map wbS) w)(hs:szW W<=1000000):Cb 86 #[.slice A n c,.string ⟨#[32]⟩] w (.string (wbS (jb W))):=by
 unfold Cb;obtain⟨M,J,I⟩:=z5s h;have P:=k0t W;have E:=y3w W;have L:(W.map wbS).length=W.length:=length_map ..;rcases I with⟨rfl,rfl,rfl⟩|⟨g,rfl,K⟩
 ·have:W=[]:=List.eq_nil_of_length_eq_zero (by omega)
  subst this;exact j7t _ w
 ·subst M
  have H:(W.map wbS).map (fun x=>x.data.toList)=W:=by
   rw[List.map_map];exact List.map_id W
  have C:Lib.join ((W.map wbS).map (fun x=>x.data.toList)) (⟨#[32]⟩:ByteArray).data.toList=jb W:=by
   rw[H];exact j7o W
  have D:=join_sh g 0 c (W.map wbS) ⟨#[32]⟩ w ?_ K (by omega) J (by rw[C];omega)
  ·rw[C]at D;exact D
  ·intro j x N;obtain⟨E,rfl⟩:=List.getElem?_eq_some_iff.1 N;obtain⟨O,Q,e,_,G⟩:=q3t h j E;simp only[Option.some.injEq,Addr.mk.injEq,and_true]at e;obtain⟨rfl,rfl⟩:=e;exact G
theorem y6e{w:Wd}{S:ByteArray}(h:wbS w=S):S.extract 1 S.size=wbS (w.drop 1):=by
 subst h;rw[z0f]
 congr 1
 rw[List.take_of_length_le]
 ·rfl
 ·rw[length_drop,q0c];omega
theorem j1o{x:Wd}(hx:y0k x)(hl:x.length<=60000)(w:World)(ht:z2c w):Calls prog 118 #[.string (wbS (x.drop 1))] w fun e w'=>∃g,e=.returned (.slice (some ⟨g,0,none⟩) (z0j x).length (z0j x).length)/\Wds w' (some ⟨g,0,none⟩) ((z0j x).map wbS)/\Below w w w':=by
 have B:btL (wbS (x.drop 1))=x.drop 1:=rfl;refine(fields_sh (wbS (x.drop 1)) w (by rw[<-q0c,B,length_drop];omega) ?_ ht.spc).mono ?_
 ·intro j c D;have G:c∈x:=List.mem_of_mem_drop (List.mem_of_getElem? (show(x.drop 1)[j]?=some c from D))
  have:=hx.2 c G
  simp only[prB,Bool.and_eq_true,decide_eq_true_eq]at this;omega
 ·rintro e w'⟨rfl,rfl⟩;refine⟨w.heap.size,rfl,?_,q1w w _⟩;intro i C;have A:i<(z0j x).length:=by simpa using C
  refine⟨w.heap.size,0,rfl,by rw[World.size_alloc];omega,?_⟩;rw[Nat.zero_add];have E:=heap_alloc_new w (.cells ((Lib.fields (btL (wbS (x.drop 1)))).map fun l=>Value.string ⟨l.toArray⟩).toArray 9);rw[Lib.cell_of_heap E]
  show((Lib.fields (x.drop 1)).map fun l=>Value.string ⟨l.toArray⟩).toArray[i]?=_
  rw[List.getElem?_toArray,List.getElem?_map,show(Lib.fields (x.drop 1))[i]?=some (z0j x)[i]from List.getElem?_eq_getElem A];simp[wbS]
theorem k3i:∀(ws:List Wd)(x:Wd),x∈ws->x.length<=(ws.map length).sum
 | y::r,x,h=>by
  rw[map_cons,sum_cons];rcases List.mem_cons.1 h with rfl|h
  ·omega
  ·have:=k3i r x h
   omega
structure g1k(K:LwK)(ws:List Wd)(pl:Nat->Nat)(b p:Nat)(w:World)(q:Nat)(W:List Wd)(v:Value)(wr:World):Prop where
 pq:p<=q
 o:q2i w v (W.map wbS) wr
 rd:Ry K ws pl b q wr
 bt:But w b w wr
 eq:W=((ws.drop p).take (q-p)).flatMap z0j
 nt:∀x∈(ws.drop p).take (q-p),y0k x
structure y6v(K:LwK)(ws:List Wd)(pl:Nat->Nat)(b p:Nat)(w:World)(q:Nat)(n:Bool)(t:List Td)(v:Value)(w':World):Prop where
 lt:p<q
 o:q1b w v t w'
 ne:t≠[]
 l:t.length<=100000
 rd:Ry K ws pl b q w'
 bt:But w b w w'
 pg:∀pv acc r,(pv=true->∀x,ws[p]?=some x->x.headD 0≠35)->PG n (acc++[t]) (ws.drop q) r->PG pv acc (ws.drop p) r
 nx:n=true->∀x,ws[q]?=some x->x.headD 0≠35
inductive z6j (K:LwK) (ws:List Wd) (pl:Nat->Nat) (b p:Nat) (w:World):Ending->World->Prop where
 | ok {q n t A c w'} (h:y6v K ws pl b p w q n t (.slice A t.length c) w'):z6j K ws pl b p w (.returned (.slice A t.length c)) w'
 | bad {u w'} (pg:∀pv acc,PG pv acc (ws.drop p) (.bad u)) (bt:But w b w w'):z6j K ws pl b p w (.panicked [q5w (pl (ws.length-u.length))]) w'
theorem k0u{ws:List Wd}{p q:Nat}(h:p<=q)(hq:q<ws.length):(ws.drop p).take (q+1-p)=(ws.drop p).take (q-p)++[ws[q]]:=by
 rw[show q+1-p=q-p+1 by omega,List.take_succ_eq_append_getElem (by rw[length_drop];omega)]
 congr 2
 rw[List.getElem_drop]
 congr 1
 omega
theorem j1m(ws:List Wd){p q:Nat}(h:p<=q):ws.drop p=(ws.drop p).take (q-p)++ws.drop q:=by
 have e:ws.drop q=(ws.drop p).drop (q-p):=by rw[List.drop_drop];congr 1;omega
 rw[e,take_append_drop]
theorem j3y{K:LwK}{ws:List Wd}{pl:Nat->Nat}{b p:Nat}{w:World}(Aa:∀x∈ws,q3l x)(Au:(ws.map length).sum<=60000)(hp:p<ws.length)(hn:ws[p].headD 0=35)(u:∀w',But w b w w'->z2c w')(h:Ry K ws pl b p w):
  Calls prog 105 #[.pointer b] w fun e w'=>z6j K ws pl b p w e w':=by
 have j:=hid Aa;have Ag:=hid u
 have Ae:Hid (∀x∈ws,x.length<=60000):=fun x H=>by
  have:=k3i ws x H
  omega
 have i:Hid (∀q,szW (((ws.drop p).take (q-p)).flatMap z0j)<=120000):=fun q=>by
  have h1:=j7c ((ws.drop p).take (q-p));have h2:=v8i ws p (q-p);omega
 have An:=h.row.lt;have Ap:=h.gwlt;have Ao:=h.galt;have Ah:Hid (g1k K ws pl b p w p [] (.slice none 0 0) w):=⟨le_refl _,World.ownsRow_nil _ _ _ _,h,But.refl _ _ _,by simp,fun x H=>by simp at H⟩;clear h Aa u;go_in;go_wp2_with fail
 go_loopw [3] (fun x wr=>∃(q:Nat)(W:List Wd)(A:Option Addr)(n c:Nat),x=.slice A n c/\W.length=n/\g1k K ws pl b p w q W (.slice A n c) wr) (fun _ wr=>j2w wr b)
 case atStart=>exact⟨p,[],_,_,_,rfl,rfl,Ah.o⟩
 case round=>
  obtain⟨q,W,A,n,c,rfl,P,D⟩:=hrel;have At:=D.rd.le;have N:=hid D;have Aj:=hid P;have Ab:=D.bt.size;have G:Hid (Cw 79 #[.pointer b] wr (.string (wbS (ws.getD q [])))):=(q6t D.rd).mono fun _ _ h=>⟨h.1,h.2.symm⟩
  have E:Hid (Cw 104 #[.string (wbS (ws.getD q []))] wr (.bool (decide ((ws.getD q []).headD 0=35)))):=(z6h _ wr).mono fun _ _ h=>⟨h.1,h.2.symm⟩
  by_cases B:(ws.getD q []).headD 0=35
  ·have O:q<ws.length:=by
    rcases Nat.lt_or_ge q ws.length with h'|h'
    ·exact h'
    ·rw[q6y h']at B;simp at B
   rw[decide_eq_true B]at E;rw[q3z O]at B G E;have L:=y9t (j.o _ (getElem_mem O)) B;have HN:=hid (q8r D.rd O)
   have z:1<=(wbS ws[q]).size:=by
    have:=v2o (j.o _ (getElem_mem O))
    rw[<-q0c];exact this
   have HF:Hid (∀W',But w b w W'->Cp 118 #[.string ((wbS ws[q]).extract 1 (wbS ws[q]).size)] W' fun e w'=>∃g,e=.returned (.slice (some ⟨g,0,none⟩) (z0j ws[q]).length (z0j ws[q]).length)/\Wds w' (some ⟨g,0,none⟩) ((z0j ws[q]).map wbS)/\Below W' W' w'):=fun W' hB=>by
    rw[y6e rfl];exact j1o L (Ae.o _ (getElem_mem O)) W' (Ag.o W' hB)
   have Y:=i.o (q+1);rw[k0u D.pq O,List.flatMap_append,<-D.eq,List.flatMap_singleton,k7g]at Y;have Aq:=k0t W;have v:=k0t (z0j ws[q]);have y:n+(z0j ws[q]).length<=1000000:=by omega
   have Z:Hid (∀A2 c2 w2,q2i w (.slice A2 (n+(z0j ws[q]).length) c2) (W.map wbS++(z0j ws[q]).map wbS) w2->Ry K ws pl b (q+1) w2->But w b w w2->(W++z0j ws[q]).length=n+(z0j ws[q]).length/\g1k K ws pl b p w (q+1) (W++z0j ws[q]) (.slice A2 (n+(z0j ws[q]).length) c2) w2):=fun A2 c2 w2 h1 h2 h3=>by
    refine⟨by rw[length_append,Aj.o],Nat.le_succ_of_le N.o.pq,by rw[List.map_append];exact h1,h2,h3,?_,?_⟩
    ·rw[k0u N.o.pq O,List.flatMap_append,<-N.o.eq,List.flatMap_singleton]
    ·rw[k0u N.o.pq O];intro x H;rcases List.mem_append.1 H with H|H
     ·exact N.o.nt x H
     ·rw[List.mem_singleton]at H;rw[H];exact L
   have U:Hid (((z0j ws[q]).map wbS).length=(z0j ws[q]).length):=length_map ..;have Af:Hid ((W.map wbS).length=n):=(show _=_ by rw[length_map];exact P);generalize wbS ws[q]=S at G E HN HF z
   generalize(z0j ws[q]).map wbS=FS at HF Z U
   generalize(z0j ws[q]).length=fn at HF Z y U Y v
   clear D P B L Y Aq v;go_wp2_with fail;refine G.o.mono ?_;rintro e I⟨rfl,rfl⟩;go_wp2_with fail;refine E.o.mono ?_;rintro e I⟨rfl,rfl⟩;go_wp2_with fail;refine HN.o.mono ?_;rintro e w3⟨rfl,h3,b3⟩;have Ax:=b3.size;have R:=hid (N.o.bt.trans (b3.mono Ab));have d:=hid h3
   have a:Hid (q2i w (.slice A n c) (W.map wbS) w3):=by
    refine⟨N.o.o.1,?_⟩;rcases N.o.o.2 with h0|⟨g,c',Al,hv,hB,hg,Ac⟩
    ·exact .inl h0
    ·exact .inr ⟨g,c',Al,hv,hB,(b3.block g (Array.getElem?_eq_some_iff.1 hg).1 (by omega)).trans hg,Ac⟩
   clear h3 b3 HN G E;go_wp2_with fail;refine(HF.o w3 R.o).mono ?_;rintro e w4⟨g,rfl,m,l⟩;have Ay:=l.size;have V:=hid (q2r a.o l);have Ai:=hid m;have f:=hid (d.o.keep l);have Ad:=hid (R.o.trans (But.of (l.mono (by omega))));have Av:=f.o.row.lt;clear m l a d R;go_wp2_with(at_builtin;refine z8r rfl _ _ rfl w.heap.size _ (W.map wbS) rfl V.o (some ⟨g,0,none⟩) fn FS U.o fn rfl Ai.o (fun e=>by cases e) (n+fn) (by rw[Af.o]) y (by omega) ?_);intro A5 c5 w5 M C;have s:=Z.o A5 c5 w5 M ?rd5 ?bt5
   case rd5=>exact f.o.keepB ((Below.refl w.heap.size w4).grown C (by omega) (fun k hk=>(World.ownsRow.lt V.o k hk).1)) An Ap Ao
   case bt5=>exact Ad.o.grown C (by omega) (fun k hk=>(World.ownsRow.lt V.o k hk).1)
   have X:=hid s;clear s M C;go_wp2;refine⟨⟨q+1,_,A5,n+fn,c5,rfl,X.o.1,X.o.2⟩,?_⟩;rw[X.o.2.rd.len_eq,N.o.rd.len_eq];omega
  ·rw[decide_eq_false B]at E
   have As:p<q:=by
    rcases Nat.eq_or_lt_of_le D.pq with e|e
    ·subst e;rw[q3z hp]at B;exact absurd hn B
    ·exact e
   have Q:=i.o q;rw[<-D.eq]at Q;have HJ:=hid (j7s D.o (by omega))
   have Z:Hid (∀I,Below wr wr I->z6j K ws pl b p w (.returned (.slice I.heap.size 1 1)) (I.alloc (.cells #[.int .i64 9,.string (wbS (jb W)),.int .i64 0] 71))):=fun I hb1=>by
    have D:=N.o;have Aw:=hb1.size;have Am:=D.bt.trans (But.of (hb1.mono Ab));refine z6j.ok (q:=q) (n:=true) (t:=[ntT (jb W)]) ⟨As,(q1b.one I (ntT (jb W))).down (by omega),by simp,by simp,(D.rd.keep hb1).keep (q1w I _),Am.alloc (by omega) _,fun pv acc r hpv hr=>?_,fun _ x H=>?_⟩
    ·have Ar:pv=false:=by
      cases pv with
      | false=>rfl
      | true=>exact absurd hn (hpv rfl _ (List.getElem?_eq_getElem hp))
     subst Ar;rw[j1m ws D.pq];refine v7o (fun e=>?_) D.nt ?_
     ·have:=congrArg length e
      rw[List.length_take,length_drop]at this;simp only[length_nil]at this;omega
     ·rw[<-D.eq];exact hr
    ·obtain⟨O,rfl⟩:=List.getElem?_eq_some_iff.1 H;rw[q3z O]at B;exact B
   generalize wbS (jb W)=J at HJ Z;generalize wbS (ws.getD q [])=S at G E;clear D P B Q;go_wp2_with fail;refine G.o.mono ?_;rintro e I⟨rfl,rfl⟩;go_wp2_with fail;refine E.o.mono ?_;rintro e I⟨rfl,rfl⟩;go_wp2_with fail;refine HJ.o.mono ?_;rintro e I⟨rfl,b1⟩;have Ak:=hid (Z.o I b1);clear b1;go_wp2;go_ret;exact Ak.o
end Go.Proofs.YtchdplceopegoaaGreatDoor
