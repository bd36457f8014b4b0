import Derived.Test.YtelcnplcpboonaaGreatDoorPb07
import Derived.Test.YtelcnplcpboonaaGreatDoorPb04
import Derived.Test.YtelcnplcpboonaaGreatDoorPb05
import Derived.Test.YtelcnplcpboonaaGreatDoorShg
import Derived.Defers
import Derived.Lib.LaidTab
import Derived.BigRegion
import Derived.Laws.Strings2
open Go.Proofs.Tryz
namespace Go.Proofs.YtelcnplcpboonaaGreatDoor
open Go Go.RowKit
set_option maxRecDepth 100000
set_option maxHeartbeats 2000000
def z4x (w : World) : Prop := Lib.TabIs prog w "internal/strconv.uint64pow10" .u64 Lib.pow10Tab
structure q7n(w:World):Prop where
 pow:z4x w
 spc : Lib.TabIs prog w "strings.asciiSpace" .u8 Lib.asciiSpaceTab
theorem k1f{n:String}{k:IntKind}{zs:List Int}{w w':World}{g:Nat}(hg:prog.globalNamed n=some g)(h:Lib.TabIs prog w n k zs)(hb:Below w w w'):Lib.TabIs prog w' n k zs:=by
 unfold Lib.TabIs World.var? at h⊢;rw[hg]at h⊢;simp only[Option.bind_some]at h⊢
 have B:g<w.heap.size:=by
  rcases Nat.lt_or_ge g w.heap.size with A|A
  ·exact A
  ·rw[Array.getElem?_eq_none A]at h;cases h
 rw[hb.block g B];exact h
theorem z4x.W{w w':World}(h:z4x w)(hb:Below w w w'):z4x w':=k1f (g:=4) (by kernel_rfl) h hb
theorem q7n.W{w w':World}(h:q7n w)(hb:Below w w w'):q7n w':=
 ⟨h.pow.W hb,k1f (g:=5) (by kernel_rfl) h.spc hb⟩
theorem q1c(w:World)(o:Obj):Below w w (w.alloc o):= Zb.alloc Zl _
theorem z1m(w:World)(o:Obj):Below w w (w.alloc o).drew:=(q1c w o).drew
theorem j8d{w:World}{b o c:Nat}{x:Td}{ds:List Td}(h:Tds w (some ⟨b,o,none⟩) (x::ds))(hc:(x::ds).length<=c):
  ∃A,(∀W:World,(Instr.slice 82 (.slice (some ⟨b,o,none⟩) (x::ds).length c) (some (.int .i64 1)) none none).run prog W=.ok (.slice A ds.length (c-1)) W)/\Tds w A ds:=by
 refine⟨if c=1 then some ⟨b,o,none⟩else some ⟨b,o+3,none⟩,fun W=>?_,?_⟩
 ·rw[run_slice_l W 82 _ (x::ds).length c Tryz.underlying82 .i64 1 (by omega) (by simp only[List.length_cons];omega)];have I:(sizeOf (prog.elem 82)).run prog W=.ok 3 W:=by kernel_rfl
  rw[I];have H:(⟨b,o,none⟩:Addr).add 3=⟨b,o+3,none⟩:=rfl;simp[Result.andThen,sliced,H]
 ·by_cases e:c=1
  ·have:ds=[]:=List.eq_nil_of_length_eq_zero (by simp only[List.length_cons]at hc;omega)
   rw[this];exact Tds.nil _ _
  ·rw[if_neg e];intro i K;obtain⟨J,L,G,B,C,D,E⟩:=h (i+1) (by simp only[List.length_cons];omega);simp only[Option.some.injEq,Addr.mk.injEq,and_true]at G;obtain⟨rfl,rfl⟩:=G;simp only[List.getElem_cons_succ]at C D E;refine⟨b,o+3,rfl,B,?_,?_,?_⟩
   ·rw[show o+3+i*3=o+(i+1)*3 by omega];exact C
   ·rw[show o+3+i*3+1=o+(i+1)*3+1 by omega];exact D
   ·rw[show o+3+i*3+2=o+(i+1)*3+2 by omega];exact E
structure Wy(w0:World)(b:Nat)(bs:List UInt8)(ds:List Td)(w:World)(A:Option Addr)(c:Nat):Prop where
 x:IsX 203 w0.heap.size b (Lib.byteCells bs) [.slice A ds.length c] w
 le:ds.length<=c
 td:Tds w0 A ds
 bl:Below w0 w0 w
 lt:w0.heap.size<=b
def WyE(w0:World)(b:Nat)(bs:List UInt8)(ds:List Td)(w:World):Prop:=∃A c,Wy w0 b bs ds w A c
theorem y0h:q9v 203 3:=by unfold q9v;kernel_rfl
theorem wrT:203≠5:=by decide
theorem q2r(a b:List UInt8):Lib.byteCells (a++b)=Lib.byteCells a++Lib.byteCells b:=by simp[Lib.byteCells]
theorem IsX.grew{T B b:Nat}{bs R:List Value}{w w':World}(h:IsX T B b bs R w)(hb:Below w w w'):IsX T B b bs R w':=by
 have C:∀p,XAt T B b p bs R w->XAt T B b p bs R w':=by
  rintro p⟨v,D,A,G,H⟩;refine⟨v,(hb.block b ?_).trans D,A.kept (row:=none) ⟨hb.os,hb.tape,hb.output,hb.size,fun k D _=>hb.block k D⟩ (by cases I:v.ownBlock<;>simp),G,H⟩;rcases Nat.lt_or_ge b w.heap.size with E|E
  ·exact E
  ·simp[Array.getElem?_eq_none E]at D
 exact h.imp (C _) (C _)
theorem Wy.grew{w0:World}{b:Nat}{bs:List UInt8}{ds:List Td}{w w':World}{A:Option Addr}{c:Nat}(h:Wy w0 b bs ds w A c)(hb:Below w w w'):Wy w0 b bs ds w' A c:=
 ⟨h.x.grew hb,h.le,h.td,q0g h.bl Zl hb,h.lt⟩
theorem q6w{w0:World}{b:Nat}{bs:List UInt8}{ds:List Td}{w:World}{A:Option Addr}{c:Nat}(h:Wy w0 b bs ds w A c)(k:UInt8)(hl:bs.length<=1000000):
  Calls prog 132 #[.pointer (some ⟨b,0,none⟩),.int .u8 (k.toNat:Int)] w fun e w'=>e=.returned .nilIface/\Wy w0 b (bs++[k]) ds w' A c:=by
 refine(k1k 203 w0.heap.size b (Lib.byteCells bs) [.slice A ds.length c] (k.toNat:Int) w y0h wrT h.x (by rw[Lib.byteCells_length];omega) h.bl.size).mono ?_;rintro e w'⟨rfl,B,C,_⟩;refine⟨rfl,?_,h.le,h.td,h.bl.trans (C.W h.lt),h.lt⟩;rw[q2r];exact B
theorem q4k{w0:World}{b:Nat}{bs:List UInt8}{ds:List Td}{w:World}{A:Option Addr}{c:Nat}(h:Wy w0 b bs ds w A c)(s:ByteArray)(hl:bs.length<=1000000)(hs:s.size<=1000000):
  Calls prog 10 #[.pointer (some ⟨b,0,none⟩),.string s] w fun e w'=>e=.returned (.tuple #[.int .i64 s.size,.nilIface])/\Wy w0 b (bs++btL s) ds w' A c/\Lib.OthersKept 5 (some b) w w':=by
 refine(q6e 203 w0.heap.size b (Lib.byteCells bs) [.slice A ds.length c] s w y0h wrT h.x (by rw[Lib.byteCells_length];omega) h.bl.size).mono ?_;rintro e w'⟨rfl,B,C,D⟩;refine⟨rfl,⟨?_,h.le,h.td,h.bl.trans (C.W h.lt),h.lt⟩,D⟩;rw[q2r];exact B
theorem j9l(T B b:Nat)(bs R:List Value)(c:Int)(u:FrameMode)(w:World)(hl:q9v T (R.length+2))(hT:T≠5)(h:IsX T B b bs R w)(V:bs.length+1<=140737488355328)(d:B<=w.heap.size):
  CallsD prog 132 #[.pointer (some ⟨b,0,none⟩),.int .u8 c] u w fun e u' w'=>u'=u/\(e=.returned .nilIface/\(IsX T B b (bs++[.int .u8 c]) R w'/\q0j B b w w')):=by
 obtain⟨m,f,Q,S,U⟩:=info_parts j9h;have X:Hid (q9v T (R.length+2)):=hl;have Y:Hid (T≠5):=hT;have H:Hid (IsX T B b bs R w):=h;clear hl hT h;go_enter_d func132,ntmps132;go_wp2_with(go_at_call 24;refine(z0z T B b bs R _ X.o H.o).mono ?_);rintro e K⟨rfl,a,E,i⟩;obtain⟨v,I,J,P,_⟩:=a;have o:K.cell? ⟨b,0,none⟩=some (.pointer (some ⟨b,0,none⟩)):=by rw[Lib.cell_of_heap I];rfl
 have c1:K.cell? ⟨b,1,none⟩=some v:=by rw[Lib.cell_of_heap I];rfl
 go_wp2_with(at_builtin;refine wpList_append_ownF _ rfl _ _ 36 rfl B 5 m (.int .u8 0) 1 1 Tryz.underlying36 f Q S U rfl (by decide) _ _ _ rfl (J.alloc _) ⟨K,0,none⟩ 1 1 [.int .u8 c] rfl rfl ?c1 ?c2 ?c3 ?c4 ?c5 ?_)
 case c1=>
  intro j u L
  match j,L with
  | 0,L=>simp at L;subst L;simp[Addr.add]
 case c2=>intro u W;simp at W;subst W;rfl
 case c3=>unfold maxLen;omega
 case c4=>omega
 case c5=>have:=E.size;simp;omega
 intro n M C A _
 have O:b<K.heap.size:=by
  rcases Nat.lt_or_ge b K.heap.size with N|N
  ·exact N
  ·simp[Array.getElem?_eq_none N]at I
 have G:M.heap[b]?=some (.cells (.pointer (some ⟨b,0,none⟩)::v::R).toArray T (0,0)):=by
  rw[A.block b (by simp;omega) (fun e=>P e.symm),Lib.alloc_old K _ b O];exact I
 have q:M.cell? ⟨b,0,none⟩=some (.pointer (some ⟨b,0,none⟩)):=by rw[Lib.cell_of_heap G];rfl
 have r:M.cell? ⟨b,1,none⟩=some v:=by rw[Lib.cell_of_heap G];rfl
 have s:M.frozen? ⟨b,1,none⟩=false:=Lib.frozen_of_heap G 1
 obtain⟨g,D,rfl⟩:∃g D,n=.slice (some ⟨g,0,none⟩) (bs.length+1) D:=by
  rcases C.2 with⟨_,x⟩|⟨g,D,Z,t,l,_⟩
  ·omega
  ·exact⟨g,D,l⟩
 go_wp2;go_ret;refine⟨rfl,.inr ?_,?_⟩
 ·exact XAt.put G (bs':=bs++[.int .u8 c]) (by simpa using C) Y.o (fun h=>by simp at h)
 ·exact((E.alloc (by have:=E.size;omega) _).grown A (by have:=E.size;simp;omega) (fun k hk=>(J.lt k hk).1)).setCell (p:=⟨b,1,none⟩) (.inl rfl) _
theorem k1h{w0:World}{b:Nat}{bs:List UInt8}{ds:List Td}{w:World}{A:Option Addr}{c:Nat}(h:Wy w0 b bs ds w A c)(k:UInt8)(u:FrameMode)(hl:bs.length<=1000000):
  CallsD prog 132 #[.pointer (some ⟨b,0,none⟩),.int .u8 (k.toNat:Int)] u w fun e u' w'=>u'=u/\(e=.returned .nilIface/\Wy w0 b (bs++[k]) ds w' A c):=by
 refine(j9l 203 w0.heap.size b (Lib.byteCells bs) [.slice A ds.length c] (k.toNat:Int) u w y0h wrT h.x (by rw[Lib.byteCells_length];omega) h.bl.size).mono ?_;rintro e u' w'⟨rfl,rfl,B,C⟩;refine⟨rfl,rfl,?_,h.le,h.td,h.bl.trans (C.W h.lt),h.lt⟩;rw[q2r];exact B
theorem q4j{w0:World}{b:Nat}{bs:List UInt8}{x:Td}{ds:List Td}{w:World}{A:Option Addr}{c:Nat}(h:Wy w0 b bs (x::ds) w A c):
  Calls prog 166 #[.pointer (some ⟨b,0,none⟩)] w fun e w'=>e=.returned (tdV x)/\WyE w0 b bs ds w':=by
 obtain⟨D,J,rfl,B,K,L,M⟩:=h.td 0 (by simp);obtain⟨C,E,G⟩:=j8d h.td h.le;simp only[List.getElem_cons_zero,Nat.zero_mul,Nat.add_zero]at K L M;obtain⟨I,_⟩:=q0t h.bl;have g:w.cell? ⟨D,J,none⟩=some (.int .i64 x.op):=(I _ _ B).trans K;have i:w.cell? ⟨D,J+1,none⟩=some (.string x.tx):=(I _ _ B).trans L;have j:w.cell? ⟨D,J+2,none⟩=some (.int .i64 x.n):=(I _ _ B).trans M;have X:b<w.heap.size:=h.x.lt;have a:D<w.heap.size:=Nat.lt_of_lt_of_le B h.bl.size;have V:w.cell? ⟨b,2,none⟩=some (.slice (some ⟨D,J,none⟩) (x::ds).length c):=h.x.cellR 0;have k:w.frozen? ⟨b,2,none⟩=false:=h.x.frozen 2;have Y:¬D=b:=by have:=h.lt;omega
 have H:=hid h;have U:Hid (Tds w0 C ds):=G;have O:=h.le;generalize P:(x::ds).length=n at V E O;have W:0<n:=by rw[<-P];simp
 have f:Hid ((x::ds).length=n):=P;clear h G K L M I P;generalize R:ds.length=m at E;have S:Hid (ds.length=m):=R;clear R;go_in;go_wp2;refine bodyPost_ret (v:=tdV x) (by simp[results,Tryz.results166,go_sem]) rfl ?_;have h:=H.o;have Z:=h.x.stored 0 (.slice C m (c-1));have N:Below w0 w0 (w.setCell ⟨b,2,none⟩ (.slice C m (c-1))):=h.bl.setCell (p:=⟨b,2,none⟩) h.lt _;have Q:IsX 203 w0.heap.size b (Lib.byteCells bs) [.slice C ds.length (c-1)] (w.setCell ⟨b,2,none⟩ (.slice C m (c-1))):=by rw[S.o];exact Z
 refine⟨rfl,C,c-1,((Q.alloc _).alloc _),?_,U.o,?_,h.lt⟩
 ·have:=h.le;simp only[List.length_cons]at this;omega
 ·have d:=h.bl.size;exact(N.alloc (by rw[World.size_setCell];exact d) _).alloc (by rw[World.size_alloc,World.size_setCell];omega) _
theorem z9z(x:Td)(op:Int)(A:op=5\/op=6)(s:Bool)(w:World):Calls prog 262 #[.int .i64 x.op,.int .i64 op,.bool s] w fun e w'=>e=.returned (.bool (decide (prc x<(op-5).toNat+s.toNat)))/\w'=w:=by
 have D:prc x=if x.op=5 then 0 else if x.op=6 then 1 else 2:=rfl
 rw[D];generalize x.op=k;clear D;by_cases B:k=5
 ·subst B;rcases A with rfl|rfl<;>cases s
  all_goals
   go_in;go_wp2;go_ret;exact⟨rfl,rfl⟩
 ·by_cases C:k=6
  ·subst C;rcases A with rfl|rfl<;>cases s
   all_goals
    go_in;go_wp2;go_ret;exact⟨rfl,rfl⟩
  ·rw[if_neg B,if_neg C];have E:(k==5)=false:=by simp[B]
   have G:(k==6)=false:=by simp[C]
   rcases A with rfl|rfl<;>cases s
   all_goals
    go_in;go_wp2;go_ret;exact⟨rfl,rfl⟩
structure LwK where
 gw:Nat
 cw:Nat
 ga:Nat
 ca:Nat
structure Ry(K:LwK)(ws:List Wd)(pl:Nat->Nat)(b q:Nat)(w:World):Prop where
 le:q<=ws.length
 c0:w.cell? ⟨b,0,none⟩=some (.slice (some ⟨K.gw,q,none⟩) (ws.length+1-q) (K.cw-q))
 c1:w.cell? ⟨b,1,none⟩=some (.slice (some ⟨K.ga,q,none⟩) (ws.length+1-q) (K.ca-q))
 row:k1o w b 2
 wd:∀i,i<=ws.length->w.cell? ⟨K.gw,i,none⟩=some (.string (wbS (ws.getD i [])))
 pt:∀i,i<=ws.length->w.cell? ⟨K.ga,i,none⟩=some (.int .i64 (pl i:Int))
 nw:K.gw≠b
 na:K.ga≠b
 lw:ws.length<K.cw
 la:ws.length<K.ca
 few:ws.length<=60000
section
variable {K:LwK} {ws:List Wd} {pl:Nat→Nat} {b q:Nat} {w w':World}
theorem Ry.gwlt(h:Ry K ws pl b q w):K.gw<w.heap.size:=World.block_lt_of_cell? _ _ (h.wd 0 (Nat.zero_le _))
theorem Ry.galt(h:Ry K ws pl b q w):K.ga<w.heap.size:=World.block_lt_of_cell? _ _ (h.pt 0 (Nat.zero_le _))
theorem Ry.keepB{B:Nat}(h:Ry K ws pl b q w)(hb:Below B w w')(h1:b<B)(h2:K.gw<B)(h3:K.ga<B):Ry K ws pl b q w':=
 ⟨h.le,(hb.cell (p:=⟨b,0,none⟩) h1).trans h.c0,(hb.cell (p:=⟨b,1,none⟩) h1).trans h.c1,h.row.kept (hb.block b h1),fun i hi=>(hb.cell (p:=⟨K.gw,i,none⟩) h2).trans (h.wd i hi),fun i hi=>(hb.cell (p:=⟨K.ga,i,none⟩) h3).trans (h.pt i hi),h.nw,h.na,h.lw,h.la,h.few⟩
theorem Ry.keep(h:Ry K ws pl b q w)(hb:Below w w w'):Ry K ws pl b q w':=h.keepB hb h.row.lt h.gwlt h.galt
theorem Ry.step(h:Ry K ws pl b q w)(hq:q<ws.length){w':World}(A:w'=(w.setCell ⟨b,0,none⟩ (.slice (some ⟨K.gw,q+1,none⟩) (ws.length-q) (K.cw-q-1))).setCell ⟨b,1,none⟩ (.slice (some ⟨K.ga,q+1,none⟩) (ws.length-q) (K.ca-q-1))):Ry K ws pl b (q+1) w':=by
 subst A;have B:ws.length+1-(q+1)=ws.length-q:=by omega
 refine⟨hq,?_,?_,h.row.set.set,fun i hi=>?_,fun i hi=>?_,h.nw,h.na,h.lw,h.la,h.few⟩
 ·rw[B,Nat.sub_add_eq];exact(cso (.inr (by omega))).trans (css h.c0)
 ·rw[B,Nat.sub_add_eq];exact css ((cso (.inr (by omega))).trans h.c1)
 ·exact(cso (.inl h.nw.symm)).trans ((cso (.inl h.nw.symm)).trans (h.wd i hi))
 ·exact(cso (.inl h.na.symm)).trans ((cso (.inl h.na.symm)).trans (h.pt i hi))
end
theorem q3d{ws:List Wd}{q:Nat}(h:q<ws.length):ws.getD q []=ws[q]:=by simp[h]
theorem q5q{ws:List Wd}{q:Nat}(h:ws.length<=q):ws.getD q []=[]:=by simp[h]
theorem q5m{K:LwK}{ws:List Wd}{pl:Nat->Nat}{b q:Nat}{w:World}(h:Ry K ws pl b q w):
  Calls prog 117 #[.pointer (some ⟨b,0,none⟩)] w fun e w'=>e=.returned (.string (wbS (ws.getD q [])))/\w'=w:=by
 have A:=h.c0;have B:=h.wd q h.le;generalize wbS (ws.getD q [])=S at B⊢;have C:0<ws.length+1-q:=by have:=h.le;omega
 generalize ws.length+1-q=n at A C;generalize K.cw-q=c at A;clear h;go_in;go_wp2;go_ret;exact⟨rfl,rfl⟩
theorem v4k(b o n c:Nat)(hn:1<=n)(hc:1<c)(W:World):
  (Instr.slice 72 (.slice (some ⟨b,o,none⟩) n c) (some (.int .i64 1)) none none).run prog W=.ok (.slice (some ⟨b,o+1,none⟩) (n-1) (c-1)) W:=by
 rw[run_slice_l W 72 _ n c Tryz.underlying72 .i64 1 (by omega) (by omega)];have C:(sizeOf (prog.elem 72)).run prog W=.ok 1 W:=by kernel_rfl
 rw[C];have B:(⟨b,o,none⟩:Addr).add 1=⟨b,o+1,none⟩:=rfl;have A:¬c=1:=by omega
 simp[Result.andThen,sliced,B,A]
theorem v2a(b o n c:Nat)(hn:1<=n)(hc:1<c)(W:World):
  (Instr.slice 73 (.slice (some ⟨b,o,none⟩) n c) (some (.int .i64 1)) none none).run prog W=.ok (.slice (some ⟨b,o+1,none⟩) (n-1) (c-1)) W:=by
 rw[run_slice_l W 73 _ n c Tryz.underlying73 .i64 1 (by omega) (by omega)];have C:(sizeOf (prog.elem 73)).run prog W=.ok 1 W:=by kernel_rfl
 rw[C];have B:(⟨b,o,none⟩:Addr).add 1=⟨b,o+1,none⟩:=rfl;have A:¬c=1:=by omega
 simp[Result.andThen,sliced,B,A]
theorem q6y{K:LwK}{ws:List Wd}{pl:Nat->Nat}{b q:Nat}{w:World}(h:Ry K ws pl b q w)(hq:q<ws.length):
  Calls prog 183 #[.pointer (some ⟨b,0,none⟩)] w fun e w'=>e=.returned (.string (wbS ws[q]))/\Ry K ws pl b (q+1) w'/\But w b w w':=by
 have G:=h.c0;have I:=h.c1;have J:=h.wd q h.le;rw[q3d hq]at J;have P:w.frozen? ⟨b,0,none⟩=false:=h.row.frozen;have Q:w.frozen? ⟨b,1,none⟩=false:=h.row.frozen;have H:=hid h;have O:=h.lw;have N:=h.la;generalize wbS ws[q]=S at J⊢;have D:Hid (ws.length+1-q-1=ws.length-q):=(show _=_ by omega);have E:1<=ws.length+1-q:=by omega
 have B:=v4k K.gw q (ws.length+1-q) (K.cw-q) E (by omega);have C:=v2a K.ga q (ws.length+1-q) (K.ca-q) E (by omega);rw[D.o]at B C;generalize ws.length+1-q=n at G I B C E
 have A:Hid (∀w',w'=(w.setCell ⟨b,0,none⟩ (.slice (some ⟨K.gw,q+1,none⟩) (ws.length-q) (K.cw-q-1))).setCell ⟨b,1,none⟩ (.slice (some ⟨K.ga,q+1,none⟩) (ws.length-q) (K.ca-q-1))->Ry K ws pl b (q+1) w'/\But w b w w'):=fun w' hw=>⟨H.o.step hq hw,by
  subst hw
  exact((But.refl _ _ _).setCell (p:=⟨b,0,none⟩) (.inl rfl) _).setCell (p:=⟨b,1,none⟩) (.inl rfl) _⟩
 generalize ws.length-q=m at B C A;generalize K.cw-q=cw at G B A;generalize K.ca-q=ca at I C A;clear h O N hq;go_in;go_wp2_with fail
 go_region
 go_wp2;go_ret;obtain⟨L,M⟩:=A.o _ rfl;exact⟨rfl,L.keep (Below.drew Zb),M.drew⟩
abbrev q4c(k:Nat):PanicEntry:={v:=.iface 178 (.agg #[.int .i64 (k:Int)]),recovered:=false}
theorem k1l{K:LwK}{ws:List Wd}{pl:Nat->Nat}{b q:Nat}{w:World}(h:Ry K ws pl b q w):
  Calls prog 185 #[.pointer (some ⟨b,0,none⟩)] w fun e w'=>e=.panicked [q4c (pl q)]/\w'=w:=by
 have A:=h.c1;have C:=h.pt q h.le;have B:0<ws.length+1-q:=by have:=h.le;omega
 generalize ws.length+1-q=n at A B;generalize K.ca-q=c at A;clear h;go_in;go_wp2;exact⟨rfl,rfl,rfl⟩
theorem z4f(s:Wd)(lo hi:Nat)(w:World)(h1:1<=lo):
  Calls prog 216 #[.string (wbS s),.int .u8 (lo:Int),.int .u8 (hi:Int)] w fun e w'=>e=.returned (.bool (decide (lo<=(s.headD 0).toNat)&&decide ((s.headD 0).toNat<=hi)))/\w'=w:=by
 cases s with
 | nil=>
  have J:(decide (lo<=(([]:Wd).headD 0).toNat)&&decide ((([]:Wd).headD 0).toNat<=hi))=false:=by
   have:¬lo<=(([]:Wd).headD 0).toNat:=by show ¬lo<=0;omega
   simp only[decide_eq_false this,Bool.false_and]
  rw[J];have L:wbS []=⟨#[]⟩:=rfl;rw[L];clear J;go_in;go_wp2;go_ret;exact⟨rfl,rfl⟩
 | cons c r=>
  have D:0<(wbS (c::r)).size:=by rw[<-q0b];show 0<(c::r).length;simp
  have B:∀h:0<(wbS (c::r)).size,(wbS (c::r))[0]=c:=fun _=>rfl
  have H:¬(wbS (c::r)).toList=[]:=by rw[Lib.toList_data];show ¬(c::r)=[];simp
  have C:((wbS (c::r)).toList==[])=false:=by rw[Lib.toList_data];rfl
  have O:(⟨#[]⟩:ByteArray).toList=[]:=by rw[Lib.toList_data]
  show Calls _ _ _ _ fun e w'=>e=.returned (.bool (decide (lo<=c.toNat)&&decide (c.toNat<=hi)))/\w'=w
  have E:Hid (∀(a b:Bool),a=decide ((lo:Int)<=(c.toNat:Int))->b=decide ((c.toNat:Int)<=(hi:Int))->(decide (lo<=c.toNat)&&decide (c.toNat<=hi))=(a&&b)):=fun a b ha hb=>by
   subst ha hb;have M:decide ((lo:Int)<=(c.toNat:Int))=decide (lo<=c.toNat):=by congr 1;simp
   have N:decide ((c.toNat:Int)<=(hi:Int))=decide (c.toNat<=hi):=by congr 1;simp
   rw[M,N]
  generalize(decide (lo<=c.toNat)&&decide (c.toNat<=hi))=R at E⊢
  generalize wbS (c::r)=S at D B H C⊢;have K:=B D;clear B;by_cases G:(lo:Int)<=(c.toNat:Int)
  ·by_cases I:(c.toNat:Int)<=(hi:Int)
   ·have A:=E.o true true (decide_eq_true G).symm (decide_eq_true I).symm;simp only[Bool.and_self]at A;subst A;go_in;go_wp2;go_ret;exact⟨rfl,rfl⟩
   ·have A:=E.o true false (decide_eq_true G).symm (decide_eq_false I).symm;simp only[Bool.and_false]at A;subst A;go_in;go_wp2;go_ret;exact⟨rfl,rfl⟩
  ·have A:=E.o false (decide ((c.toNat:Int)<=(hi:Int))) (decide_eq_false G).symm rfl;simp only[Bool.false_and]at A;subst A;go_in;go_wp2;go_ret;exact⟨rfl,rfl⟩
theorem j0n(s:Wd)(w:World):Calls prog 240 #[.string (wbS s)] w fun e w'=>e=.returned (.bool (k3j s))/\w'=w:=by
 have A:Hid (∀W,Calls prog 216 #[.string (wbS s),.int .u8 48,.int .u8 57] W fun e w'=>e=.returned (.bool (k3j s))/\w'=W):=fun W=>z4f s 48 57 W (by omega)
 generalize k3j s=R at A⊢;go_in;go_wp2_with fail;refine(A.o _).mono ?_;rintro e B⟨rfl,rfl⟩;go_wp2;go_ret;exact⟨rfl,rfl⟩
theorem y5n:nmW z1o=false:=by decide
theorem k4i(s:Wd)(hs:s=[]\/q3q s)(w:World):Calls prog 184 #[.string (wbS s)] w fun e w'=>e=.returned (.bool (nmW s))/\w'=w:=by
 by_cases B:s=z1o
 ·subst B;rw[y5n];have G:wbS z1o=⟨#[108,101,116]⟩:=rfl;rw[G];clear hs;go_in;go_wp2;go_ret;exact⟨rfl,rfl⟩
 ·have E:nmW s=q3g (s.headD 0):=by
   rcases hs with rfl|hs
   ·decide
   ·rw[v4w hs];simp[B]
  rw[E];have C:Hid (∀W,Calls prog 216 #[.string (wbS s),.int .u8 97,.int .u8 122] W fun e w'=>e=.returned (.bool (q3g (s.headD 0)))/\w'=W):=fun W=>z4f s 97 122 W (by omega)
  have A:((wbS s).toList==[108,101,116])=false:=by
   rw[Lib.toList_data]
   show(s==[108,101,116])=false
   simpa using B
  have D:¬(wbS s).toList=[108,101,116]:=by
   intro e;rw[e]at A;cases A
  have H:(⟨#[108,101,116]⟩:ByteArray).toList=[108,101,116]:=by rw[Lib.toList_data]
  generalize q3g (s.headD 0)=R at C⊢;generalize wbS s=S at C D A⊢;clear hs E B;go_in;go_wp2_with fail;refine(C.o _).mono ?_;rintro e I⟨rfl,rfl⟩;go_wp2;go_ret;exact⟨rfl,rfl⟩
theorem z4h(s:Wd)(w:World):Calls prog 145 #[.string (wbS s)] w fun e w'=>e=.returned (.bool (decide (s.headD 0=35)))/\w'=w:=by
 have A:Hid (∀W,Calls prog 181 #[.string (wbS s),.string ⟨#[35]⟩] W fun e w'=>e=.returned (.bool (decide (s.headD 0=35)))/\w'=W):=fun W=>by
  have h:=hasPrefix_sh (wbS s) ⟨#[35]⟩ W
  have B:Lib.hasPrefix (wbS s).data.toList (⟨#[35]⟩:ByteArray).data.toList=decide (s.headD 0=35):=by
   show Lib.hasPrefix s [35]=_;cases s with
   | nil=>decide
   | cons c r=>
    show([35]:Wd).isPrefixOf (c::r)=decide (c=35)
    simp only[List.isPrefixOf,Bool.and_true];rw[Bool.eq_iff_iff,beq_iff_eq,decide_eq_true_eq];exact⟨Eq.symm,Eq.symm⟩
  rw[B]at h;exact h
 generalize decide (s.headD 0=35)=R at A⊢;go_in;go_wp2_with fail;refine(A.o _).mono ?_;rintro e C⟨rfl,rfl⟩;go_wp2;go_ret;exact⟨rfl,rfl⟩
section
variable {K:LwK} {ws:List Wd} {pl:Nat→Nat} {b q:Nat} {w:World}
theorem y6y(a c:Wd):((wbS a).toList==(wbS c).toList)=(a==c):=by
 rw[Lib.toList_data,Lib.toList_data];rfl
theorem q6f(h:Ry K ws pl b q w)(s:Wd)(hs:ws[q]?=some s):
  Calls prog 147 #[.pointer (some ⟨b,0,none⟩),.string (wbS s)] w fun e w'=>e=.returned (.bool true)/\Ry K ws pl b (q+1) w'/\But w b w w':=by
 obtain⟨C,B⟩:=List.getElem?_eq_some_iff.1 hs
 have E:Hid (Calls prog 117 #[.pointer (some ⟨b,0,none⟩)] w fun e w'=>e=.returned (.string (wbS s))/\w'=w):=by
  have A:=q5m h;rw[q3d C,B]at A;exact A
 have D:Hid (Calls prog 183 #[.pointer (some ⟨b,0,none⟩)] w fun e w'=>e=.returned (.string (wbS s))/\Ry K ws pl b (q+1) w'/\But w b w w'):=by
  have A:=q6y h C;rw[B]at A;exact A
 have J:((wbS s).toList==(wbS s).toList)=true:=by simp
 generalize wbS s=S at E D J⊢;clear h hs C B;go_in;go_wp2_with fail;refine E.o.mono ?_;rintro e L⟨rfl,rfl⟩;go_wp2_with fail;refine D.o.mono ?_;rintro e M⟨rfl,H,G⟩;have I:=hid (And.intro H G);clear H G;go_wp2;go_ret;exact⟨rfl,I.o⟩
theorem q6x(h:Ry K ws pl b q w)(s:Wd)(h0:s≠[])(hs:ws[q]?≠some s):
  Calls prog 147 #[.pointer (some ⟨b,0,none⟩),.string (wbS s)] w fun e w'=>e=.returned (.bool false)/\w'=w:=by
 have C:Hid (Calls prog 117 #[.pointer (some ⟨b,0,none⟩)] w fun e w'=>e=.returned (.string (wbS (ws.getD q [])))/\w'=w):=q5m h
 have B:((wbS (ws.getD q [])).toList==(wbS s).toList)=false:=by
  rw[y6y];by_cases D:q<ws.length
  ·rw[q3d D];rw[List.getElem?_eq_getElem D]at hs;simpa using hs
  ·rw[q5q (by omega)];cases s with
   | nil=>exact absurd rfl h0
   | cons=>rfl
 have A:¬(wbS (ws.getD q [])).toList=(wbS s).toList:=by
  intro e;rw[e]at B;simp at B
 generalize wbS (ws.getD q [])=X at C B A;generalize wbS s=S at B A⊢;clear h hs h0;go_in;go_wp2_with fail;refine C.o.mono ?_;rintro e E⟨rfl,rfl⟩;go_wp2;go_ret;exact⟨rfl,rfl⟩
theorem q5l(h:Ry K ws pl b q w)(s:Wd)(hs:ws[q]?=some s):
  Calls prog 149 #[.pointer (some ⟨b,0,none⟩),.string (wbS s)] w fun e w'=>e=.returned (.tuple #[])/\Ry K ws pl b (q+1) w'/\But w b w w':=by
 have A:Hid (Calls prog 147 #[.pointer (some ⟨b,0,none⟩),.string (wbS s)] w fun e w'=>e=.returned (.bool true)/\Ry K ws pl b (q+1) w'/\But w b w w'):=q6f h s hs;generalize wbS s=S at A⊢;clear h hs;go_in;go_wp2_with fail;refine A.o.mono ?_;rintro e E⟨rfl,C,B⟩;have D:=hid (And.intro C B);clear C B;go_wp2
 go_end0
 exact⟨rfl,D.o⟩
theorem q6g(h:Ry K ws pl b q w)(s:Wd)(h0:s≠[])(hs:ws[q]?≠some s):
  Calls prog 149 #[.pointer (some ⟨b,0,none⟩),.string (wbS s)] w fun e w'=>e=.panicked [q4c (pl q)]/\w'=w:=by
 have A:Hid (Calls prog 147 #[.pointer (some ⟨b,0,none⟩),.string (wbS s)] w fun e w'=>e=.returned (.bool false)/\w'=w):=q6x h s h0 hs;have B:Hid (Calls prog 185 #[.pointer (some ⟨b,0,none⟩)] w fun e w'=>e=.panicked [q4c (pl q)]/\w'=w):=k1l h;generalize wbS s=S at A⊢;clear h hs h0;go_in;go_wp2_with fail;refine A.o.mono ?_;rintro e C⟨rfl,rfl⟩;go_wp2_with fail;refine B.o.mono ?_;rintro e C⟨rfl,rfl⟩;go_wp2;exact⟨rfl,rfl,rfl⟩
end
def q0u(ds:List Td):List Value:=ds.flatMap fun x=>[.int .i64 x.op,.string x.tx,.int .i64 x.n]
theorem q6a:∀ds:List Td,(q0u ds).length=ds.length*3
 | []=>rfl
 | x::r=>by
  have:=q6a r
  unfold q0u at this⊢;rw[List.flatMap_cons,List.length_append,this,List.length_cons];simp;omega
theorem z3t(a b:List Td):q0u (a++b)=q0u a++q0u b:=by simp[q0u,List.flatMap_append]
theorem z0v:∀(ds:List Td)(i:Nat)(h:i<ds.length),(q0u ds)[i*3]?=some (.int .i64 ds[i].op)/\(q0u ds)[i*3+1]?=some (.string ds[i].tx)/\(q0u ds)[i*3+2]?=some (.int .i64 ds[i].n)
 | x::r,0,_=>by simp[q0u]
 | x::r,i+1,h=>by
  have h1:=z0v r i (by simpa using h);have e:q0u (x::r)=.int .i64 x.op::.string x.tx::.int .i64 x.n::q0u r:=by simp[q0u]
  rw[e,show(i+1)*3=i*3+1+1+1 by omega];exact h1
theorem z3u(ds:List Td):∀u∈q0u ds,u.oneCell'=true:=by
 intro u B;obtain⟨x,_,A⟩:=List.mem_flatMap.1 B;simp at A;rcases A with rfl|rfl|rfl<;>rfl
theorem k3z(ds:List Td)(j:Nat)(u:Value)(h:(q0u ds)[j]?=some u):∃i,∃hi:i<ds.length,(j=i*3/\u=.int .i64 ds[i].op)\/(j=i*3+1/\u=.string ds[i].tx)\/(j=i*3+2/\u=.int .i64 ds[i].n):=by
 have E:j<ds.length*3:=by rw[<-q6a];exact(List.getElem?_eq_some_iff.1 h).1
 have hi:j / 3<ds.length:=by omega
 obtain⟨A,B,C⟩:=z0v ds (j / 3) hi;refine⟨j / 3,hi,?_⟩;have D:j=j / 3*3\/j=j / 3*3+1\/j=j / 3*3+2:=by omega
 rcases D with e|e|e
 ·rw[<-e,h]at A;exact .inl ⟨e,Option.some.inj A⟩
 ·rw[<-e,h]at B;exact .inr (.inl ⟨e,Option.some.inj B⟩)
 ·rw[<-e,h]at C;exact .inr (.inr ⟨e,Option.some.inj C⟩)
theorem j8c:(prog.info? 81).map (fun i=>(i.zero,i.size,i.bytes))=some (some (.agg #[.int .i64 0,.string ⟨#[]⟩,.int .i64 0]),3,32):=by kernel_rfl
theorem k3s{B:Nat}{w:World}{a:Option Addr}{n D:Nat}{ds:List Td}(h:w.ownsRow B 81 3 (.slice a n D) ds.length (q0u ds)):n=ds.length/\ds.length<=D/\Tds w a ds:=by
 rcases h.2 with⟨E,I⟩|⟨g,c,N,E,_,M,L,_,Q,C⟩
 ·simp only[Value.slice.injEq]at E;obtain⟨rfl,rfl,rfl⟩:=E;refine⟨I.symm,by omega,fun i hi=>?_⟩;omega
 ·simp only[Value.slice.injEq]at E;obtain⟨rfl,rfl,rfl⟩:=E;refine⟨rfl,L,fun i hi=>?_⟩
  have K:g<w.heap.size:=by
   rcases Nat.lt_or_ge g w.heap.size with H|H
   ·exact H
   ·simp[Array.getElem?_eq_none H]at M
  have A:∀k u,(q0u ds)[k]?=some u->w.cell? ⟨g,k,none⟩=some u:=by
   intro k u G;rw[<-C]at G
   have J:k<ds.length*3:=by
    have:=(List.getElem?_eq_some_iff.1 G).1
    simp at this;omega
   rw[List.getElem?_take_of_lt J]at G;simp only[World.cell?,M];simpa using G
  obtain⟨I,O,P⟩:=z0v ds i hi;refine⟨g,0,rfl,K,?_,?_,?_⟩
  ·rw[Nat.zero_add];exact A _ _ I
  ·rw[Nat.zero_add];exact A _ _ O
  ·rw[Nat.zero_add];exact A _ _ P
theorem k7d{w:World}{b o:Nat}{ds:List Td}(h:Tds w (some ⟨b,o,none⟩) ds):∀j u,(q0u ds)[j]?=some u->w.cell? ((⟨b,o,none⟩:Addr).add j)=some u:=by
 intro j u H;obtain⟨i,G,E⟩:=k3z ds j u H;obtain⟨I,J,e,_,A,B,C⟩:=h i G;simp only[Option.some.injEq,Addr.mk.injEq,and_true]at e;obtain⟨rfl,rfl⟩:=e
 have D:∀k,(⟨b,o,none⟩:Addr).add k=⟨b,o+k,none⟩:=by
  intro k;unfold Addr.add
  split
  ·rename_i h;subst h;rfl
  ·rfl
 rw[D];rcases E with⟨rfl,rfl⟩|⟨rfl,rfl⟩|⟨rfl,rfl⟩
 ·exact A
 ·rw[show o+(i*3+1)=o+i*3+1 by omega];exact B
 ·rw[show o+(i*3+2)=o+i*3+2 by omega];exact C
def q1p(B:Nat)(v:Value)(xs:List Td)(w:World):Prop:=w.ownsRow B 81 3 v xs.length (q0u xs)
theorem q1p.tds{B:Nat}{w:World}{A:Option Addr}{n c:Nat}{xs:List Td}(h:q1p B (.slice A n c) xs w):Tds w A xs:=(k3s h).2.2
theorem q1p.none{B:Nat}{w:World}{A:Option Addr}{n c:Nat}{xs:List Td}(h:q1p B (.slice A n c) xs w):n=xs.length/\(A=none->n=0/\c=0):=by
 rcases h.2 with⟨C,E⟩|⟨g,G,D,C,_⟩
 ·simp only[Value.slice.injEq]at C;obtain⟨rfl,rfl,rfl⟩:=C;exact⟨E.symm,fun _=>⟨rfl,rfl⟩⟩
 ·simp only[Value.slice.injEq]at C;obtain⟨rfl,rfl,rfl⟩:=C;exact⟨rfl,fun e=>by cases e⟩
theorem k1w{w:World}{G:Array Oper}{rest:List Oper}{o:Oper}{a:Act}{Q:Exit->Act->World->Prop}(J:o.guard=none)(s x:Operand)
  (ho:o.op=.call {callee:=.builtin .append,args:=#[s,x],argTypes:=#[82,82]})
  (B:Nat) (v:Value) (xs:List Td) (hs:a.eval s=v) (C:q1p B v xs w)
  (wa:Option Addr) (n:Nat) (ws:List Td) (hn:ws.length=n) (wc:Nat) (hx:a.eval x=.slice wa n wc) (hW:Tds w wa ws) (K:wa=none->n=0/\wc=0)
  (m:Nat) (hm:xs.length+n=m) (hb:m<=1000000) (E:B<=w.heap.size)
  (h:∀A c w',q1p B (.slice A m c) (xs++ws) w'->w.grownBy w' v.ownBlock->wpList prog G Q rest (a.put o.dst (.slice A m c)) w'):wpList prog G Q (o::rest) a w:=by
 subst hn hm;obtain⟨V,U,O,P,R⟩:=info_parts j8c
 have S:∀H w',q1p B H (xs++ws) w'->w.grownBy w' v.ownBlock->wpList prog G Q rest (a.put o.dst H) w':=by
  intro H w' I M
  obtain⟨A,c,rfl⟩:∃A c,H=.slice A (xs.length+ws.length) c:=by
   rcases I.2 with⟨L,D⟩|⟨g,c,W,L,_⟩
   ·rw[List.length_append]at D;exact⟨.none,0,by rw[L,D]⟩
   ·rw[List.length_append]at L;exact⟨_,c,L⟩
  exact h A c w' I M
 cases wa with
 | none=>
  obtain⟨D,rfl⟩:=K rfl;obtain rfl:ws=[]:=List.eq_nil_of_length_eq_zero D;refine wpList_append_own_none J s x 82 ho B 81 V 3 Tryz.underlying82 U v xs.length (q0u xs) hs C hx ?_;refine S v w ?_ ⟨rfl,rfl,rfl,Nat.le_refl _,fun _ _ _=>rfl⟩;rw[List.append_nil];exact C
 | some ad=>
  have N:ws=[]\/∃b o,ad=⟨b,o,Option.none⟩:=by
   rcases Nat.eq_zero_or_pos ws.length with D|D
   ·exact .inl (List.eq_nil_of_length_eq_zero D)
   ·obtain⟨b,o,e,_⟩:=hW 0 D;exact .inr ⟨b,o,by simpa using e⟩
  refine wpList_append_own w J s x 82 ho B 81 V _ 3 32 Tryz.underlying82 U O P R rfl (by decide) v xs.length (q0u xs) hs C ad ws.length wc (q0u ws) hx (q6a ws) ?_ (z3u ws) (by unfold maxLen;omega) (by omega) E ?_
  ·rcases N with rfl|⟨b,o,rfl⟩
   ·intro j u X;simp[q0u]at X
   ·exact k7d hW
  ·intro H w' I M _;rw[<-z3t]at I;refine S H w' ?_ M;show w'.ownsRow _ _ _ _ _ _;rw[List.length_append];exact I
theorem q1p.down{B B':Nat}{v:Value}{xs:List Td}{w:World}(h:q1p B v xs w)(hB:B'<=B):q1p B' v xs w:=by
 refine⟨h.1,?_⟩;rcases h.2 with D|⟨g,c,C,E,G,A⟩
 ·exact .inl D
 ·exact .inr ⟨g,c,C,E,by omega,A⟩
theorem q1p.kept{B:Nat}{v:Value}{xs:List Td}{w w':World}(h:q1p B v xs w)(hk:∀g,B<=g->g<w.heap.size->w'.heap[g]?=w.heap[g]?):q1p B v xs w':=by
 refine⟨h.1,?_⟩;rcases h.2 with G|⟨g,c,C,H,D,E,A⟩
 ·exact .inl G
 ·exact .inr ⟨g,c,C,H,D,(hk g D (Array.getElem?_eq_some_iff.1 E).1).trans E,A⟩
theorem q1p.one(w:World)(x:Td):q1p w (.slice (some ⟨w.heap.size,0,Option.none⟩) 1 1) [x] (w.alloc (.cells #[.int .i64 x.op,.string x.tx,.int .i64 x.n] 81)):=by
 have A:(w.alloc (.cells #[.int .i64 x.op,.string x.tx,.int .i64 x.n] 81)).heap[w.heap.size]?=some (.cells #[.int .i64 x.op,.string x.tx,.int .i64 x.n] 81 (0,0)):=by
  show(w.heap.push _)[w.heap.size]?=_
  simp
 exact⟨rfl,.inr ⟨w.heap.size,1,_,rfl,Nat.le_refl _,A,Nat.le_refl _,by unfold maxLen;decide,rfl,rfl⟩⟩
theorem z4d(s:ByteArray)(w:World):Calls prog 219 #[.string s] w fun e w'=>e=.returned (.bool (okW s))/\w=w':=by
 by_cases L:(s.size:Int)<1
 ·have e:okW s=false:=by simp[okW];omega
  rw[e];clear e;go_in;go_wp2;go_ret;exact⟨rfl,rfl⟩
 by_cases M:20<(s.size:Int)
 ·have e:okW s=false:=by simp[okW];omega
  rw[e];clear e;go_in;go_wp2;go_ret;exact⟨rfl,rfl⟩
 go_in;go_wp2
 go_loopw [14] (fun i wr=>wr=w/\∃k:Nat,k<=s.size/\i=.int .i64 k/\∀j(h:j<s.size),j<k->q9r s[j]=true) (fun i _=>s.size-(intOf i).toNat)
 case atStart=>exact⟨rfl,0,Nat.zero_le _,rfl,fun j _ K=>by omega⟩
 case round=>
  obtain⟨rfl,k,N,rfl,A⟩:=hrel;have H:Hid (∀j(h:j<s.size),j<k->q9r s[j]=true):=A;clear A;by_cases G:k<s.size
  ·cases B:q9r s[k]with
   | false=>
    have C:Hid (okW s=false):=y2d G B;have D:=k4a B;clear B;rcases D with D|⟨D,J⟩
    ·go_wp2;go_ret;exact⟨by rw[C.o];rfl,rfl⟩
    ·go_wp2;go_ret;exact⟨by rw[C.o];rfl,rfl⟩
   | true=>
    have I:Hid (q9r s[k]=true):=B;obtain⟨D,J⟩:=j0h B;clear B;go_wp2
    go_roundw
    case rel=>
     refine⟨by trivial,k+1,by omega,by go_num,?_⟩;intro j h K;by_cases E:j=k
     ·subst E;exact I.o
     ·exact H.o j h (by omega)
    case measure=>simp[intOf];omega
  ·have C:Hid (okW s=true):=v3l (by omega) (by omega) fun j h=>H.o j h (by omega)
   go_wp2;go_ret;exact⟨by rw[C.o];rfl,rfl⟩
theorem q5k(ws:List ByteArray)(a:Option Addr)(H:Nat)(w:World)(hW:Wds w a ws):
  Calls prog 189 #[.slice a ws.length H] w fun e w'=>e=.returned (q0s (q1h ws))/\w=w':=by
 have L:Hid (Wds w a ws):=hW;clear hW;by_cases Q:60<(ws.length:Int)
 ·have D:Hid (q1h ws=3):=q8c (by omega);go_in;go_wp2;go_ret;exact⟨by rw[D.o];rfl,rfl⟩
 go_in;go_wp2
 go_loopw [11] (fun i wr=>wr=w/\∃k:Nat,k<=ws.length/\i=.int .i64 k/\∀j(h:j<ws.length),j<k->okW ws[j]=true) (fun i _=>ws.length-(intOf i).toNat)
 case atStart=>exact⟨rfl,0,Nat.zero_le _,rfl,fun j _ hj=>by omega⟩
 case round=>
  obtain⟨rfl,k,R,rfl,A⟩:=hrel;have J:Hid (∀j(h:j<ws.length),j<k->okW ws[j]=true):=A;clear A;by_cases E:k<ws.length
  ·obtain⟨P,S,M,N,K⟩:=L.o k E;subst M;cases B:okW ws[k]with
   | false=>
    have D:Hid (q1h ws=5):=j0k (by omega) E B;have C:Hid (okW ws[k]=false):=B;generalize ws[k]=x at K C;clear B;go_wp2_with fail;refine(z4d _ _).mono ?_;rintro e O⟨rfl,rfl⟩;rw[C.o];go_wp2;go_ret;exact⟨by rw[D.o];rfl,rfl⟩
   | true=>
    have C:Hid (okW ws[k]=true):=B
    have G:Hid (∀j(h:j<ws.length),j<k+1->okW ws[j]=true):=fun j h hj=>by
     by_cases I:j=k
     ·subst I;exact B
     ·exact J.o j h (by omega)
    generalize ws[k]=x at K C;clear B;go_wp2_with fail;refine(z4d _ _).mono ?_;rintro e O⟨rfl,rfl⟩;rw[C.o];go_wp2
    go_roundw
    case rel=>exact⟨by trivial,k+1,by omega,by go_num,G.o⟩
    case measure=>simp[intOf];omega
  ·have D:Hid (q1h ws=0):=j0j (by omega) fun j h=>J.o j h (by omega)
   go_wp2;go_ret;exact⟨by rw[D.o];rfl,rfl⟩
end Go.Proofs.YtelcnplcpboonaaGreatDoor
