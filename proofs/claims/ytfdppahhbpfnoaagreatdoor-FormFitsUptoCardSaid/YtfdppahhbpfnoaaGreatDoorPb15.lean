import Derived.Test.YtfdppahhbpfnoaaGreatDoorPb12
import Derived.Test.YtfdppahhbpfnoaaGreatDoorShg
import Derived.Defers
import Derived.Lib.LaidTab
import Derived.Laws.Strings2
import Derived.Test.YtfdppahhbpfnoaaGreatDoorPb11
open Go.Proofs.Tryz
namespace Go.Proofs.YtfdppahhbpfnoaaGreatDoor
open Go Go.RowKit
set_option maxRecDepth 100000
set_option maxHeartbeats 2000000
def z7n (w : World) : Prop := Lib.TabIs prog w "internal/strconv.uint64pow10" .u64 Lib.pow10Tab
structure z1a(w:World):Prop where
 pow:z7n w
 spc : Lib.TabIs prog w "strings.asciiSpace" .u8 Lib.asciiSpaceTab
theorem k3j{n:String}{k:IntKind}{zs:List Int}{w w':World}{g:Nat}(hg:prog.globalNamed n=some g)(h:Lib.TabIs prog w n k zs)(hb:Below w w w'):Lib.TabIs prog w' n k zs:=by
 unfold Lib.TabIs World.var? at h⊢;rw[hg]at h⊢;simp only[Option.bind_some]at h⊢
 have B:g<w.heap.size:=by
  rcases Nat.lt_or_ge g w.heap.size with A|A
  ·exact A
  ·rw[Array.getElem?_eq_none A]at h;cases h
 rw[hb.block g B];exact h
theorem z7n.W{w w':World}(h:z7n w)(hb:Below w w w'):z7n w':=k3j (g:=4) (by kernel_rfl) h hb
theorem z1a.W{w w':World}(h:z1a w)(hb:Below w w w'):z1a w':=
 ⟨h.pow.W hb,k3j (g:=1) (by kernel_rfl) h.spc hb⟩
theorem q2m(w:World)(o:Obj):Below w w (w.alloc o):= Zb.alloc Zl _
theorem z2o(w:World)(o:Obj):Below w w (w.alloc o).drew:=(q2m w o).drew
theorem v0b{w:World}{b o c:Nat}{x:Td}{ds:List Td}(h:Tds w (some ⟨b,o,none⟩) (x::ds))(hc:(x::ds).length<=c):
  ∃A,(∀W:World,(Instr.slice 22 (.slice (some ⟨b,o,none⟩) (x::ds).length c) (some (.int .i64 1)) none none).run prog W=.ok (.slice A ds.length (c-1)) W)/\Tds w A ds:=by
 refine⟨if c=1 then some ⟨b,o,none⟩else some ⟨b,o+3,none⟩,fun W=>?_,?_⟩
 ·rw[run_slice_l W 22 _ (x::ds).length c Tryz.underlying22 .i64 1 (by omega) (by simp only[List.length_cons];omega)];have I:(sizeOf (prog.elem 22)).run prog W=.ok 3 W:=by kernel_rfl
  rw[I];have H:(⟨b,o,none⟩:Addr).add 3=⟨b,o+3,none⟩:=rfl;simp[Result.andThen,sliced,H]
 ·by_cases e:c=1
  ·have:ds=[]:=List.eq_nil_of_length_eq_zero (by simp only[List.length_cons]at hc;omega)
   rw[this];exact Tds.nil _ _
  ·rw[if_neg e];intro i K;obtain⟨J,L,G,B,C,D,E⟩:=h (i+1) (by simp only[List.length_cons];omega);simp only[Option.some.injEq,Addr.mk.injEq,and_true]at G;obtain⟨rfl,rfl⟩:=G;simp only[List.getElem_cons_succ]at C D E;refine⟨b,o+3,rfl,B,?_,?_,?_⟩
   ·rw[show o+3+i*3=o+(i+1)*3 by omega];exact C
   ·rw[show o+3+i*3+1=o+(i+1)*3+1 by omega];exact D
   ·rw[show o+3+i*3+2=o+(i+1)*3+2 by omega];exact E
structure Wy(w0:World)(b:Nat)(bs:List UInt8)(ds:List Td)(w:World)(A:Option Addr)(c:Nat):Prop where
 x:IsX 91 w0.heap.size b (Lib.byteCells bs) [.slice A ds.length c] w
 le:ds.length<=c
 td:Tds w0 A ds
 bl:Below w0 w0 w
 lt:w0.heap.size<=b
def WyE(w0:World)(b:Nat)(bs:List UInt8)(ds:List Td)(w:World):Prop:=∃A c,Wy w0 b bs ds w A c
theorem y2l:z0y 91 3:=by unfold z0y;kernel_rfl
theorem wrT:91≠5:=by decide
theorem q3z(a b:List UInt8):Lib.byteCells (a++b)=Lib.byteCells a++Lib.byteCells b:=by simp[Lib.byteCells]
theorem IsX.grew{T B b:Nat}{bs R:List Value}{w w':World}(h:IsX T B b bs R w)(hb:Below w w w'):IsX T B b bs R w':=by
 have C:∀p,XAt T B b p bs R w->XAt T B b p bs R w':=by
  rintro p⟨v,D,A,G,H⟩;refine⟨v,(hb.block b ?_).trans D,A.kept (row:=none) ⟨hb.os,hb.tape,hb.output,hb.size,fun k D _=>hb.block k D⟩ (by cases I:v.ownBlock<;>simp),G,H⟩;rcases Nat.lt_or_ge b w.heap.size with E|E
  ·exact E
  ·simp[Array.getElem?_eq_none E]at D
 exact h.imp (C _) (C _)
theorem Wy.grew{w0:World}{b:Nat}{bs:List UInt8}{ds:List Td}{w w':World}{A:Option Addr}{c:Nat}(h:Wy w0 b bs ds w A c)(hb:Below w w w'):Wy w0 b bs ds w' A c:=
 ⟨h.x.grew hb,h.le,h.td,q0d h.bl Zl hb,h.lt⟩
theorem q7t{w0:World}{b:Nat}{bs:List UInt8}{ds:List Td}{w:World}{A:Option Addr}{c:Nat}(h:Wy w0 b bs ds w A c)(k:UInt8)(hl:bs.length<=1000000):
  Calls prog 45 #[.pointer (some ⟨b,0,none⟩),.int .u8 (k.toNat:Int)] w fun e w'=>e=.returned .nilIface/\Wy w0 b (bs++[k]) ds w' A c:=by
 refine(k3q 91 w0.heap.size b (Lib.byteCells bs) [.slice A ds.length c] (k.toNat:Int) w y2l wrT h.x (by rw[Lib.byteCells_length];omega) h.bl.size).mono ?_;rintro e w'⟨rfl,B,C,_⟩;refine⟨rfl,?_,h.le,h.td,h.bl.trans (C.W h.lt),h.lt⟩;rw[q3z];exact B
theorem q4s{w0:World}{b:Nat}{bs:List UInt8}{ds:List Td}{w:World}{A:Option Addr}{c:Nat}(h:Wy w0 b bs ds w A c)(s:ByteArray)(hl:bs.length<=1000000)(hs:s.size<=1000000):
  Calls prog 38 #[.pointer (some ⟨b,0,none⟩),.string s] w fun e w'=>e=.returned (.tuple #[.int .i64 s.size,.nilIface])/\Wy w0 b (bs++btL s) ds w' A c/\Lib.OthersKept 5 (some b) w w':=by
 refine(q9h 91 w0.heap.size b (Lib.byteCells bs) [.slice A ds.length c] s w y2l wrT h.x (by rw[Lib.byteCells_length];omega) h.bl.size).mono ?_;rintro e w'⟨rfl,B,C,D⟩;refine⟨rfl,⟨?_,h.le,h.td,h.bl.trans (C.W h.lt),h.lt⟩,D⟩;rw[q3z];exact B
theorem v1h(T B b:Nat)(bs R:List Value)(c:Int)(u:FrameMode)(w:World)(hl:z0y T (R.length+2))(hT:T≠5)(h:IsX T B b bs R w)(V:bs.length+1<=140737488355328)(d:B<=w.heap.size):
  CallsD prog 45 #[.pointer (some ⟨b,0,none⟩),.int .u8 c] u w fun e u' w'=>u'=u/\(e=.returned .nilIface/\(IsX T B b (bs++[.int .u8 c]) R w'/\q0p B b w w')):=by
 obtain⟨m,f,Q,S,U⟩:=info_parts v6r;have X:Hid (z0y T (R.length+2)):=hl;have Y:Hid (T≠5):=hT;have H:Hid (IsX T B b bs R w):=h;clear hl hT h;go_enter_d func45,ntmps45;go_wp2_with(go_at_call 75;refine(z1z T B b bs R _ X.o H.o).mono ?_);rintro e K⟨rfl,a,E,i⟩;obtain⟨v,I,J,P,_⟩:=a;have o:K.cell? ⟨b,0,none⟩=some (.pointer (some ⟨b,0,none⟩)):=by rw[Lib.cell_of_heap I];rfl
 have c1:K.cell? ⟨b,1,none⟩=some v:=by rw[Lib.cell_of_heap I];rfl
 go_wp2_with(at_builtin;refine wpList_append_ownF _ rfl _ _ 79 rfl B 5 m (.int .u8 0) 1 1 Tryz.underlying79 f Q S U rfl (by decide) _ _ _ rfl (J.alloc _) ⟨K,0,none⟩ 1 1 [.int .u8 c] rfl rfl ?c1 ?c2 ?c3 ?c4 ?c5 ?_)
 case c1=>
  intro j u L
  match j,L with
  | 0,L=>simp at L;subst L;simp[Addr.add]
 case c2=>intro u W;simp at W;subst W;rfl
 case c3=>unfold maxLen;omega
 case c4=>omega
 case c5=>have:=E.size;simp;omega
 intro n M C A _
 have O:b<K.heap.size:=by
  rcases Nat.lt_or_ge b K.heap.size with N|N
  ·exact N
  ·simp[Array.getElem?_eq_none N]at I
 have G:M.heap[b]?=some (.cells (.pointer (some ⟨b,0,none⟩)::v::R).toArray T (0,0)):=by
  rw[A.block b (by simp;omega) (fun e=>P e.symm),Lib.alloc_old K _ b O];exact I
 have q:M.cell? ⟨b,0,none⟩=some (.pointer (some ⟨b,0,none⟩)):=by rw[Lib.cell_of_heap G];rfl
 have r:M.cell? ⟨b,1,none⟩=some v:=by rw[Lib.cell_of_heap G];rfl
 have s:M.frozen? ⟨b,1,none⟩=false:=Lib.frozen_of_heap G 1
 obtain⟨g,D,rfl⟩:∃g D,n=.slice (some ⟨g,0,none⟩) (bs.length+1) D:=by
  rcases C.2 with⟨_,x⟩|⟨g,D,Z,t,l,_⟩
  ·omega
  ·exact⟨g,D,l⟩
 go_wp2;go_ret;refine⟨rfl,.inr ?_,?_⟩
 ·exact XAt.put G (bs':=bs++[.int .u8 c]) (by simpa using C) Y.o (fun h=>by simp at h)
 ·exact((E.alloc (by have:=E.size;omega) _).grown A (by have:=E.size;simp;omega) (fun k hk=>(J.lt k hk).1)).setCell (p:=⟨b,1,none⟩) (.inl rfl) _
theorem k3m{w0:World}{b:Nat}{bs:List UInt8}{ds:List Td}{w:World}{A:Option Addr}{c:Nat}(h:Wy w0 b bs ds w A c)(k:UInt8)(u:FrameMode)(hl:bs.length<=1000000):
  CallsD prog 45 #[.pointer (some ⟨b,0,none⟩),.int .u8 (k.toNat:Int)] u w fun e u' w'=>u'=u/\(e=.returned .nilIface/\Wy w0 b (bs++[k]) ds w' A c):=by
 refine(v1h 91 w0.heap.size b (Lib.byteCells bs) [.slice A ds.length c] (k.toNat:Int) u w y2l wrT h.x (by rw[Lib.byteCells_length];omega) h.bl.size).mono ?_;rintro e u' w'⟨rfl,rfl,B,C⟩;refine⟨rfl,rfl,?_,h.le,h.td,h.bl.trans (C.W h.lt),h.lt⟩;rw[q3z];exact B
theorem q4r{w0:World}{b:Nat}{bs:List UInt8}{x:Td}{ds:List Td}{w:World}{A:Option Addr}{c:Nat}(h:Wy w0 b bs (x::ds) w A c):
  Calls prog 83 #[.pointer (some ⟨b,0,none⟩)] w fun e w'=>e=.returned (tdV x)/\WyE w0 b bs ds w':=by
 obtain⟨D,J,rfl,B,K,L,M⟩:=h.td 0 (by simp);obtain⟨C,E,G⟩:=v0b h.td h.le;simp only[List.getElem_cons_zero,Nat.zero_mul,Nat.add_zero]at K L M;obtain⟨I,_⟩:=q1o h.bl;have g:w.cell? ⟨D,J,none⟩=some (.int .i64 x.op):=(I _ _ B).trans K;have i:w.cell? ⟨D,J+1,none⟩=some (.string x.tx):=(I _ _ B).trans L;have j:w.cell? ⟨D,J+2,none⟩=some (.int .i64 x.n):=(I _ _ B).trans M;have X:b<w.heap.size:=h.x.lt;have a:D<w.heap.size:=Nat.lt_of_lt_of_le B h.bl.size;have V:w.cell? ⟨b,2,none⟩=some (.slice (some ⟨D,J,none⟩) (x::ds).length c):=h.x.cellR 0;have k:w.frozen? ⟨b,2,none⟩=false:=h.x.frozen 2;have Y:¬D=b:=by have:=h.lt;omega
 have H:=hid h;have U:Hid (Tds w0 C ds):=G;have O:=h.le;generalize P:(x::ds).length=n at V E O;have W:0<n:=by rw[<-P];simp
 have f:Hid ((x::ds).length=n):=P;clear h G K L M I P;generalize R:ds.length=m at E;have S:Hid (ds.length=m):=R;clear R;go_in;go_wp2;refine bodyPost_ret (v:=tdV x) (by simp[results,Tryz.results83,go_sem]) rfl ?_;have h:=H.o;have Z:=h.x.stored 0 (.slice C m (c-1));have N:Below w0 w0 (w.setCell ⟨b,2,none⟩ (.slice C m (c-1))):=h.bl.setCell (p:=⟨b,2,none⟩) h.lt _;have Q:IsX 91 w0.heap.size b (Lib.byteCells bs) [.slice C ds.length (c-1)] (w.setCell ⟨b,2,none⟩ (.slice C m (c-1))):=by rw[S.o];exact Z
 refine⟨rfl,C,c-1,((Q.alloc _).alloc _),?_,U.o,?_,h.lt⟩
 ·have:=h.le;simp only[List.length_cons]at this;omega
 ·have d:=h.bl.size;exact(N.alloc (by rw[World.size_setCell];exact d) _).alloc (by rw[World.size_alloc,World.size_setCell];omega) _
theorem k2q(x:Td)(op:Int)(A:op=5\/op=6)(s:Bool)(w:World):Calls prog 206 #[.int .i64 x.op,.int .i64 op,.bool s] w fun e w'=>e=.returned (.bool (decide (prc x<(op-5).toNat+s.toNat)))/\w'=w:=by
 have D:prc x=if x.op=5 then 0 else if x.op=6 then 1 else 2:=rfl
 rw[D];generalize x.op=k;clear D;by_cases B:k=5
 ·subst B;rcases A with rfl|rfl<;>cases s
  all_goals
   go_in;go_wp2;go_ret;exact⟨rfl,rfl⟩
 ·by_cases C:k=6
  ·subst C;rcases A with rfl|rfl<;>cases s
   all_goals
    go_in;go_wp2;go_ret;exact⟨rfl,rfl⟩
  ·rw[if_neg B,if_neg C];have E:(k==5)=false:=by simp[B]
   have G:(k==6)=false:=by simp[C]
   rcases A with rfl|rfl<;>cases s
   all_goals
    go_in;go_wp2;go_ret;exact⟨rfl,rfl⟩
structure LwK where
 gw:Nat
 cw:Nat
 ga:Nat
 ca:Nat
structure Ry(K:LwK)(ws:List Wd)(pl:Nat->Nat)(b q:Nat)(w:World):Prop where
 le:q<=ws.length
 c0:w.cell? ⟨b,0,none⟩=some (.slice (some ⟨K.gw,q,none⟩) (ws.length+1-q) (K.cw-q))
 c1:w.cell? ⟨b,1,none⟩=some (.slice (some ⟨K.ga,q,none⟩) (ws.length+1-q) (K.ca-q))
 row:k0j w b 2
 wd:∀i,i<=ws.length->w.cell? ⟨K.gw,i,none⟩=some (.string (wbS (ws.getD i [])))
 pt:∀i,i<=ws.length->w.cell? ⟨K.ga,i,none⟩=some (.int .i64 (pl i:Int))
 nw:K.gw≠b
 na:K.ga≠b
 lw:ws.length<K.cw
 la:ws.length<K.ca
 few:ws.length<=60000
section
variable {K:LwK} {ws:List Wd} {pl:Nat→Nat} {b q:Nat} {w w':World}
theorem Ry.gwlt(h:Ry K ws pl b q w):K.gw<w.heap.size:=World.block_lt_of_cell? _ _ (h.wd 0 (Nat.zero_le _))
theorem Ry.galt(h:Ry K ws pl b q w):K.ga<w.heap.size:=World.block_lt_of_cell? _ _ (h.pt 0 (Nat.zero_le _))
theorem Ry.keepB{B:Nat}(h:Ry K ws pl b q w)(hb:Below B w w')(h1:b<B)(h2:K.gw<B)(h3:K.ga<B):Ry K ws pl b q w':=
 ⟨h.le,(hb.cell (p:=⟨b,0,none⟩) h1).trans h.c0,(hb.cell (p:=⟨b,1,none⟩) h1).trans h.c1,h.row.kept (hb.block b h1),fun i hi=>(hb.cell (p:=⟨K.gw,i,none⟩) h2).trans (h.wd i hi),fun i hi=>(hb.cell (p:=⟨K.ga,i,none⟩) h3).trans (h.pt i hi),h.nw,h.na,h.lw,h.la,h.few⟩
theorem Ry.keep(h:Ry K ws pl b q w)(hb:Below w w w'):Ry K ws pl b q w':=h.keepB hb h.row.lt h.gwlt h.galt
theorem Ry.step(h:Ry K ws pl b q w)(hq:q<ws.length){w':World}(A:w'=(w.setCell ⟨b,0,none⟩ (.slice (some ⟨K.gw,q+1,none⟩) (ws.length-q) (K.cw-q-1))).setCell ⟨b,1,none⟩ (.slice (some ⟨K.ga,q+1,none⟩) (ws.length-q) (K.ca-q-1))):Ry K ws pl b (q+1) w':=by
 subst A;have B:ws.length+1-(q+1)=ws.length-q:=by omega
 refine⟨hq,?_,?_,h.row.set.set,fun i hi=>?_,fun i hi=>?_,h.nw,h.na,h.lw,h.la,h.few⟩
 ·rw[B,Nat.sub_add_eq];exact(cso (.inr (by omega))).trans (css h.c0)
 ·rw[B,Nat.sub_add_eq];exact css ((cso (.inr (by omega))).trans h.c1)
 ·exact(cso (.inl h.nw.symm)).trans ((cso (.inl h.nw.symm)).trans (h.wd i hi))
 ·exact(cso (.inl h.na.symm)).trans ((cso (.inl h.na.symm)).trans (h.pt i hi))
end
theorem q3j{ws:List Wd}{q:Nat}(h:q<ws.length):ws.getD q []=ws[q]:=by simp[h]
theorem q6c{ws:List Wd}{q:Nat}(h:ws.length<=q):ws.getD q []=[]:=by simp[h]
theorem q5x{K:LwK}{ws:List Wd}{pl:Nat->Nat}{b q:Nat}{w:World}(h:Ry K ws pl b q w):
  Calls prog 80 #[.pointer (some ⟨b,0,none⟩)] w fun e w'=>e=.returned (.string (wbS (ws.getD q [])))/\w'=w:=by
 have A:=h.c0;have B:=h.wd q h.le;generalize wbS (ws.getD q [])=S at B⊢;have C:0<ws.length+1-q:=by have:=h.le;omega
 generalize ws.length+1-q=n at A C;generalize K.cw-q=c at A;clear h;go_in;go_wp2;go_ret;exact⟨rfl,rfl⟩
theorem v5w(b o n c:Nat)(hn:1<=n)(hc:1<c)(W:World):
  (Instr.slice 58 (.slice (some ⟨b,o,none⟩) n c) (some (.int .i64 1)) none none).run prog W=.ok (.slice (some ⟨b,o+1,none⟩) (n-1) (c-1)) W:=by
 rw[run_slice_l W 58 _ n c Tryz.underlying58 .i64 1 (by omega) (by omega)];have C:(sizeOf (prog.elem 58)).run prog W=.ok 1 W:=by kernel_rfl
 rw[C];have B:(⟨b,o,none⟩:Addr).add 1=⟨b,o+1,none⟩:=rfl;have A:¬c=1:=by omega
 simp[Result.andThen,sliced,B,A]
theorem v3s(b o n c:Nat)(hn:1<=n)(hc:1<c)(W:World):
  (Instr.slice 45 (.slice (some ⟨b,o,none⟩) n c) (some (.int .i64 1)) none none).run prog W=.ok (.slice (some ⟨b,o+1,none⟩) (n-1) (c-1)) W:=by
 rw[run_slice_l W 45 _ n c Tryz.underlying45 .i64 1 (by omega) (by omega)];have C:(sizeOf (prog.elem 45)).run prog W=.ok 1 W:=by kernel_rfl
 rw[C];have B:(⟨b,o,none⟩:Addr).add 1=⟨b,o+1,none⟩:=rfl;have A:¬c=1:=by omega
 simp[Result.andThen,sliced,B,A]
theorem q7v{K:LwK}{ws:List Wd}{pl:Nat->Nat}{b q:Nat}{w:World}(h:Ry K ws pl b q w)(hq:q<ws.length):
  Calls prog 175 #[.pointer (some ⟨b,0,none⟩)] w fun e w'=>e=.returned (.string (wbS ws[q]))/\Ry K ws pl b (q+1) w'/\But w b w w':=by
 have G:=h.c0;have I:=h.c1;have J:=h.wd q h.le;rw[q3j hq]at J;have P:w.frozen? ⟨b,0,none⟩=false:=h.row.frozen;have Q:w.frozen? ⟨b,1,none⟩=false:=h.row.frozen;have H:=hid h;have O:=h.lw;have N:=h.la;generalize wbS ws[q]=S at J⊢;have D:Hid (ws.length+1-q-1=ws.length-q):=(show _=_ by omega);have E:1<=ws.length+1-q:=by omega
 have B:=v5w K.gw q (ws.length+1-q) (K.cw-q) E (by omega);have C:=v3s K.ga q (ws.length+1-q) (K.ca-q) E (by omega);rw[D.o]at B C;generalize ws.length+1-q=n at G I B C E
 have A:Hid (∀w',w'=(w.setCell ⟨b,0,none⟩ (.slice (some ⟨K.gw,q+1,none⟩) (ws.length-q) (K.cw-q-1))).setCell ⟨b,1,none⟩ (.slice (some ⟨K.ga,q+1,none⟩) (ws.length-q) (K.ca-q-1))->Ry K ws pl b (q+1) w'/\But w b w w'):=fun w' hw=>⟨H.o.step hq hw,by
  subst hw
  exact((But.refl _ _ _).setCell (p:=⟨b,0,none⟩) (.inl rfl) _).setCell (p:=⟨b,1,none⟩) (.inl rfl) _⟩
 generalize ws.length-q=m at B C A;generalize K.cw-q=cw at G B A;generalize K.ca-q=ca at I C A;clear h O N hq;go_in;go_wp2_with fail
 go_region
 go_wp2;go_ret;obtain⟨L,M⟩:=A.o _ rfl;exact⟨rfl,L.keep (Below.drew Zb),M.drew⟩
abbrev q4g(k:Nat):PanicEntry:={v:=.iface 137 (.agg #[.int .i64 (k:Int)]),recovered:=false}
theorem k3s{K:LwK}{ws:List Wd}{pl:Nat->Nat}{b q:Nat}{w:World}(h:Ry K ws pl b q w):
  Calls prog 177 #[.pointer (some ⟨b,0,none⟩)] w fun e w'=>e=.panicked [q4g (pl q)]/\w'=w:=by
 have A:=h.c1;have C:=h.pt q h.le;have B:0<ws.length+1-q:=by have:=h.le;omega
 generalize ws.length+1-q=n at A B;generalize K.ca-q=c at A;clear h;go_in;go_wp2;exact⟨rfl,rfl,rfl⟩
theorem z5d(s:Wd)(lo hi:Nat)(w:World)(h1:1<=lo):
  Calls prog 202 #[.string (wbS s),.int .u8 (lo:Int),.int .u8 (hi:Int)] w fun e w'=>e=.returned (.bool (decide (lo<=(s.headD 0).toNat)&&decide ((s.headD 0).toNat<=hi)))/\w'=w:=by
 cases s with
 | nil=>
  have J:(decide (lo<=(([]:Wd).headD 0).toNat)&&decide ((([]:Wd).headD 0).toNat<=hi))=false:=by
   have:¬lo<=(([]:Wd).headD 0).toNat:=by show ¬lo<=0;omega
   simp only[decide_eq_false this,Bool.false_and]
  rw[J];have L:wbS []=⟨#[]⟩:=rfl;rw[L];clear J;go_in;go_wp2;go_ret;exact⟨rfl,rfl⟩
 | cons c r=>
  have D:0<(wbS (c::r)).size:=by rw[<-q0c];show 0<(c::r).length;simp
  have B:∀h:0<(wbS (c::r)).size,(wbS (c::r))[0]=c:=fun _=>rfl
  have H:¬(wbS (c::r)).toList=[]:=by rw[Lib.toList_data];show ¬(c::r)=[];simp
  have C:((wbS (c::r)).toList==[])=false:=by rw[Lib.toList_data];rfl
  have O:(⟨#[]⟩:ByteArray).toList=[]:=by rw[Lib.toList_data]
  show Calls _ _ _ _ fun e w'=>e=.returned (.bool (decide (lo<=c.toNat)&&decide (c.toNat<=hi)))/\w'=w
  have E:Hid (∀(a b:Bool),a=decide ((lo:Int)<=(c.toNat:Int))->b=decide ((c.toNat:Int)<=(hi:Int))->(decide (lo<=c.toNat)&&decide (c.toNat<=hi))=(a&&b)):=fun a b ha hb=>by
   subst ha hb;have M:decide ((lo:Int)<=(c.toNat:Int))=decide (lo<=c.toNat):=by congr 1;simp
   have N:decide ((c.toNat:Int)<=(hi:Int))=decide (c.toNat<=hi):=by congr 1;simp
   rw[M,N]
  generalize(decide (lo<=c.toNat)&&decide (c.toNat<=hi))=R at E⊢
  generalize wbS (c::r)=S at D B H C⊢;have K:=B D;clear B;by_cases G:(lo:Int)<=(c.toNat:Int)
  ·by_cases I:(c.toNat:Int)<=(hi:Int)
   ·have A:=E.o true true (decide_eq_true G).symm (decide_eq_true I).symm;simp only[Bool.and_self]at A;subst A;go_in;go_wp2;go_ret;exact⟨rfl,rfl⟩
   ·have A:=E.o true false (decide_eq_true G).symm (decide_eq_false I).symm;simp only[Bool.and_false]at A;subst A;go_in;go_wp2;go_ret;exact⟨rfl,rfl⟩
  ·have A:=E.o false (decide ((c.toNat:Int)<=(hi:Int))) (decide_eq_false G).symm rfl;simp only[Bool.false_and]at A;subst A;go_in;go_wp2;go_ret;exact⟨rfl,rfl⟩
theorem j2b(s:Wd)(w:World):Calls prog 227 #[.string (wbS s)] w fun e w'=>e=.returned (.bool (k3y s))/\w'=w:=by
 have A:Hid (∀W,Calls prog 202 #[.string (wbS s),.int .u8 48,.int .u8 57] W fun e w'=>e=.returned (.bool (k3y s))/\w'=W):=fun W=>z5d s 48 57 W (by omega)
 generalize k3y s=R at A⊢;go_in;go_wp2_with fail;refine(A.o _).mono ?_;rintro e B⟨rfl,rfl⟩;go_wp2;go_ret;exact⟨rfl,rfl⟩
theorem y7b:nmW z4d=false:=by decide
theorem k6y(s:Wd)(hs:s=[]\/q3u s)(w:World):Calls prog 176 #[.string (wbS s)] w fun e w'=>e=.returned (.bool (nmW s))/\w'=w:=by
 by_cases B:s=z4d
 ·subst B;rw[y7b];have G:wbS z4d=⟨#[108,101,116]⟩:=rfl;rw[G];clear hs;go_in;go_wp2;go_ret;exact⟨rfl,rfl⟩
 ·have E:nmW s=q2f (s.headD 0):=by
   rcases hs with rfl|hs
   ·decide
   ·rw[v6f hs];simp[B]
  rw[E];have C:Hid (∀W,Calls prog 202 #[.string (wbS s),.int .u8 97,.int .u8 122] W fun e w'=>e=.returned (.bool (q2f (s.headD 0)))/\w'=W):=fun W=>z5d s 97 122 W (by omega)
  have A:((wbS s).toList==[108,101,116])=false:=by
   rw[Lib.toList_data]
   show(s==[108,101,116])=false
   simpa using B
  have D:¬(wbS s).toList=[108,101,116]:=by
   intro e;rw[e]at A;cases A
  have H:(⟨#[108,101,116]⟩:ByteArray).toList=[108,101,116]:=by rw[Lib.toList_data]
  generalize q2f (s.headD 0)=R at C⊢;generalize wbS s=S at C D A⊢;clear hs E B;go_in;go_wp2_with fail;refine(C.o _).mono ?_;rintro e I⟨rfl,rfl⟩;go_wp2;go_ret;exact⟨rfl,rfl⟩
theorem z5f(s:Wd)(w:World):Calls prog 125 #[.string (wbS s)] w fun e w'=>e=.returned (.bool (decide (s.headD 0=35)))/\w'=w:=by
 have A:Hid (∀W,Calls prog 144 #[.string (wbS s),.string ⟨#[35]⟩] W fun e w'=>e=.returned (.bool (decide (s.headD 0=35)))/\w'=W):=fun W=>by
  have h:=hasPrefix_sh (wbS s) ⟨#[35]⟩ W
  have B:Lib.hasPrefix (wbS s).data.toList (⟨#[35]⟩:ByteArray).data.toList=decide (s.headD 0=35):=by
   show Lib.hasPrefix s [35]=_;cases s with
   | nil=>decide
   | cons c r=>
    show([35]:Wd).isPrefixOf (c::r)=decide (c=35)
    simp only[List.isPrefixOf,Bool.and_true];rw[Bool.eq_iff_iff,beq_iff_eq,decide_eq_true_eq];exact⟨Eq.symm,Eq.symm⟩
  rw[B]at h;exact h
 generalize decide (s.headD 0=35)=R at A⊢;go_in;go_wp2_with fail;refine(A.o _).mono ?_;rintro e C⟨rfl,rfl⟩;go_wp2;go_ret;exact⟨rfl,rfl⟩
section
variable {K:LwK} {ws:List Wd} {pl:Nat→Nat} {b q:Nat} {w:World}
theorem y8d(a c:Wd):((wbS a).toList==(wbS c).toList)=(a==c):=by
 rw[Lib.toList_data,Lib.toList_data];rfl
theorem q6w(h:Ry K ws pl b q w)(s:Wd)(hs:ws[q]?=some s):
  Calls prog 127 #[.pointer (some ⟨b,0,none⟩),.string (wbS s)] w fun e w'=>e=.returned (.bool true)/\Ry K ws pl b (q+1) w'/\But w b w w':=by
 obtain⟨C,B⟩:=List.getElem?_eq_some_iff.1 hs
 have E:Hid (Calls prog 80 #[.pointer (some ⟨b,0,none⟩)] w fun e w'=>e=.returned (.string (wbS s))/\w'=w):=by
  have A:=q5x h;rw[q3j C,B]at A;exact A
 have D:Hid (Calls prog 175 #[.pointer (some ⟨b,0,none⟩)] w fun e w'=>e=.returned (.string (wbS s))/\Ry K ws pl b (q+1) w'/\But w b w w'):=by
  have A:=q7v h C;rw[B]at A;exact A
 have J:((wbS s).toList==(wbS s).toList)=true:=by simp
 generalize wbS s=S at E D J⊢;clear h hs C B;go_in;go_wp2_with fail;refine E.o.mono ?_;rintro e L⟨rfl,rfl⟩;go_wp2_with fail;refine D.o.mono ?_;rintro e M⟨rfl,H,G⟩;have I:=hid (And.intro H G);clear H G;go_wp2;go_ret;exact⟨rfl,I.o⟩
theorem q7u(h:Ry K ws pl b q w)(s:Wd)(h0:s≠[])(hs:ws[q]?≠some s):
  Calls prog 127 #[.pointer (some ⟨b,0,none⟩),.string (wbS s)] w fun e w'=>e=.returned (.bool false)/\w'=w:=by
 have C:Hid (Calls prog 80 #[.pointer (some ⟨b,0,none⟩)] w fun e w'=>e=.returned (.string (wbS (ws.getD q [])))/\w'=w):=q5x h
 have B:((wbS (ws.getD q [])).toList==(wbS s).toList)=false:=by
  rw[y8d];by_cases D:q<ws.length
  ·rw[q3j D];rw[List.getElem?_eq_getElem D]at hs;simpa using hs
  ·rw[q6c (by omega)];cases s with
   | nil=>exact absurd rfl h0
   | cons=>rfl
 have A:¬(wbS (ws.getD q [])).toList=(wbS s).toList:=by
  intro e;rw[e]at B;simp at B
 generalize wbS (ws.getD q [])=X at C B A;generalize wbS s=S at B A⊢;clear h hs h0;go_in;go_wp2_with fail;refine C.o.mono ?_;rintro e E⟨rfl,rfl⟩;go_wp2;go_ret;exact⟨rfl,rfl⟩
theorem q5w(h:Ry K ws pl b q w)(s:Wd)(hs:ws[q]?=some s):
  Calls prog 129 #[.pointer (some ⟨b,0,none⟩),.string (wbS s)] w fun e w'=>e=.returned (.tuple #[])/\Ry K ws pl b (q+1) w'/\But w b w w':=by
 have A:Hid (Calls prog 127 #[.pointer (some ⟨b,0,none⟩),.string (wbS s)] w fun e w'=>e=.returned (.bool true)/\Ry K ws pl b (q+1) w'/\But w b w w'):=q6w h s hs;generalize wbS s=S at A⊢;clear h hs;go_in;go_wp2_with fail;refine A.o.mono ?_;rintro e E⟨rfl,C,B⟩;have D:=hid (And.intro C B);clear C B;go_wp2
 go_end0
 exact⟨rfl,D.o⟩
theorem q6x(h:Ry K ws pl b q w)(s:Wd)(h0:s≠[])(hs:ws[q]?≠some s):
  Calls prog 129 #[.pointer (some ⟨b,0,none⟩),.string (wbS s)] w fun e w'=>e=.panicked [q4g (pl q)]/\w'=w:=by
 have A:Hid (Calls prog 127 #[.pointer (some ⟨b,0,none⟩),.string (wbS s)] w fun e w'=>e=.returned (.bool false)/\w'=w):=q7u h s h0 hs;have B:Hid (Calls prog 177 #[.pointer (some ⟨b,0,none⟩)] w fun e w'=>e=.panicked [q4g (pl q)]/\w'=w):=k3s h;generalize wbS s=S at A⊢;clear h hs h0;go_in;go_wp2_with fail;refine A.o.mono ?_;rintro e C⟨rfl,rfl⟩;go_wp2_with fail;refine B.o.mono ?_;rintro e C⟨rfl,rfl⟩;go_wp2;exact⟨rfl,rfl,rfl⟩
end
set_option maxHeartbeats 16000000
theorem q0h{ws:List Wd}{p:Nat}:(ws.drop p).length=ws.length-p:=List.length_drop
theorem q1z(ws:List Wd)(p:Nat):(ws.drop p).head?=ws[p]?:=List.head?_drop
theorem q6k{ws:List Wd}{p:Nat}{r:List Wd}(h:r <:+ ws.drop p):ws.drop (ws.length-r.length)=r:=by
 obtain⟨t,A⟩:=h.trans (List.drop_suffix p ws);have B:=congrArg List.length A;rw[List.length_append]at B;have e:ws.length-r.length=t.length:=by omega
 rw[e,<-A,List.drop_left]
structure v1t(K:LwK)(ws:List Wd)(pl:Nat->Nat)(b:Nat)(j:Job)(p:Nat)(w:World)(m:Nat)(ns:List Td)(u:List Wd)(v:Value)(w':World):Prop where
 pr:PR j (ws.drop p) (.ok m ns u)
 o:q1s w v ns w'
 n:ns.length+u.length<=(ws.drop p).length
 rd:Ry K ws pl b (ws.length-u.length) w'
 bt:But w b w w'
inductive q3s (K:LwK) (ws:List Wd) (pl:Nat->Nat) (b:Nat) (j:Job) (p:Nat) (w:World):Ending->World->Prop where
 | ok {m ns u A c w'} (h:v1t K ws pl b j p w m ns u (.slice A ns.length c) w'):q3s K ws pl b j p w (.returned (.slice A ns.length c)) w'
 | bad {u w'} (pr:PR j (ws.drop p) (.bad u)) (bt:But w b w w'):q3s K ws pl b j p w (.panicked [q4g (pl (ws.length-u.length))]) w'
abbrev j2k(K:LwK)(ws:List Wd)(pl:Nat->Nat)(b p:Nat):Prop:=∀w:World,Ry K ws pl b p w->Calls prog 130 #[.pointer (some ⟨b,0,none⟩)] w fun e w'=>q3s K ws pl b (.level 0) p w e w'
abbrev y4m(K:LwK)(ws:List Wd)(pl:Nat->Nat)(b p:Nat):Prop:=∀w:World,Ry K ws pl b p w->Calls prog 179 #[.pointer (some ⟨b,0,none⟩)] w fun e w'=>q3s K ws pl b (.level 1) p w e w'
abbrev y4l(K:LwK)(ws:List Wd)(pl:Nat->Nat)(b p:Nat):Prop:=∀w:World,Ry K ws pl b p w->Calls prog 204 #[.pointer (some ⟨b,0,none⟩)] w fun e w'=>q3s K ws pl b (.level 2) p w e w'
def j1m(w:World)(b:Nat):Nat:=match w.cell? ⟨b,0,none⟩with
 | some (.slice _ n _)=>n
 | _=>0
section
variable {K:LwK} {ws:List Wd} {pl:Nat→Nat} {b q p:Nat} {w w':World}
theorem Ry.len_eq(h:Ry K ws pl b q w):j1m w b=ws.length+1-q:=by
 unfold j1m;rw[h.c0]
theorem q1s.but2{B:Nat}{v:Value}{xs:List Td}(h:q1s B v xs w)(hb:But w b w w')(hB:b<B):q1s B v xs w':=h.kept fun g _ h2=>hb.block g h2 (by omega)
structure k9q(K:LwK)(ws:List Wd)(pl:Nat->Nat)(b k p:Nat)(w:World)(q:Nat)(acc:List Td)(v:Value)(wr:World):Prop where
 lt:p<q
 n:acc.length+(ws.length-q)<=ws.length-p
 o:q1s w v acc wr
 rd:Ry K ws pl b q wr
 bt:But w b w wr
 ok:∀r,PR (.loop k acc) (ws.drop q) r->PR (.level k) (ws.drop p) r
theorem v4l{k m:Nat}{ns:List Td}{u:List Wd}{v:Value}{w1:World}(hk:k<2)(h:v1t K ws pl b (.level (k+1)) p w m ns u v w1):k9q K ws pl b k p w (ws.length-u.length) ns v w1:=by
 have A:=z0g h.pr;have C:ws.drop (ws.length-u.length)=u:=q6k A.1;have D:=h.n;have B:=A.2 m ns u rfl;rw[q0h]at B D;simp only[Job.eats]at B;exact⟨by omega,by omega,h.o,h.rd,h.bt,fun r hr=>by rw[C]at hr;exact .levO hk h.pr hr⟩
theorem y2z{k q m:Nat}{A ns:List Td}{u:List Wd}{v v4 v5:Value}{wr w3 w4 w5:World}(hV:k9q K ws pl b k p w q A v wr)(hq:q<ws.length)(hd:ws.drop q=sgn k::ws.drop (q+1))(C:But w b w w3)(E:w.heap.size<=w3.heap.size)
  (hG:v1t K ws pl b (.level (k+1)) (q+1) w3 m ns u v4 w4) (b5:Below w4 w4 w5) (ho:q1s w v5 (sgT k::(A++ns)) w5):
  k9q K ws pl b k p w (ws.length-u.length) (sgT k::(A++ns)) v5 w5/\q<ws.length-u.length:=by
 have B:=z0g hG.pr;have H:ws.drop (ws.length-u.length)=u:=q6k B.1;have L:=hG.n;have G:=B.2 m ns u rfl;rw[q0h]at L G;simp only[Job.eats]at G;have I:=hV.n;have J:=hV.lt;have D:(sgT k::(A++ns)).length=1+A.length+ns.length:=by simp;omega
 have M:=hG.bt.size;exact⟨⟨by omega,by rw[D];omega,ho,hG.rd.keep b5,(C.trans (hG.bt.mono E)).trans (But.of (b5.mono (by omega))),fun r hr=>by rw[H]at hr;exact hV.ok _ (by rw[hd];exact .lopO hG.pr hr)⟩,by omega⟩
end
theorem z7h(k F:Nat)(s:UInt8)(o:Int)(hk:k=0/\F=179/\s=43/\o=5\/k=1/\F=204/\s=42/\o=6){K:LwK}{ws:List Wd}{pl:Nat->Nat}{b p:Nat}(hL:∀q,p<=q->q<=ws.length->∀w:World,Ry K ws pl b q w->Calls prog F #[.pointer (some ⟨b,0,none⟩)] w fun e w'=>q3s K ws pl b (.level (k+1)) q w e w')(w:World)(h:Ry K ws pl b p w):
  Calls prog 178 #[.pointer (some ⟨b,0,none⟩),.string ⟨#[s]⟩,.int .i64 o,.func (.func F) #[.pointer (some ⟨b,0,none⟩)] #[]] w fun e w'=>q3s K ws pl b (.level k) p w e w':=by
 have C:Tag k:=.mk;rcases hk with⟨rfl,rfl,rfl,rfl⟩|⟨rfl,rfl,rfl,rfl⟩
 all_goals
  have HL:=hid hL;have l:Hid (Calls prog ↑(z2q C 179 204) #[.pointer (some ⟨b,0,none⟩)] w fun e w'=>q3s K ws pl b (.level (↑(z2q C 0 1)+1)) p w e w'):=hL p Zl h.le w h;have z:b<w.heap.size:=h.row.lt;have Aw:=h.le;have At:=h.few;clear h hL;go_in;go_wp2_with fail;refine l.o.mono ?_;intro e w1 hG;cases hG with
  | bad pr bt=>
   have HB:Hid (q3s K ws pl b (.level ↑(z2q C 0 1)) p w (.panicked [q4g (pl (ws.length-_))]) w1):=.bad (.levB (by omega) pr) bt;clear pr bt;go_wp2;exact⟨rfl,HB.o⟩
  | @ok m ns u A c _ hg=>
   have v:Hid (k9q K ws pl b ↑(z2q C 0 1) p w (ws.length-u.length) ns (.slice A ns.length c) w1):=v4l (by omega) hg;clear hg l;generalize Ac:ns.length=nl at v;have Aj:Hid (ns.length=nl):=Ac;clear Ac;go_wp2_with fail
   go_loopw [9] (fun x wr=>∃(q:Nat)(B:List Td)(A':Option Addr)(n' c':Nat),x=.slice A' n' c'/\B.length=n'/\k9q K ws pl b ↑(z2q C 0 1) p w q B (.slice A' n' c') wr) (fun _ wr=>j1m wr b)
   case atStart=>exact⟨_,ns,A,nl,c,rfl,Aj.o,v.o⟩
   case round=>
    obtain⟨q,B,S,L,V,rfl,O,H⟩:=hrel;have U:=hid H;have N:Hid (B.length=L):=O;have Au:=H.rd.le;have hn:=H.n;have As:=H.bt.size;rw[O]at hn;by_cases I:ws[q]?=some (sgn ↑(z2q C 0 1))
    ·obtain⟨R,Af⟩:=List.getElem?_eq_some_iff.1 I
     have f:Hid (ws.drop q=sgn ↑(z2q C 0 1)::ws.drop (q+1)):=by
      show _=_;rw[List.drop_eq_getElem_cons R,Af]
     have HH:Hid (Calls prog 127 #[.pointer (some ⟨b,0,none⟩),.string ⟨#[↑(sel C (43:UInt8) 42)]⟩] wr fun e w'=>e=.returned (.bool true)/\Ry K ws pl b (q+1) w'/\But wr b wr w'):=q6w H.rd (sgn ↑(z2q C 0 1)) I;clear H O I Af;go_wp2_with fail;refine HH.o.mono ?_;rintro e E⟨rfl,h2,b2⟩;have Z:Hid (But wr b wr E):=b2;have Ax:=b2.size;have Ao:b<E.heap.size:=h2.row.lt
     have t:Hid (∃M,E.alloc (.cells #[.int .i64 ↑(sel C (5:Int) 6),.string ⟨#[]⟩,.int .i64 0] 47)=M/\Calls prog ↑(z2q C 179 204) #[.pointer (some ⟨b,0,none⟩)] M (fun e w'=>q3s K ws pl b (.level (↑(z2q C 0 1)+1)) (q+1) M e w')/\q1s E (.slice (some ⟨E,0,none⟩) 1 1) [sgT ↑(z2q C 0 1)] M/\q1s w (.slice S L V) B M/\But w b w M/\M.heap.size=E.heap.size+1):=by
      refine⟨_,rfl,HL.o (q+1) (by have:=U.o.lt;omega) (by omega) _ (h2.keep (q2m E _)),q1s.one E (sgT ↑(z2q C 0 1)),?_,(U.o.bt.trans (Z.o.mono As)).alloc (by omega) _,World.size_alloc ..⟩;have ho:=U.o.o.but2 Z.o z;exact ho.kept fun g _ h5=>Lib.alloc_old E _ g h5
     clear h2 b2 HH;go_wp2_with fail;obtain⟨M,Ah,Q,Ag,Ad,y,Av⟩:=t.o;rw[Ah];have Am:Hid (q1s E (.slice (some ⟨E,0,none⟩) 1 1) [sgT ↑(z2q C 0 1)] M):=Ag;have Ak:Hid (q1s w (.slice S L V) B M):=Ad;have a:Hid (But w b w M):=y;clear Ag Ad y t Ah;refine Q.mono ?_;clear Q;intro e D hG;cases hG with
     | @bad u4 _ pr bt=>
      have HB:Hid (q3s K ws pl b (.level ↑(z2q C 0 1)) p w (.panicked [q4g (pl (ws.length-u4.length))]) D):=.bad (U.o.ok _ (by rw[f.o];exact .lopB pr)) (a.o.trans (bt.mono (by omega)));clear pr bt;go_wp2;exact⟨rfl,HB.o⟩
     | @ok m4 ns4 u4 A4 c4 _ hg=>
      have HG:=hid hg;have Ay:=hg.bt.size;have Ab:=hg.n;rw[q0h]at Ab;have An:Hid (q1s E (.slice (some ⟨E,0,none⟩) 1 1) [sgT ↑(z2q C 0 1)] D):=Am.o.but2 hg.bt Ao;have r:Hid (q1s w (.slice S L V) B D):=Ak.o.but2 hg.bt z
      have Al:Hid (∀W,Below D D W->W.heap[D.heap.size]?=some (.cells #[.slice (some ⟨E,0,none⟩) 1 1,.slice S L V,.slice A4 ns4.length c4] 22 (0,0))->y4k W (some ⟨D,0,none⟩) [[sgT ↑(z2q C 0 1)],B,ns4]):=by
       intro W X hk;have Y:D.heap.size<W.heap.size:=(Array.getElem?_eq_some_iff.1 hk).1;have G:∀i,W.cell? ⟨D,i,none⟩=#[Value.slice (some ⟨E,0,none⟩) 1 1,.slice S L V,.slice A4 ns4.length c4][i]?:=fun i=>by simp[World.cell?,hk]
       intro i hi;have h3:i=0\/i=1\/i=2:=by simp at hi;omega
       have e1:=k6j r.o;have e2:=k6j HG.o.o;rcases h3 with rfl|rfl|rfl
       ·exact⟨D.heap.size,0,some ⟨E,0,none⟩,1,rfl,Y,G 0,Nat.le_refl _,An.o.tds.W X,fun e=>by cases e⟩
       ·exact⟨D.heap.size,0,S,V,rfl,Y,by rw[show(([[sgT ↑(z2q C 0 1)],B,ns4]:List (List Td))[1]).length=L from N.o];exact G 1,e1.2.1,e1.2.2.W X,fun e=>by
         have:=r.o.none.2 e
         exact⟨by show B.length=0;rw[N.o];exact this.1,this.2⟩⟩
       ·exact⟨D.heap.size,0,A4,c4,rfl,Y,G 2,e2.2.1,e2.2.2.W X,fun e=>HG.o.o.none.2 e⟩
      have P:[[sgT ↑(z2q C 0 1)],B,ns4].flatten=sgT ↑(z2q C 0 1)::(B++ns4):=by simp
      have J:(sgT ↑(z2q C 0 1)::(B++ns4)).length=1+L+ns4.length:=by rw[List.length_cons,List.length_append,N.o];omega
      have d:Hid (∀W,Below D D W->W.heap[D.heap.size]?=some (.cells #[.slice (some ⟨E,0,none⟩) 1 1,.slice S L V,.slice A4 ns4.length c4] 22 (0,0))->Calls prog 203 #[.slice (some ⟨D,0,none⟩) 3 3] W fun e w'=>∃A c',e=.returned (.slice A (1+L+ns4.length) c')/\k9q K ws pl b ↑(z2q C 0 1) p w (ws.length-u4.length) (sgT ↑(z2q C 0 1)::(B++ns4)) (.slice A (1+L+ns4.length) c') w'/\q<ws.length-u4.length):=by
       intro W X hk;have h9:=k6x [[sgT ↑(z2q C 0 1)],B,ns4] (some ⟨D,0,none⟩) 3 W (Al.o W X hk) (by rw[P,J];omega) (by rw[P,J];omega) (by simp);rw[P,J]at h9;refine h9.mono ?_;rintro e w6⟨A6,c6,rfl,Aq,Ap⟩;have Ar:=X.size;exact⟨A6,c6,rfl,y2z U.o R f.o a.o (by omega) HG.o (X.trans (Ap.mono Ar)) (Aq.down (by omega))⟩
      have j:=(show Hid (_=_)from J);clear hg P J Ab;generalize ns4.length=n4 at d j⊢;go_wp2_with fail;refine(d.o _ (q2m D _) (heap_alloc_new D _)).mono ?_;rintro e w6⟨A6,c6,rfl,h6,Ae⟩;have H6:=hid (And.intro h6 Ae);clear h6 Ae;go_wp2;refine⟨⟨_,_,A6,_,c6,rfl,j.o,H6.o.1⟩,?_⟩;rw[H6.o.1.rd.len_eq,U.o.rd.len_eq]
      have:=H6.o.2
      omega
    ·have Ai:Hid ((ws.drop q).head?≠some (sgn ↑(z2q C 0 1))):=by
      show _≠_;rw[q1z];exact I
     have HH:Hid (Calls prog 127 #[.pointer (some ⟨b,0,none⟩),.string ⟨#[↑(sel C (43:UInt8) 42)]⟩] wr fun e w'=>e=.returned (.bool false)/\w'=wr):=q7u H.rd (sgn ↑(z2q C 0 1)) (by decide) I;clear H O I;go_wp2_with fail;refine HH.o.mono ?_;rintro e E⟨rfl,rfl⟩;go_wp2;go_ret;have H:=U.o;obtain rfl:=N.o;have Aa:(ws.drop q).length=ws.length-q:=q0h;refine .ok (m:=0) (u:=ws.drop q) ⟨H.ok _ (.lopE Ai.o),H.o,?_,?_,H.bt⟩
     ·rw[Aa,q0h];have:=H.n;omega
     ·rw[Aa,show ws.length-(ws.length-q)=q by omega];exact H.rd
theorem v1p{K:LwK}{ws:List Wd}{pl:Nat->Nat}{b p:Nat}(hL:∀q,p<=q->q<=ws.length->y4m K ws pl b q):j2k K ws pl b p:=by
 intro w h;have G:∀(fn:Fn)(first cap:Array Value)(w:World),(Instr.makeFunc fn first cap).run prog w=.ok (.func fn first cap) w:=fun _ _ _ _=>rfl
 have D:Hid (Calls prog 178 #[.pointer (some ⟨b,0,none⟩),.string ⟨#[43]⟩,.int .i64 5,.func (.func 179) #[.pointer (some ⟨b,0,none⟩)] #[]] w fun e w'=>q3s K ws pl b (.level 0) p w e w'):=z7h 0 _ _ _ (.inl ⟨rfl,rfl,rfl,rfl⟩) hL w h;clear h hL;go_in;go_wp2_with fail;refine D.o.mono ?_;intro e C E;cases E with
 | @bad u _ pr bt=>
  have B:Hid (q3s K ws pl b (.level 0) p w (.panicked [q4g (pl (ws.length-u.length))]) C):=.bad pr bt;clear pr bt;go_wp2;exact⟨rfl,B.o⟩
 | @ok m ns u A c _ hg=>
  have B:Hid (q3s K ws pl b (.level 0) p w (.returned (.slice A ns.length c)) C):=.ok hg;clear hg;generalize ns.length=nl at B⊢;go_wp2;go_ret;exact B.o
theorem k3u{K:LwK}{ws:List Wd}{pl:Nat->Nat}{b p:Nat}(hL:∀q,p<=q->q<=ws.length->y4l K ws pl b q):y4m K ws pl b p:=by
 intro w h;have G:∀(fn:Fn)(first cap:Array Value)(w:World),(Instr.makeFunc fn first cap).run prog w=.ok (.func fn first cap) w:=fun _ _ _ _=>rfl
 have D:Hid (Calls prog 178 #[.pointer (some ⟨b,0,none⟩),.string ⟨#[42]⟩,.int .i64 6,.func (.func 204) #[.pointer (some ⟨b,0,none⟩)] #[]] w fun e w'=>q3s K ws pl b (.level 1) p w e w'):=z7h 1 _ _ _ (.inr ⟨rfl,rfl,rfl,rfl⟩) hL w h;clear h hL;go_in;go_wp2_with fail;refine D.o.mono ?_;intro e C E;cases E with
 | @bad u _ pr bt=>
  have B:Hid (q3s K ws pl b (.level 1) p w (.panicked [q4g (pl (ws.length-u.length))]) C):=.bad pr bt;clear pr bt;go_wp2;exact⟨rfl,B.o⟩
 | @ok m ns u A c _ hg=>
  have B:Hid (q3s K ws pl b (.level 1) p w (.returned (.slice A ns.length c)) C):=.ok hg;clear hg;generalize ns.length=nl at B⊢;go_wp2;go_ret;exact B.o
end Go.Proofs.YtfdppahhbpfnoaaGreatDoor
