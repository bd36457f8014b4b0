import Derived.Test.YtchdplceopegoaaGreatDoorPi04
import Derived.Test.YtchdplceopegoaaGreatDoorShg
import Derived.Defers
import Derived.Lib.LaidTab
import Derived.Lib.IndexBytes
import Derived.Lib.Split
import Derived.OwnWalkIn
import Derived.TacticsInMore
import Derived.Lib.Bytealg
import Derived.Shelf.RegionOpen
open Go.Proofs.Tryz
namespace Go.Proofs.YtchdplceopegoaaGreatDoor
open Go Go.RowKit
set_option maxRecDepth 100000
set_option maxHeartbeats 2000000
theorem v3w(T B b:Nat)(l:List UInt8)(R:List Value)(w:World)(h:IsX T B b (Lib.byteCells l) R w)(h0:l≠[]):
  Calls prog 34 #[.pointer b] w fun e w'=>e=.returned (.string ⟨l.toArray⟩)/\Below B w w':=by
 obtain⟨p,G⟩:=h.at;obtain⟨v,I,D,V,_⟩:=G;have L:l.length≠0:=by simpa using h0
 rw[Lib.byteCells_length]at D
 obtain⟨g,A,C,E,rfl,H,S,Q,U,J,P,M⟩:∃g A C E,v=.slice (some ⟨g,0,none⟩) l.length A/\B<=g/\w.heap[g]?=some (.cells C 5 E)/\E.2<=l.length*1/\l.length<=A/\A<=maxLen/\C.size=A*1/\C.toList.take (l.length*1)=Lib.byteCells l:=by
  rcases D.2 with⟨_,Y⟩|⟨g,A,C,E,W,r⟩
  ·exact absurd Y L
  ·exact⟨g,A,C,E,W,r⟩
 have Z:w.drew.cell? (b,1)=some (.slice g l.length A):=by
  have:w.drew.heap[b]?=some (.cells (p::.slice g l.length A::R).toArray T (0,0)):=I
  rw[Lib.cell_of_heap this];rfl
 have N:(Builtin.unsafeSliceData_ #[81] 115 #[.slice (some ⟨g,0,none⟩) l.length A]).run prog w.drew=.ok (.pointer (some ⟨g,0,none⟩)) w.drew:=
  Lib.run_unsafeSliceData_row _ _ _ _ _ _ (by omega)
 have O:(Builtin.unsafeString_ #[115,3] 9 #[.pointer g,l.length]).run prog w.drew=.ok (.string ⟨l.toArray⟩) (w.drew.freeze g l.length):=by
  refine Lib.run_unsafeString_row w.drew 115 3 9 5 Tryz.underlying115 y2a g C.size (by have K:w.drew.heap[g]?=some (.cells C 5 E):=S;simp[World.shape?,K]) l h0 (by omega) (by unfold maxLen at J;omega) ?_;intro j x X
  have:=D.cells (g:=g) rfl j (.int .u8 x.toNat) (by simp[Lib.byteCells,X])
  exact this
 go_in;go_wp2
 go_region
 all_goals (go_wp2;go_ret;exact⟨rfl,Lib.below_freeze (Below.drew (Below.refl B w)) (p:=g) H _⟩)
theorem v3v(T B b:Nat)(R:List Value)(w:World)(h:IsX T B b [] R w):
  Calls prog 34 #[.pointer b] w fun e w'=>e=.returned (.string ⟨#[]⟩)/\Below B w w':=by
 obtain⟨p,C⟩:=h.at;obtain⟨v,D,A,E,G⟩:=C;obtain rfl:=G rfl;clear A E G;have I:∀(W:World)(q:Option Addr),(Builtin.unsafeString_ #[115,3] 9 #[.pointer q,.int .i64 0]).run prog W=.ok (.string .empty) W:=fun W q=>Lib.run_unsafeString_none W _ _ _ q
 have J:w.drew.cell? (b,1)=some (.slice none 0 0):=by
  have:w.drew.heap[b]?=some (.cells (p::.slice none 0 0::R).toArray T (0,0)):=D
  rw[Lib.cell_of_heap this];rfl
 have H:(Builtin.unsafeSliceData_ #[81] 115 #[.slice none 0 0]).run prog w.drew=.ok (.pointer none) w.drew:=rfl;go_in;go_wp2
 go_region
 all_goals (go_wp2;go_ret;exact⟨rfl,Below.drew (Below.refl B w)⟩)
theorem k1d(T B b:Nat)(l:List UInt8)(R:List Value)(w:World)(h:IsX T B b (Lib.byteCells l) R w):
  Calls prog 34 #[.pointer b] w fun e w'=>e=.returned (.string ⟨l.toArray⟩)/\Below B w w':=by
 by_cases A:l=[]
 ·subst A;exact v3v T B b R w h
 ·exact v3w T B b l R w h A
def k1h (w : World) : Prop := Lib.TabIs prog w "internal/strconv.uint64pow10" .u64 Lib.pow10Tab
structure z2c(w:World):Prop where
 pow:k1h w
 spc : Lib.TabIs prog w "strings.asciiSpace" .u8 Lib.asciiSpaceTab
theorem k4m{n:String}{k:IntKind}{zs:List Int}{w w':World}{g:Nat}(hg:prog.globalNamed n=some g)(h:Lib.TabIs prog w n k zs)(hb:Below w w w'):Lib.TabIs prog w' n k zs:=by
 unfold Lib.TabIs World.var? at h⊢;rw[hg]at h⊢;simp only[Option.bind_some]at h⊢
 have B:g<w.heap.size:=by
  rcases Nat.lt_or_ge g w.heap.size with A|A
  ·exact A
  ·rw[Array.getElem?_eq_none A]at h;cases h
 rw[hb.block g B];exact h
theorem k1h.W{w w':World}(h:k1h w)(hb:Below w w w'):k1h w':=k4m (g:=6) (by kernel_rfl) h hb
theorem z2c.W{w w':World}(h:z2c w)(hb:Below w w w'):z2c w':=
 ⟨h.pow.W hb,k4m (g:=1) (by kernel_rfl) h.spc hb⟩
theorem q1w(w:World)(o:Obj):Below w w (w.alloc o):= Zb.alloc Zl _
theorem z3s(w:World)(o:Obj):Below w w (w.alloc o).drew:=(q1w w o).drew
theorem v2k{w:World}{b o c:Nat}{x:Td}{ds:List Td}(h:Tds w (some ↑(b,o)) (x::ds))(hc:(x::ds).length<=c):
  ∃A,(∀W:World,(Instr.slice 59 (.slice (some ↑(b,o)) (x::ds).length c) (some (.int .i64 1)) none none).run prog W=.ok (.slice A ds.length (c-1)) W)/\Tds w A ds:=by
 refine⟨if c=1 then some ↑(b,o)else some ↑(b,o+3),fun W=>?_,?_⟩
 ·rw[run_slice_l W 59 _ (x::ds).length c Tryz.underlying59 .i64 1 (by omega) (by simp only[List.length_cons];omega)];have I:(sizeOf (prog.elem 59)).run prog W=.ok 3 W:=by kernel_rfl
  rw[I];have H:((b,o):Addr).add 3=(b,o+3):=rfl;simp[Result.andThen,sliced,H]
 ·by_cases e:c=1
  ·have:ds=[]:=List.eq_nil_of_length_eq_zero (by simp only[List.length_cons]at hc;omega)
   rw[this];exact Tds.nil _ _
  ·rw[if_neg e];intro i K;obtain⟨J,L,G,B,C,D,E⟩:=h (i+1) (by simp only[List.length_cons];omega);simp only[Option.some.injEq,Addr.mk.injEq,and_true]at G;obtain⟨rfl,rfl⟩:=G;simp only[List.getElem_cons_succ]at C D E;refine⟨b,o+3,rfl,B,?_,?_,?_⟩
   ·rw[show o+3+i*3=o+(i+1)*3 by omega];exact C
   ·rw[show o+3+i*3+1=o+(i+1)*3+1 by omega];exact D
   ·rw[show o+3+i*3+2=o+(i+1)*3+2 by omega];exact E
structure Wy(w0:World)(b:Nat)(bs:List UInt8)(ds:List Td)(w:World)(A:Option Addr)(c:Nat):Prop where
 x:IsX 191 w0.heap.size b (Lib.byteCells bs) [.slice A ds.length c] w
 le:ds.length<=c
 td:Tds w0 A ds
 bl:Below w0 w0 w
 lt:w0.heap.size<=b
def WyE(w0:World)(b:Nat)(bs:List UInt8)(ds:List Td)(w:World):Prop:=∃A c,Wy w0 b bs ds w A c
theorem y4f:z2a 191 3:=by unfold z2a;kernel_rfl
theorem wrT:191≠5:=by decide
theorem q4q(a b:List UInt8):Lib.byteCells (a++b)=Lib.byteCells a++Lib.byteCells b:=by simp[Lib.byteCells]
theorem IsX.grew{T B b:Nat}{bs R:List Value}{w w':World}(h:IsX T B b bs R w)(hb:Below w w w'):IsX T B b bs R w':=by
 have C:∀p,XAt T B b p bs R w->XAt T B b p bs R w':=by
  rintro p⟨v,D,A,G,H⟩;refine⟨v,(hb.block b ?_).trans D,A.kept (row:=none) ⟨hb.os,hb.tape,hb.output,hb.size,fun k D _=>hb.block k D⟩ (by cases I:v.ownBlock<;>simp),G,H⟩;rcases Nat.lt_or_ge b w.heap.size with E|E
  ·exact E
  ·simp[Array.getElem?_eq_none E]at D
 exact h.imp (C _) (C _)
theorem Wy.grew{w0:World}{b:Nat}{bs:List UInt8}{ds:List Td}{w w':World}{A:Option Addr}{c:Nat}(h:Wy w0 b bs ds w A c)(hb:Below w w w'):Wy w0 b bs ds w' A c:=
 ⟨h.x.grew hb,h.le,h.td,q0e h.bl Zl hb,h.lt⟩
theorem q8p{w0:World}{b:Nat}{bs:List UInt8}{ds:List Td}{w:World}{A:Option Addr}{c:Nat}(h:Wy w0 b bs ds w A c)(k:UInt8)(hl:bs.length<=1000000):
  Calls prog 96 #[.pointer b,.int .u8 (k.toNat:Int)] w fun e w'=>e=.returned .nilIface/\Wy w0 b (bs++[k]) ds w' A c:=by
 refine(k4s 191 w0.heap.size b (Lib.byteCells bs) [.slice A ds.length c] (k.toNat:Int) w y4f wrT h.x (by rw[Lib.byteCells_length];omega) h.bl.size).mono ?_;rintro e w'⟨rfl,B,C,_⟩;refine⟨rfl,?_,h.le,h.td,h.bl.trans (C.W h.lt),h.lt⟩;rw[q4q];exact B
theorem q5r{w0:World}{b:Nat}{bs:List UInt8}{ds:List Td}{w:World}{A:Option Addr}{c:Nat}(h:Wy w0 b bs ds w A c)(s:ByteArray)(hl:bs.length<=1000000)(hs:s.size<=1000000):
  Calls prog 33 #[.pointer (some ⟨b,0,none⟩),.string s] w fun e w'=>e=.returned (.tuple #[.int .i64 s.size,.nilIface])/\Wy w0 b (bs++btL s) ds w' A c/\Lib.OthersKept 5 (some b) w w':=by
 refine(z0h 191 w0.heap.size b (Lib.byteCells bs) [.slice A ds.length c] s w y4f wrT h.x (by rw[Lib.byteCells_length];omega) h.bl.size).mono ?_;rintro e w'⟨rfl,B,C,D⟩;refine⟨rfl,⟨?_,h.le,h.td,h.bl.trans (C.W h.lt),h.lt⟩,D⟩;rw[q4q];exact B
theorem v3u(T B b:Nat)(bs R:List Value)(c:Int)(u:FrameMode)(w:World)(hl:z2a T (R.length+2))(hT:T≠5)(h:IsX T B b bs R w)(V:bs.length+1<=140737488355328)(d:B<=w.heap.size):
  CallsD prog 96 #[.pointer b,.int .u8 c] u w fun e u' w'=>u'=u/\(e=.returned .nilIface/\(IsX T B b (bs++[.int .u8 c]) R w'/\q0n B b w w')):=by
 obtain⟨m,f,Q,S,U⟩:=info_parts v9j;have X:Hid (z2a T (R.length+2)):=hl;have Y:Hid (T≠5):=hT;have H:Hid (IsX T B b bs R w):=h;clear hl hT h;go_enter_d func96,ntmps96;go_wp2_with(go_at_call 54;refine(z3b T B b bs R _ X.o H.o).mono ?_);rintro e K⟨rfl,a,E,i⟩;obtain⟨v,I,J,P,_⟩:=a;have o:K.cell? b=some (.pointer b):=by rw[Lib.cell_of_heap I];rfl
 have c1:K.cell? (b,1)=some v:=by rw[Lib.cell_of_heap I];rfl
 go_wp2_with(at_builtin;refine wpList_append_ownF _ rfl _ _ 81 rfl B 5 m (.int .u8 0) 1 1 Tryz.underlying81 f Q S U rfl (by decide) _ _ _ rfl (J.alloc _) K.heap.size 1 1 [.int .u8 c] rfl rfl ?c1 ?c2 ?c3 ?c4 ?c5 ?_)
 case c1=>
  intro j u L
  match j,L with
  | 0,L=>simp at L;subst L;simp[Addr.add]
 case c2=>intro u W;simp at W;subst W;rfl
 case c3=>unfold maxLen;omega
 case c4=>omega
 case c5=>have:=E.size;simp;omega
 intro n M C A _
 have O:b<K.heap.size:=by
  rcases Nat.lt_or_ge b K.heap.size with N|N
  ·exact N
  ·simp[Array.getElem?_eq_none N]at I
 have G:M.heap[b]?=some (.cells (.pointer b::v::R).toArray T (0,0)):=by
  rw[A.block b (by simp;omega) (fun e=>P e.symm),Lib.alloc_old K _ b O];exact I
 have q:M.cell? b=some (.pointer b):=by rw[Lib.cell_of_heap G];rfl
 have r:M.cell? (b,1)=some v:=by rw[Lib.cell_of_heap G];rfl
 have s:M.frozen? (b,1)=false:=Lib.frozen_of_heap G 1
 obtain⟨g,D,rfl⟩:∃g D,n=.slice g (bs.length+1) D:=by
  rcases C.2 with⟨_,x⟩|⟨g,D,Z,t,l,_⟩
  ·omega
  ·exact⟨g,D,l⟩
 go_wp2;go_ret;refine⟨rfl,.inr ?_,?_⟩
 ·exact XAt.put G (bs':=bs++[.int .u8 c]) (by simpa using C) Y.o (fun h=>by simp at h)
 ·exact((E.alloc (by have:=E.size;omega) _).grown A (by have:=E.size;simp;omega) (fun k hk=>(J.lt k hk).1)).setCell (p:=(b,1)) (.inl rfl) _
theorem k4p{w0:World}{b:Nat}{bs:List UInt8}{ds:List Td}{w:World}{A:Option Addr}{c:Nat}(h:Wy w0 b bs ds w A c)(k:UInt8)(u:FrameMode)(hl:bs.length<=1000000):
  CallsD prog 96 #[.pointer b,.int .u8 (k.toNat:Int)] u w fun e u' w'=>u'=u/\(e=.returned .nilIface/\Wy w0 b (bs++[k]) ds w' A c):=by
 refine(v3u 191 w0.heap.size b (Lib.byteCells bs) [.slice A ds.length c] (k.toNat:Int) u w y4f wrT h.x (by rw[Lib.byteCells_length];omega) h.bl.size).mono ?_;rintro e u' w'⟨rfl,rfl,B,C⟩;refine⟨rfl,rfl,?_,h.le,h.td,h.bl.trans (C.W h.lt),h.lt⟩;rw[q4q];exact B
theorem q5q{w0:World}{b:Nat}{bs:List UInt8}{x:Td}{ds:List Td}{w:World}{A:Option Addr}{c:Nat}(h:Wy w0 b bs (x::ds) w A c):
  Calls prog 134 #[.pointer b] w fun e w'=>e=.returned (tdV x)/\WyE w0 b bs ds w':=by
 obtain⟨D,J,rfl,B,K,L,M⟩:=h.td 0 (by simp);obtain⟨C,E,G⟩:=v2k h.td h.le;simp only[List.getElem_cons_zero,Nat.zero_mul,Nat.add_zero]at K L M;obtain⟨I,_⟩:=q0s h.bl;have g:w.cell? (D,J)=some ↑x.op:=(I _ _ B).trans K;have i:w.cell? (D,J+1)=some (.string x.tx):=(I _ _ B).trans L;have j:w.cell? (D,J+2)=some ↑x.n:=(I _ _ B).trans M;have X:b<w.heap.size:=h.x.lt;have a:D<w.heap.size:=Nat.lt_of_lt_of_le B h.bl.size;have V:w.cell? (b,2)=some (.slice (some ↑(D,J)) (x::ds).length c):=h.x.cellR 0;have k:w.frozen? (b,2)=false:=h.x.frozen 2;have Y:¬D=b:=by have:=h.lt;omega
 have H:=hid h;have U:Hid (Tds w0 C ds):=G;have O:=h.le;generalize P:(x::ds).length=n at V E O;have W:0<n:=by rw[<-P];simp
 have f:Hid ((x::ds).length=n):=P;clear h G K L M I P;generalize R:ds.length=m at E;have S:Hid (ds.length=m):=R;clear R;go_in;go_wp2;refine bodyPost_ret (v:=tdV x) (by simp[results,Tryz.results134,go_sem]) rfl ?_;have h:=H.o;have Z:=h.x.stored 0 (.slice C m (c-1));have N:Below w0 w0 (w.setCell (b,2) (.slice C m (c-1))):=h.bl.setCell (p:=(b,2)) h.lt _;have Q:IsX 191 w0.heap.size b (Lib.byteCells bs) [.slice C ds.length (c-1)] (w.setCell (b,2) (.slice C m (c-1))):=by rw[S.o];exact Z
 refine⟨rfl,C,c-1,((Q.alloc _).alloc _),?_,U.o,?_,h.lt⟩
 ·have:=h.le;simp only[List.length_cons]at this;omega
 ·have d:=h.bl.size;exact(N.alloc (by rw[World.size_setCell];exact d) _).alloc (by rw[World.size_alloc,World.size_setCell];omega) _
theorem k3l(x:Td)(op:Int)(A:op=5\/op=6)(s:Bool)(w:World):Calls prog 230 #[x.op,op,.bool s] w fun e w'=>e=.returned (.bool (decide (prc x<(op-5).toNat+s.toNat)))/\w'=w:=by
 have D:prc x=if x.op=5 then 0 else if x.op=6 then 1 else 2:=rfl
 rw[D];generalize x.op=k;clear D;by_cases B:k=5
 ·subst B;rcases A with rfl|rfl<;>cases s
  all_goals
   go_in;go_wp2;go_ret;exact⟨rfl,rfl⟩
 ·by_cases C:k=6
  ·subst C;rcases A with rfl|rfl<;>cases s
   all_goals
    go_in;go_wp2;go_ret;exact⟨rfl,rfl⟩
  ·rw[if_neg B,if_neg C];have E:(k==5)=false:=by simp[B]
   have G:(k==6)=false:=by simp[C]
   rcases A with rfl|rfl<;>cases s
   all_goals
    go_in;go_wp2;go_ret;exact⟨rfl,rfl⟩
theorem j8e{s:ByteArray}:btL s=[108,101,116]↔s=⟨#[108,101,116]⟩:=by
 constructor
 ·intro h;apply ByteArray.ext;apply Array.ext';exact h
 ·intro h;rw[h]
theorem k3j{s:ByteArray}(h1:1<=s.size)(h2:s.size<=8)(h3:¬s=⟨#[108,101,116]⟩)(h:∀k(h:k<s.size),q2a s[k]=true):q0o s=true:=by
 have A:btL s≠[108,101,116]:=fun e=>h3 (j8e.1 e)
 simp only[q0o,h1,h2,A,decide_true,Bool.true_and,List.all_eq_true,ne_eq,not_false_eq_true];intro b B;obtain⟨i,C,rfl⟩:=List.getElem_of_mem B;exact h i (by rw[<-q0c];exact C)
theorem k3k{s:ByteArray}{k:Nat}(h:k<s.size)(hb:q2a s[k]=false):q0o s=false:=by
 cases e:q0o s with
 | false=>rfl
 | true=>
  simp only[q0o,Bool.and_eq_true,List.all_eq_true]at e;have A:k<(btL s).length:=by rw[q0c];exact h
  have:=e.2 s[k] (List.getElem_mem A)
  rw[hb]at this;cases this
theorem z5g{s:ByteArray}(h:s.size<1):q0o s=false:=by
 have:decide (1<=s.size)=false:=decide_eq_false (by omega)
 simp[q0o,this]
theorem z7o{s:ByteArray}(h:8<s.size):q0o s=false:=by
 have:decide (s.size<=8)=false:=decide_eq_false (by omega)
 simp[q0o,this]
theorem z1x(s:ByteArray):wbS (btL s)=s:=by
 obtain⟨d⟩:=s;simp[wbS,btL]
theorem j6d{l:List UInt8}(h:Lib.indexByte l 32=-1):∀b∈l,b≠32:=by
 intro b A e;subst e;obtain⟨k,B⟩:=List.getElem?_of_mem A;exact Lib.indexByte_none h k B
theorem k8f{l:List UInt8}{i:Nat}(h:Lib.indexByte l 32=i):i<l.length/\l=l.take i++32::l.drop (i+1)/\∀b∈l.take i,b≠32:=by
 obtain⟨C,D⟩:=Lib.indexByte_some h;obtain⟨B,E⟩:=List.getElem?_eq_some_iff.1 C;refine⟨B,?_,?_⟩
 ·have:=(List.take_append_drop i l).symm
  rw[List.drop_eq_getElem_cons B,E]at this;exact this
 ·intro b G e;subst e;obtain⟨k,A⟩:=List.getElem?_of_mem G;rw[List.getElem?_take]at A
  split at A
  ·rename_i hki;exact D k hki A
  ·cases A
def spK:Nat->ByteArray->List ByteArray
 | 0,s=>[s]
 | k+1,s=>if Lib.indexByte s.data.toList 32=-1 then [s]else s.extract 0 (Lib.indexByte s.data.toList 32).toNat::spK k (s.extract ((Lib.indexByte s.data.toList 32).toNat+1) s.size)
theorem k0k(s:ByteArray):spK 0 s=[s]:=rfl
theorem z1k(k:Nat){s:ByteArray}(h:Lib.indexByte s.data.toList 32=-1):spK k s=[s]:=by
 cases k with
 | zero=>rfl
 | succ k=>rw[spK,if_pos h]
theorem z5q(k:Nat){s:ByteArray}{i:Nat}(h:Lib.indexByte s.data.toList 32=i):spK (k+1) s=s.extract 0 i::spK k (s.extract (i+1) s.size):=by
 rw[spK,if_neg (by omega),h];rfl
theorem g1r(s:ByteArray)(i:Nat):btL (s.extract 0 i)=(btL s).take i:=by
 rw[z0f,List.drop_zero,Nat.sub_zero];rfl
theorem y2t(s:ByteArray)(i:Nat):btL (s.extract i s.size)=(btL s).drop i:=Lib.extract_to_end s i
theorem q8k(s:ByteArray):Lib.indexByte s.data.toList 32=-1\/∃i:Nat,Lib.indexByte s.data.toList 32=i/\i<s.size:=by
 have A:=Lib.indexByte_ge s.data.toList 32;by_cases h:Lib.indexByte s.data.toList 32=-1
 ·exact .inl h
 ·refine .inr ⟨(Lib.indexByte s.data.toList 32).toNat,by omega,?_⟩
  have:=(k8f (l:=btL s) (i:=(Lib.indexByte s.data.toList 32).toNat) (by show Lib.indexByte s.data.toList 32=_;omega)).1
  rw[q0c]at this;exact this
theorem k0m{s:ByteArray}{i:Nat}(h:Lib.indexByte s.data.toList 32=i):q4x (btL s)=btL (s.extract 0 i)::q4x (btL (s.extract (i+1) s.size)):=by
 obtain⟨_,A,B⟩:=k8f (l:=btL s) h;rw[g1r,y2t]
 conv=>lhs;rw[A]
 rw[j0c _ _ B]
theorem k7f{s:ByteArray}(h:Lib.indexByte s.data.toList 32=-1):q4x (btL s)=[btL s]:=j0d _ (j6d (l:=btL s) h)
theorem v8e{s:ByteArray}{i:Nat}(h:i<s.size):(s.extract (i+1) s.size).size=s.size-(i+1):=by
 rw[ByteArray.size_extract];omega
theorem v1v:∀(k:Nat)(s:ByteArray),s.size<=k->(spK k s).map btL=q4x (btL s)
 | 0,s,h=>by
  have e:btL s=[]:=List.eq_nil_of_length_eq_zero (by rw[q0c];omega);rw[k0k,List.map_cons,List.map_nil,e];rfl
 | k+1,s,h=>by
  rcases q8k s with h1|⟨i,h1,h2⟩
  ·rw[z1k _ h1,k7f h1];rfl
  ·rw[z5q k h1,k0m h1,List.map_cons,v1v k _ (by rw[v8e h2];omega)]
theorem v1x:∀(k:Nat)(s:ByteArray),(spK k s).length<=k->(spK k s).map btL=q4x (btL s)
 | 0,s,h=>by rw[k0k]at h;simp at h
 | k+1,s,h=>by
  rcases q8k s with h1|⟨i,h1,h2⟩
  ·rw[z1k _ h1,k7f h1];rfl
  ·rw[z5q k h1]at h⊢;rw[List.length_cons]at h;rw[k0m h1,List.map_cons,v1x k _ (by omega)]
theorem y1p:∀(k:Nat)(s:ByteArray),(spK k s).length<=(q4x (btL s)).length
 | 0,s=>by
  rw[k0k]
  have:=q8j (btL s)
  cases h:q4x (btL s)with
  | nil=>exact absurd h this
  | cons a b=>simp
 | k+1,s=>by
  rcases q8k s with h1|⟨i,h1,h2⟩
  ·rw[z1k _ h1,k7f h1];simp
  ·rw[z5q k h1,k0m h1,List.length_cons,List.length_cons]
   have:=y1p k (s.extract (i+1) s.size)
   omega
theorem j4u{l:List ByteArray}{m:List (List UInt8)}(h:l.map btL=m):l=m.map wbS:=by
 subst h;rw[List.map_map]
 have:(wbS∘btL)=id:=by funext s;exact z1x s
 rw[this,List.map_id]
theorem v1w(s:ByteArray)(k:Nat)(hk:k=min 60 s.size):q1f (spK k s)=q1f ((q4x (btL s)).map wbS):=by
 by_cases h:s.size<=60
 ·rw[j4u (v1v k s (by omega))]
 ·have A:k=60:=by omega
  subst A;by_cases B:(spK 60 s).length<=60
  ·rw[j4u (v1x 60 s B)]
  ·have C:=y1p 60 s;rw[q7p (by omega),q7p (by rw[List.length_map];omega)]
theorem v6y{s:ByteArray}(h:0<s.size)(k:Nat)(hk:k=min 60 s.size):q1f (spK k s)=q2t s:=by
 rw[v1w s k hk,q2t,q0d,if_neg];intro e
 have:=congrArg List.length e
 rw[q0c,List.length_nil]at this;omega
theorem v0e{s:ByteArray}(h:s.size=0):q2t s=0:=by
 have e:btL s=[]:=List.eq_nil_of_length_eq_zero (by rw[q0c];exact h);rw[q2t,q0d,if_pos e];rfl
end Go.Proofs.YtchdplceopegoaaGreatDoor
namespace Go.Proofs.YtchdplceopegoaaGreatDoor
open Go Go.RowKit Go.Lib Go.Shelf
set_option maxRecDepth 100000
set_option maxHeartbeats 1000000
theorem q6z(s:ByteArray)(c:Int)(w:World):
  Calls prog 137 #[.string s,.int .u8 c] w fun e w'=>e=.returned (.int .i64 (Lib.indexByte s.data.toList c.toNat.toUInt8))/\w'=w:=by
 go_in;go_wp2;rw[run_callFunc_extern func171 (by kernel_rfl) (by kernel_rfl) (by kernel_rfl) (e:=Extern.BytealgIndexByte.indexByte) (by kernel_rfl),Lib.run_indexByteString];simp only[Result.andThen];rw[Oper.upon_value];go_wp2;go_ret;exact⟨rfl,rfl⟩
end Go.Proofs.YtchdplceopegoaaGreatDoor
namespace Go.Proofs.YtchdplceopegoaaGreatDoor
open Go Go.RowKit
set_option maxRecDepth 100000
set_option maxHeartbeats 4000000
theorem j3b(s:ByteArray)(w:World):
  Cw 172 #[.string s,.string ⟨#[32]⟩] w (Lib.indexByte s.data.toList 32):=by
 unfold Cw;go_in;go_wp2_with(go_at_call 137;refine(q6z _ _ _).mono ?_;rintro e w'⟨rfl,rfl⟩)
 ·have h:([32]==s.toList)=true:=by assumption
  go_ret;refine⟨?_,rfl⟩;have e:s.data.toList=[32]:=by rw[<-Lib.toList_data];exact(beq_iff_eq.1 h).symm
  rw[e];simp[Lib.indexByte]
 ·go_ret;exact⟨rfl,rfl⟩
theorem z0w(s:ByteArray)(w:World):
  Cw 215 #[.string s,.string ⟨#[32]⟩] w (Lib.indexByte s.data.toList 32):=by
 unfold Cw;go_in;go_wp2_with fail;refine(j3b _ _).mono ?_;rintro e A⟨rfl,rfl⟩;go_wp2;go_ret;exact⟨rfl,rfl⟩
theorem j1w(s:ByteArray)(N:Nat)(w:World)(hs:s.size<=140737488351232)(hN:N=min 61 (s.size+1)):
  Calls prog 180 #[.string s,.string ⟨#[32]⟩,.int .i64 0,.int .i64 61] w fun e w'=>
   e=.returned (.slice w.heap.size (spK (N-1) s).length N)/\w'=w.alloc (.cells (Lib.cellsOf (spK (N-1) s) N) 9):=by
 have S:min (61:Int) ((s.size:Int)+1)=(N:Int):=by omega
 have j:(N:Int)<=(s.size:Int)+1:=by omega
 have f:(1:Int)<=(N:Int):=by omega
 have g:N<=61:=by omega
 clear hN;by_cases d:(s.size:Int)+1<61
 ·have Q:((N:Nat):Int)=(s.size:Int)+1:=by omega
  have I:=run_make_row' (P:=prog) 51 9 (.string ByteArray.empty) 16 Tryz.underlying51 z1l rfl .i64 .i64 N (by omega) (by omega);rw[Q]at I;go_in;go_wp2_with fail;clear I S
  go_loopw [0,10] (fun s0 i wr=>∃(A:List ByteArray)(B:ByteArray),s0=.string B/\i=.int .i64 (A.length:Nat)/\A.length<=N-1/\B.size<=s.size/\
    wr=w.alloc (.cells (Lib.cellsOf A N) 9)/\A++spK (N-1-A.length) B=spK (N-1) s) (fun _ i _=>N-1-(intOf i).toNat)
  case atStart=>exact⟨[],s,rfl,rfl,Nat.zero_le _,Nat.le_refl _,by rw[Lib.cellsOf_nil],rfl⟩
  case round=>
   obtain⟨A,B,rfl,rfl,k,W,rfl,J⟩:=hrel;have M:(Lib.cellsOf A N)[A.length]?=some (.string ByteArray.empty):=Lib.cellsOf_next (by omega);have R:Hid (A++spK (N-1-A.length) B=spK (N-1) s):=J;clear J
   have C:spK (N-1-A.length) B=[B]->(spK (N-1) s).length=A.length+1/\(Lib.cellsOf A N).setIfInBounds A.length (.string B)=Lib.cellsOf (spK (N-1) s) N:=fun h=>by
    have e:=R.o;rw[h]at e;rw[<-e];exact⟨by simp,Lib.cellsOf_set (by omega) B⟩
   by_cases V:A.length<N-1
   ·have H:((A.length:Nat):Int)<(s.size:Int):=by omega
    rcases q8k B with D|⟨i,D,O⟩
    ·obtain⟨E,G⟩:=C (z1k _ D);have K:Hid ((spK (N-1) s).length=A.length+1):=E;have L:=(show Hid (_=_)from G);clear E G C;go_wp2_with fail;refine(z0w B _).mono ?_;rintro e X⟨rfl,rfl⟩;rw[D];go_wp2;go_ret;rw[K.o,<-L.o];exact⟨by first|rfl|(congr 2<;>omega),rfl⟩
    ·have Y:¬((i:Int)<0):=by omega
     have Z:(0:Int)<=↑i:=by omega
     have a:(↑i:Int)<=↑B.size:=by omega
     have b:(0:Int)<=↑i+1:=by omega
     have c:(↑i+1:Int)<=↑B.size:=by omega
     have U:Hid (A++[B.extract 0 i]++spK (N-1-(A.length+1)) (B.extract (i+1) B.size)=spK (N-1) s):=by
      show _=_;rw[<-R.o,show N-1-A.length=(N-1-(A.length+1))+1 by omega,z5q _ D];simp
     clear C;go_wp2_with fail;refine(z0w B _).mono ?_;rintro e X⟨rfl,rfl⟩;rw[D];go_wp2
     go_roundw
     case rel=>exact⟨A++[B.extract 0 i],B.extract (i+1) B.size,rfl,by simp,by simp;omega,by rw[ByteArray.size_extract];omega,by rw[<-Lib.cellsOf_set (by omega)],by rw[List.length_append];exact U.o⟩
     case measure=>simp[intOf];omega
   ·have H:¬(((A.length:Nat):Int)<(s.size:Int)):=by omega
    obtain⟨E,G⟩:=C (by rw[show N-1-A.length=0 by omega];rfl);have K:Hid ((spK (N-1) s).length=A.length+1):=E;have L:=(show Hid (_=_)from G);clear E G C;go_wp2;go_ret;rw[K.o,<-L.o];exact⟨by first|rfl|(congr 2<;>omega),rfl⟩
 ·have Q:((N:Nat):Int)=61:=by omega
  have I:=run_make_row' (P:=prog) 51 9 (.string ByteArray.empty) 16 Tryz.underlying51 z1l rfl .i64 .i64 N (by omega) (by omega);rw[Q]at I;go_in;go_wp2_with fail;clear I S
  go_loopw [0,10] (fun s0 i wr=>∃(A:List ByteArray)(B:ByteArray),s0=.string B/\i=.int .i64 (A.length:Nat)/\A.length<=N-1/\B.size<=s.size/\
    wr=w.alloc (.cells (Lib.cellsOf A N) 9)/\A++spK (N-1-A.length) B=spK (N-1) s) (fun _ i _=>N-1-(intOf i).toNat)
  case atStart=>exact⟨[],s,rfl,rfl,Nat.zero_le _,Nat.le_refl _,by rw[Lib.cellsOf_nil],rfl⟩
  case round=>
   obtain⟨A,B,rfl,rfl,k,W,rfl,J⟩:=hrel;have M:(Lib.cellsOf A N)[A.length]?=some (.string ByteArray.empty):=Lib.cellsOf_next (by omega);have R:Hid (A++spK (N-1-A.length) B=spK (N-1) s):=J;clear J
   have C:spK (N-1-A.length) B=[B]->(spK (N-1) s).length=A.length+1/\(Lib.cellsOf A N).setIfInBounds A.length (.string B)=Lib.cellsOf (spK (N-1) s) N:=fun h=>by
    have e:=R.o;rw[h]at e;rw[<-e];exact⟨by simp,Lib.cellsOf_set (by omega) B⟩
   by_cases V:A.length<N-1
   ·have H:((A.length:Nat):Int)<60:=by omega
    rcases q8k B with D|⟨i,D,O⟩
    ·obtain⟨E,G⟩:=C (z1k _ D);have K:Hid ((spK (N-1) s).length=A.length+1):=E;have L:=(show Hid (_=_)from G);clear E G C;go_wp2_with fail;refine(z0w B _).mono ?_;rintro e X⟨rfl,rfl⟩;rw[D];go_wp2;go_ret;rw[K.o,<-L.o];exact⟨by first|rfl|(congr 2<;>omega),rfl⟩
    ·have Y:¬((i:Int)<0):=by omega
     have Z:(0:Int)<=↑i:=by omega
     have a:(↑i:Int)<=↑B.size:=by omega
     have b:(0:Int)<=↑i+1:=by omega
     have c:(↑i+1:Int)<=↑B.size:=by omega
     have U:Hid (A++[B.extract 0 i]++spK (N-1-(A.length+1)) (B.extract (i+1) B.size)=spK (N-1) s):=by
      show _=_;rw[<-R.o,show N-1-A.length=(N-1-(A.length+1))+1 by omega,z5q _ D];simp
     clear C;go_wp2_with fail;refine(z0w B _).mono ?_;rintro e X⟨rfl,rfl⟩;rw[D];go_wp2
     go_roundw
     case rel=>exact⟨A++[B.extract 0 i],B.extract (i+1) B.size,rfl,by simp,by simp;omega,by rw[ByteArray.size_extract];omega,by rw[<-Lib.cellsOf_set (by omega)],by rw[List.length_append];exact U.o⟩
     case measure=>simp[intOf];omega
   ·have H:¬(((A.length:Nat):Int)<60):=by omega
    obtain⟨E,G⟩:=C (by rw[show N-1-A.length=0 by omega];rfl);have K:Hid ((spK (N-1) s).length=A.length+1):=E;have L:=(show Hid (_=_)from G);clear E G C;go_wp2;go_ret;rw[K.o,<-L.o];exact⟨by first|rfl|(congr 2<;>omega),rfl⟩
theorem j3h(s:ByteArray)(N:Nat)(w:World)(hs:s.size<=140737488351232)(hN:N=min 61 (s.size+1)):
  Calls prog 151 #[.string s,.string ⟨#[32]⟩,.int .i64 61] w fun e w'=>
   e=.returned (.slice w.heap.size (spK (N-1) s).length N)/\w'=w.alloc (.cells (Lib.cellsOf (spK (N-1) s) N) 9):=by
 have A:Hid (N=min 61 (s.size+1)):=hN;clear hN;go_in;go_wp2_with fail;refine(j1w s N _ hs A.o).mono ?_;rintro e B⟨rfl,rfl⟩;go_wp2;go_ret;exact⟨rfl,rfl⟩
theorem v4y{ws:List ByteArray}{N i:Nat}(h:i<ws.length):(Lib.cellsOf ws N)[i]?=some (.string ws[i]):=by
 unfold Lib.cellsOf;rw[List.getElem?_toArray,List.getElem?_append_left (by rw[List.length_map];exact h),List.getElem?_map,List.getElem?_eq_getElem h];rfl
theorem j5u(w:World)(ws:List ByteArray)(N:Nat):Wds (w.alloc (.cells (Lib.cellsOf ws N) 9)) w.heap.size ws:=by
 intro i A;refine⟨w.heap.size,0,rfl,by rw[World.size_alloc];omega,?_⟩
 have h:(w.alloc (.cells (Lib.cellsOf ws N) 9)).heap[w.heap.size]?=some (.cells (Lib.cellsOf ws N) 9):=by
  show(w.heap.push _)[w.heap.size]?=_
  simp
 simp only[World.cell?,Option.isSome_none,Bool.false_eq_true,if_false,h,Nat.zero_add];exact v4y A
theorem q9e{t:ByteArray}(h0:0<(t.size:Int)):(t.toList==[])=false:=by
 rw[Lib.toList_data]
 have:=(show t.data.toList.length=t.size from q0c t)
 cases h:t.data.toList with
 | nil=>rw[h]at this;simp at this;omega
 | cons a b=>rfl
theorem q6q{t:ByteArray}(h0:¬0<(t.size:Int)):t=⟨#[]⟩:=by
 obtain⟨d⟩:=t
 have A:d.size=0:=by
  have:(d.size:Int)=((⟨d⟩:ByteArray).size:Int):=rfl
  omega
 rw[Array.eq_empty_of_size_eq_zero A]
theorem j3l(s:ByteArray)(w:World)(hs:s.size<=140737488351232):Calls prog 112 #[.string s] w fun e w'=>∃(A:Option Addr)(ws:List ByteArray)(c:Nat),e=.returned (.slice A ws.length c)/\Wds w' A ws/\q1f ws=q2t s/\Below w w w':=by
 by_cases B:0<(s.size:Int)
 ·have E:=q9e B;have C:Hid (q1f (spK (min 61 (s.size+1)-1) s)=q2t s):=v6y (by omega) _ (by omega);go_in;go_wp2_with fail;refine(j3h s _ _ hs rfl).mono ?_;rintro e G⟨rfl,rfl⟩;generalize spK (min 61 (s.size+1)-1) s=ws at C⊢;generalize min 61 (s.size+1)=N;go_wp2;go_ret;exact⟨_,ws,N,rfl,j5u w ws N,C.o,Zb.alloc Zl _⟩
 ·have D:Hid (q2t s=0):=v0e (by omega);have e:=q6q B;subst e;clear B;go_in;go_wp2;go_ret;exact⟨none,[],0,rfl,fun i hi=>by simp at hi,by rw[D.o];rfl,Below.refl _ _⟩
theorem y0v{op:Int}{tx:ByteArray}{n:Int}(_h0:op<1):q0t ⟨op,tx,n⟩=1:=by
 unfold q0t
 (repeat' split)<;>first|rfl|(exfalso;omega)|(exfalso;simp_all;done)|(exfalso;simp_all<;>omega)|(simp_all;done)
theorem y0w{op:Int}{tx:ByteArray}{n:Int}(_h0:¬op<1)(_h1:9<op):q0t ⟨op,tx,n⟩=1:=by
 unfold q0t
 (repeat' split)<;>first|rfl|(exfalso;omega)|(exfalso;simp_all;done)|(exfalso;simp_all<;>omega)|(simp_all;done)
theorem y0x{tx:ByteArray}{n:Int}(_h0:n<0):q0t ⟨1,tx,n⟩=1:=by
 have A:q2v 1=false:=rfl;unfold q0t
 (repeat' split)<;>first|rfl|(exfalso;omega)|(exfalso;simp_all;done)|(exfalso;simp_all<;>omega)|(simp_all;done)
theorem y0y{tx:ByteArray}{n:Int}(_h0:¬n<0)(_h1:999999<n):q0t ⟨1,tx,n⟩=1:=by
 have A:q2v 1=false:=rfl;unfold q0t
 (repeat' split)<;>first|rfl|(exfalso;omega)|(exfalso;simp_all;done)|(exfalso;simp_all<;>omega)|(simp_all;done)
theorem y0z{tx:ByteArray}{n:Int}(_h0:¬n<0)(_h1:¬999999<n)(_h2:0<(tx.size:Int)):q0t ⟨1,tx,n⟩=2:=by
 have A:q2v 1=false:=rfl;unfold q0t
 (repeat' split)<;>first|rfl|(exfalso;omega)|(exfalso;simp_all;done)|(exfalso;simp_all<;>omega)|(simp_all;done)
theorem y1a{tx:ByteArray}{n:Int}(_h0:¬n<0)(_h1:¬999999<n)(_h2:¬0<(tx.size:Int)):q0t ⟨1,tx,n⟩=0:=by
 have A:q2v 1=false:=rfl;unfold q0t
 (repeat' split)<;>first|rfl|(exfalso;omega)|(exfalso;simp_all;done)|(exfalso;simp_all<;>omega)|(simp_all;done)
theorem y1b{tx:ByteArray}{n:Int}(_h0:¬n=0):q0t ⟨2,tx,n⟩=2:=by
 have A:q2v 2=true:=rfl;unfold q0t
 (repeat' split)<;>first|rfl|(exfalso;omega)|(exfalso;simp_all;done)|(exfalso;simp_all<;>omega)|(simp_all;done)
theorem y1c{tx:ByteArray}{n:Int}(_h0:n=0)(_h1:q0o tx=true):q0t ⟨2,tx,n⟩=0:=by
 have A:q2v 2=true:=rfl;unfold q0t
 (repeat' split)<;>first|rfl|(exfalso;omega)|(exfalso;simp_all;done)|(exfalso;simp_all<;>omega)|(simp_all;done)
theorem y1d{tx:ByteArray}{n:Int}(_h0:n=0)(_h1:q0o tx=false):q0t ⟨2,tx,n⟩=5:=by
 have A:q2v 2=true:=rfl;unfold q0t
 (repeat' split)<;>first|rfl|(exfalso;omega)|(exfalso;simp_all;done)|(exfalso;simp_all<;>omega)|(simp_all;done)
theorem y1e{tx:ByteArray}{n:Int}(_h0:n<0):q0t ⟨3,tx,n⟩=1:=by
 have A:q2v 3=true:=rfl;unfold q0t
 (repeat' split)<;>first|rfl|(exfalso;omega)|(exfalso;simp_all;done)|(exfalso;simp_all<;>omega)|(simp_all;done)
theorem j9d{tx:ByteArray}{n:Int}(_h0:¬n<0)(_h1:6<n):q0t ⟨3,tx,n⟩=1:=by
 have A:q2v 3=true:=rfl;unfold q0t
 (repeat' split)<;>first|rfl|(exfalso;omega)|(exfalso;simp_all;done)|(exfalso;simp_all<;>omega)|(simp_all;done)
theorem j9e{tx:ByteArray}{n:Int}(_h0:¬n<0)(_h1:¬6<n)(_h2:q0o tx=true):q0t ⟨3,tx,n⟩=0:=by
 have A:q2v 3=true:=rfl;unfold q0t
 (repeat' split)<;>first|rfl|(exfalso;omega)|(exfalso;simp_all;done)|(exfalso;simp_all<;>omega)|(simp_all;done)
theorem j9f{tx:ByteArray}{n:Int}(_h0:¬n<0)(_h1:¬6<n)(_h2:q0o tx=false):q0t ⟨3,tx,n⟩=5:=by
 have A:q2v 3=true:=rfl;unfold q0t
 (repeat' split)<;>first|rfl|(exfalso;omega)|(exfalso;simp_all;done)|(exfalso;simp_all<;>omega)|(simp_all;done)
theorem j9g{tx:ByteArray}{n:Int}(_h0:n<0):q0t ⟨4,tx,n⟩=1:=by
 have A:q2v 4=false:=rfl;unfold q0t
 (repeat' split)<;>first|rfl|(exfalso;omega)|(exfalso;simp_all;done)|(exfalso;simp_all<;>omega)|(simp_all;done)
theorem j9h{tx:ByteArray}{n:Int}(_h0:¬n<0)(_h1:6<n):q0t ⟨4,tx,n⟩=1:=by
 have A:q2v 4=false:=rfl;unfold q0t
 (repeat' split)<;>first|rfl|(exfalso;omega)|(exfalso;simp_all;done)|(exfalso;simp_all<;>omega)|(simp_all;done)
theorem j9i{tx:ByteArray}{n:Int}(_h0:¬n<0)(_h1:¬6<n)(_h2:0<(tx.size:Int)):q0t ⟨4,tx,n⟩=2:=by
 have A:q2v 4=false:=rfl;unfold q0t
 (repeat' split)<;>first|rfl|(exfalso;omega)|(exfalso;simp_all;done)|(exfalso;simp_all<;>omega)|(simp_all;done)
theorem j9j{tx:ByteArray}{n:Int}(_h0:¬n<0)(_h1:¬6<n)(_h2:¬0<(tx.size:Int)):q0t ⟨4,tx,n⟩=0:=by
 have A:q2v 4=false:=rfl;unfold q0t
 (repeat' split)<;>first|rfl|(exfalso;omega)|(exfalso;simp_all;done)|(exfalso;simp_all<;>omega)|(simp_all;done)
theorem j9k{tx:ByteArray}{n:Int}(_h0:¬n=0):q0t ⟨5,tx,n⟩=2:=by
 have A:q2v 5=false:=rfl;unfold q0t
 (repeat' split)<;>first|rfl|(exfalso;omega)|(exfalso;simp_all;done)|(exfalso;simp_all<;>omega)|(simp_all;done)
theorem j9l{tx:ByteArray}{n:Int}(_h0:n=0)(_h1:0<(tx.size:Int)):q0t ⟨5,tx,n⟩=2:=by
 have A:q2v 5=false:=rfl;unfold q0t
 (repeat' split)<;>first|rfl|(exfalso;omega)|(exfalso;simp_all;done)|(exfalso;simp_all<;>omega)|(simp_all;done)
theorem j9m{tx:ByteArray}{n:Int}(_h0:n=0)(_h1:¬0<(tx.size:Int)):q0t ⟨5,tx,n⟩=0:=by
 have A:q2v 5=false:=rfl;unfold q0t
 (repeat' split)<;>first|rfl|(exfalso;omega)|(exfalso;simp_all;done)|(exfalso;simp_all<;>omega)|(simp_all;done)
theorem j9n{tx:ByteArray}{n:Int}(_h0:¬n=0):q0t ⟨6,tx,n⟩=2:=by
 have A:q2v 6=false:=rfl;unfold q0t
 (repeat' split)<;>first|rfl|(exfalso;omega)|(exfalso;simp_all;done)|(exfalso;simp_all<;>omega)|(simp_all;done)
theorem j9o{tx:ByteArray}{n:Int}(_h0:n=0)(_h1:0<(tx.size:Int)):q0t ⟨6,tx,n⟩=2:=by
 have A:q2v 6=false:=rfl;unfold q0t
 (repeat' split)<;>first|rfl|(exfalso;omega)|(exfalso;simp_all;done)|(exfalso;simp_all<;>omega)|(simp_all;done)
theorem j9p{tx:ByteArray}{n:Int}(_h0:n=0)(_h1:¬0<(tx.size:Int)):q0t ⟨6,tx,n⟩=0:=by
 have A:q2v 6=false:=rfl;unfold q0t
 (repeat' split)<;>first|rfl|(exfalso;omega)|(exfalso;simp_all;done)|(exfalso;simp_all<;>omega)|(simp_all;done)
theorem j9q{tx:ByteArray}{n:Int}(_h0:¬n=0):q0t ⟨7,tx,n⟩=2:=by
 have A:q2v 7=true:=rfl;unfold q0t
 (repeat' split)<;>first|rfl|(exfalso;omega)|(exfalso;simp_all;done)|(exfalso;simp_all<;>omega)|(simp_all;done)
theorem j9r{tx:ByteArray}{n:Int}(_h0:n=0)(_h1:q0o tx=true):q0t ⟨7,tx,n⟩=0:=by
 have A:q2v 7=true:=rfl;unfold q0t
 (repeat' split)<;>first|rfl|(exfalso;omega)|(exfalso;simp_all;done)|(exfalso;simp_all<;>omega)|(simp_all;done)
theorem j9s{tx:ByteArray}{n:Int}(_h0:n=0)(_h1:q0o tx=false):q0t ⟨7,tx,n⟩=5:=by
 have A:q2v 7=true:=rfl;unfold q0t
 (repeat' split)<;>first|rfl|(exfalso;omega)|(exfalso;simp_all;done)|(exfalso;simp_all<;>omega)|(simp_all;done)
theorem j9t{tx:ByteArray}{n:Int}(_h0:¬n=0):q0t ⟨8,tx,n⟩=2:=by
 have A:q2v 8=false:=rfl;unfold q0t
 (repeat' split)<;>first|rfl|(exfalso;omega)|(exfalso;simp_all;done)|(exfalso;simp_all<;>omega)|(simp_all;done)
theorem j9u{tx:ByteArray}{n:Int}(_h0:n=0)(_h1:0<(tx.size:Int)):q0t ⟨8,tx,n⟩=2:=by
 have A:q2v 8=false:=rfl;unfold q0t
 (repeat' split)<;>first|rfl|(exfalso;omega)|(exfalso;simp_all;done)|(exfalso;simp_all<;>omega)|(simp_all;done)
theorem j9v{tx:ByteArray}{n:Int}(_h0:n=0)(_h1:¬0<(tx.size:Int)):q0t ⟨8,tx,n⟩=0:=by
 have A:q2v 8=false:=rfl;unfold q0t
 (repeat' split)<;>first|rfl|(exfalso;omega)|(exfalso;simp_all;done)|(exfalso;simp_all<;>omega)|(simp_all;done)
theorem j9w{tx:ByteArray}{n:Int}(_h0:¬n=0):q0t ⟨9,tx,n⟩=2:=by
 have A:q2v 9=true:=rfl;unfold q0t
 (repeat' split)<;>first|rfl|(exfalso;omega)|(exfalso;simp_all;done)|(exfalso;simp_all<;>omega)|(simp_all;done)
theorem j9x{tx:ByteArray}{n:Int}(_h0:n=0)(_h1:q2t tx=0):q0t ⟨9,tx,n⟩=0:=by
 have A:q2v 9=true:=rfl;unfold q0t
 (repeat' split)<;>first|rfl|(exfalso;omega)|(exfalso;simp_all;done)|(exfalso;simp_all<;>omega)|(simp_all;done)
theorem j9y{tx:ByteArray}{n:Int}(_h0:n=0)(_h1:¬q2t tx=0):q0t ⟨9,tx,n⟩=q2t tx:=by
 have A:q2v 9=true:=rfl;unfold q0t
 (repeat' split)<;>first|rfl|(exfalso;omega)|(exfalso;simp_all;done)|(exfalso;simp_all<;>omega)|(simp_all;done)
theorem z7z{ds:List Td}(h:40<ds.length):q0b ds=3:=by rw[q0b,if_pos h]
theorem z8a{ds:List Td}{k:Nat}(hl:ds.length<=40)(hk:k<ds.length)(ha:∀x∈ds.take k,q0t x=0)(h:q0t ds[k]≠0):q0b ds=q0t ds[k]:=by
 have e:=j7k ds k hk ha h;rw[q0b,if_neg (by omega),if_pos (by rw[e];exact h),e]
theorem z1r{ds:List Td}(hl:ds.length<=40)(ha:∀x∈ds,q0t x=0):q0b ds=if q3u ds 0 1=some ds.length/\k7i ds=true then 0 else 2:=by
 rw[q0b,if_neg (by omega),if_neg (by rw[k8t ds ha];simp)]
theorem z7x{ds:List Td}{k:Nat}(h:k<ds.length)(ha:∀x∈ds.take k,q0t x=0)(h0:q0t ds[k]=0):∀x∈ds.take (k+1),q0t x=0:=by
 intro x A;rw[List.take_succ_eq_append_getElem h]at A;rcases List.mem_append.1 A with A|A
 ·exact ha x A
 ·simp at A;subst A;exact h0
theorem j0k{ds:List Td}:k7i ds=true↔∀k(h:k<ds.length),decide (7<=ds[k].op)=decide (k=0):=by
 cases ds with
 | nil=>simp[k7i]
 | cons x r=>
  simp only[k7i,Bool.and_eq_true,decide_eq_true_eq,List.all_eq_true];constructor
  ·rintro⟨C,D⟩k A;cases k with
   | zero=>simpa using C
   | succ k=>
    have:=D (r[k]'(by simpa using A)) (List.getElem_mem _)
    simp only[List.getElem_cons_succ,Nat.add_eq_zero_iff,Nat.one_ne_zero,and_false,decide_false,decide_eq_false_iff_not];omega
  ·intro h;have B:=h 0 (by simp);simp only[List.getElem_cons_zero,decide_true,decide_eq_true_eq]at B;refine⟨B,fun y hy=>?_⟩;obtain⟨k,A,rfl⟩:=List.getElem_of_mem hy
   have:=h (k+1) (by simpa using A)
   simp at this;omega
end Go.Proofs.YtchdplceopegoaaGreatDoor
