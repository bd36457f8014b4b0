/- Texts as one: SyA, TreX, IxB, TreV. -/
import Derived.Test.YthjapabokcajhaaGreatDoorPf07
import Derived.Test.YthjapabokcajhaaGreatDoorPf05
import Derived.Test.YthjapabokcajhaaGreatDoorPf08
import Derived.Test.YthjapabokcajhaaGreatDoorPf06
import Derived.Test.YthjapabokcajhaaGreatDoorShg
import Derived.Defers
import Derived.Lib.LaidTab
import Derived.Test.YthjapabokcajhaaGreatDoorPf00
import Derived.Lib.IndexBytes
import Derived.Lib.Split
import Derived.WalkKit
import Derived.OwnWalkIn
import Derived.TacticsInMore
import Derived.Lib.Bytealg
import Derived.Lib.Strings
import Derived.Shelf.RegionOpen
import Derived.Test.YthjapabokcajhaaGreatDoorProg
namespace Go.Proofs.YthjapabokcajhaaGreatDoor
open Go Go.RowKit
set_option maxRecDepth 100000
set_option maxHeartbeats 2000000
def z1v (w : World) : Prop := Lib.TabIs Tryz.prog w "internal/strconv.uint64pow10" .u64 Lib.pow10Tab
structure z7p(w:World):Prop where
 pow:z1v w
 spc : Lib.TabIs Tryz.prog w "strings.asciiSpace" .u8 Lib.asciiSpaceTab
theorem z5l{n:String}{k:IntKind}{zs:List Int}{w w':World}{g:Nat}(hg:Tryz.prog.globalNamed n=some g)(h:Lib.TabIs Tryz.prog w n k zs)(hb:Below w.heap.size w w'):Lib.TabIs Tryz.prog w' n k zs:=by
 unfold Lib.TabIs World.var? at h⊢;rw[hg]at h⊢;simp only[Option.bind_some]at h⊢
 have hlt:g<w.heap.size:=by
  rcases Nat.lt_or_ge g w.heap.size with h'|h'
  ·exact h'
  ·rw[Array.getElem?_eq_none h']at h;cases h
 rw[hb.block g hlt];exact h
theorem z1v.below{w w':World}(h:z1v w)(hb:Below w.heap.size w w'):z1v w':=z5l (g:=4) (by kernel_rfl) h hb
theorem z7p.below{w w':World}(h:z7p w)(hb:Below w.heap.size w w'):z7p w':=
 ⟨h.pow.below hb,z5l (g:=1) (by kernel_rfl) h.spc hb⟩
theorem q7o(w:World)(o:Obj):Below w.heap.size w (w.alloc o):=(Below.refl _ _).alloc (Nat.le_refl _) _
theorem k1w(w:World)(o:Obj):Below w.heap.size w (w.alloc o).drew:=(q7o w o).drew
theorem k7p{w:World}{b o c:Nat}{x:Td}{ds:List Td}(h:Tds w (some ⟨b,o,none⟩) (x::ds))(hc:(x::ds).length<=c):
  ∃A,(∀W:World,(Instr.slice 22 (.slice (some ⟨b,o,none⟩) (x::ds).length c) (some (.int .i64 1)) none none).run Tryz.prog W=.ok (.slice A ds.length (c-1)) W)/\Tds w A ds:=by
 refine⟨if c=1 then some ⟨b,o,none⟩else some ⟨b,o+3,none⟩,fun W=>?_,?_⟩
 ·rw[run_slice_l W 22 _ (x::ds).length c Tryz.underlying22 .i64 1 (by omega) (by simp only[List.length_cons];omega)];have hz:(sizeOf (Tryz.prog.elem 22)).run Tryz.prog W=.ok 3 W:=by kernel_rfl
  rw[hz];have ha:(⟨b,o,none⟩:Addr).add 3=⟨b,o+3,none⟩:=rfl;simp[Result.andThen,sliced,ha]
 ·by_cases e:c=1
  ·have:ds=[]:=List.eq_nil_of_length_eq_zero (by simp only[List.length_cons]at hc;omega)
   rw[this];exact Tds.nil _ _
  ·rw[if_neg e];intro i hi;obtain⟨b',o',e',hlt,c1,c2,c3⟩:=h (i+1) (by simp only[List.length_cons];omega);simp only[Option.some.injEq,Addr.mk.injEq,and_true]at e';obtain⟨rfl,rfl⟩:=e';simp only[List.getElem_cons_succ]at c1 c2 c3;refine⟨b,o+3,rfl,hlt,?_,?_,?_⟩
   ·rw[show o+3+i*3=o+(i+1)*3 by omega];exact c1
   ·rw[show o+3+i*3+1=o+(i+1)*3+1 by omega];exact c2
   ·rw[show o+3+i*3+2=o+(i+1)*3+2 by omega];exact c3
structure Wy(w0:World)(b:Nat)(bs:List UInt8)(ds:List Td)(w:World)(A:Option Addr)(c:Nat):Prop where
 x:IsX 91 w0.heap.size b (Lib.byteCells bs) [.slice A ds.length c] w
 le:ds.length<=c
 td:Tds w0 A ds
 bl:Below w0.heap.size w0 w
 lt:w0.heap.size<=b
def WyE(w0:World)(b:Nat)(bs:List UInt8)(ds:List Td)(w:World):Prop:=∃A c,Wy w0 b bs ds w A c
theorem j6p:q8v 91 3:=by unfold q8v;kernel_rfl
theorem wrT:91≠5:=by decide
theorem q4a(a b:List UInt8):Lib.byteCells (a++b)=Lib.byteCells a++Lib.byteCells b:=by simp[Lib.byteCells]
theorem IsX.grew{T B b:Nat}{bs R:List Value}{w w':World}(h:IsX T B b bs R w)(hb:Below w.heap.size w w'):IsX T B b bs R w':=by
 have key:∀p,XAt T B b p bs R w->XAt T B b p bs R w':=by
  rintro p⟨v,hk,hown,hne,h0⟩;refine⟨v,(hb.block b ?_).trans hk,hown.kept (row:=none) ⟨hb.os,hb.tape,hb.output,hb.size,fun k hk _=>hb.block k hk⟩ (by cases hv:v.ownBlock<;>simp),hne,h0⟩;rcases Nat.lt_or_ge b w.heap.size with h'|h'
  ·exact h'
  ·simp[Array.getElem?_eq_none h']at hk
 exact h.imp (key _) (key _)
theorem Wy.grew{w0:World}{b:Nat}{bs:List UInt8}{ds:List Td}{w w':World}{A:Option Addr}{c:Nat}(h:Wy w0 b bs ds w A c)(hb:Below w.heap.size w w'):Wy w0 b bs ds w' A c:=
 ⟨h.x.grew hb,h.le,h.td,q0g h.bl (Nat.le_refl _) hb,h.lt⟩
theorem q5e{w0:World}{b:Nat}{bs:List UInt8}{ds:List Td}{w:World}{A:Option Addr}{c:Nat}(h:Wy w0 b bs ds w A c)(k:UInt8)(hl:bs.length<=1000000):
  Calls Tryz.prog 45 #[.pointer (some ⟨b,0,none⟩),.int .u8 (k.toNat:Int)] w fun e w'=>e=.returned .nilIface/\Wy w0 b (bs++[k]) ds w' A c:=by
 refine(z5q 91 w0.heap.size b (Lib.byteCells bs) [.slice A ds.length c] (k.toNat:Int) w j6p wrT h.x (by rw[Lib.byteCells_length];omega) h.bl.size).mono ?_;rintro e w'⟨rfl,h1,h2,_⟩;refine⟨rfl,?_,h.le,h.td,h.bl.trans (h2.below h.lt),h.lt⟩;rw[q4a];exact h1
theorem q3b{w0:World}{b:Nat}{bs:List UInt8}{ds:List Td}{w:World}{A:Option Addr}{c:Nat}(h:Wy w0 b bs ds w A c)(s:ByteArray)(hl:bs.length<=1000000)(hs:s.size<=1000000):
  Calls Tryz.prog 38 #[.pointer (some ⟨b,0,none⟩),.string s] w fun e w'=>e=.returned (.tuple #[.int .i64 s.size,.nilIface])/\Wy w0 b (bs++btL s) ds w' A c/\Lib.OthersKept 5 (some b) w w':=by
 refine(z0f 91 w0.heap.size b (Lib.byteCells bs) [.slice A ds.length c] s w j6p wrT h.x (by rw[Lib.byteCells_length];omega) h.bl.size).mono ?_;rintro e w'⟨rfl,h1,h2,h3⟩;refine⟨rfl,⟨?_,h.le,h.td,h.bl.trans (h2.below h.lt),h.lt⟩,h3⟩;rw[q4a];exact h1
theorem k8l(T B b:Nat)(bs R:List Value)(c:Int)(u:FrameMode)(w:World)(hl:q8v T (R.length+2))(hT:T≠5)(h:IsX T B b bs R w)(hlen:bs.length+1<=140737488355328)(hBw:B<=w.heap.size):
  CallsD Tryz.prog 45 #[.pointer (some ⟨b,0,none⟩),.int .u8 c] u w fun e u' w'=>u'=u/\(e=.returned .nilIface/\(IsX T B b (bs++[.int .u8 c]) R w'/\q0j B b w w')):=by
 obtain⟨i0,hi,hz0,hz1,hz2⟩:=info_parts j2f;have HL:Hid (q8v T (R.length+2)):=hl;have HT:Hid (T≠5):=hT;have H:Hid (IsX T B b bs R w):=h;clear hl hT h;go_enter_d Tryz.func45,Tryz.ntmps45;go_wp2_with(go_at_call 75;refine(q8f T B b bs R _ HL.out H.out).mono ?_);rintro e w1⟨rfl,h1,hb1,hk1⟩;obtain⟨v,hbk,hown,hne,_⟩:=h1;have c0:w1.cell? ⟨b,0,none⟩=some (.pointer (some ⟨b,0,none⟩)):=by rw[Lib.cell_of_heap hbk];rfl
 have c1:w1.cell? ⟨b,1,none⟩=some v:=by rw[Lib.cell_of_heap hbk];rfl
 go_wp2_with(at_builtin;refine wpList_append_ownF _ rfl _ _ 79 rfl B 5 i0 (.int .u8 0) 1 1 Tryz.underlying79 hi hz0 hz1 hz2 rfl (by decide) _ _ _ rfl (hown.alloc _) ⟨w1.heap.size,0,none⟩ 1 1 [.int .u8 c] rfl rfl ?c1 ?c2 ?c3 ?c4 ?c5 ?_)
 case c1=>
  intro j u hj
  match j,hj with
  | 0,hj=>simp at hj;subst hj;simp[Addr.add]
 case c2=>intro u hu;simp at hu;subst hu;rfl
 case c3=>unfold maxLen;omega
 case c4=>omega
 case c5=>have:=hb1.size;simp;omega
 intro v' w2 hown' hgrow _
 have hlt:b<w1.heap.size:=by
  rcases Nat.lt_or_ge b w1.heap.size with h'|h'
  ·exact h'
  ·simp[Array.getElem?_eq_none h']at hbk
 have hb2:w2.heap[b]?=some (.cells (.pointer (some ⟨b,0,none⟩)::v::R).toArray T (0,0)):=by
  rw[hgrow.block b (by simp;omega) (fun e=>hne e.symm),Lib.alloc_old w1 _ b hlt];exact hbk
 have d0:w2.cell? ⟨b,0,none⟩=some (.pointer (some ⟨b,0,none⟩)):=by rw[Lib.cell_of_heap hb2];rfl
 have d1:w2.cell? ⟨b,1,none⟩=some v:=by rw[Lib.cell_of_heap hb2];rfl
 have f1:w2.frozen? ⟨b,1,none⟩=false:=Lib.frozen_of_heap hb2 1
 obtain⟨g,cap,rfl⟩:∃g cap,v'=.slice (some ⟨g,0,none⟩) (bs.length+1) cap:=by
  rcases hown'.2 with⟨_,h0⟩|⟨g,cap,cur,fz,hv,_⟩
  ·omega
  ·exact⟨g,cap,hv⟩
 go_wp2;go_ret;refine⟨rfl,.inr ?_,?_⟩
 ·exact XAt.put hb2 (bs':=bs++[.int .u8 c]) (by simpa using hown') HT.out (fun h=>by simp at h)
 ·exact((hb1.alloc (by have:=hb1.size;omega) _).grown hgrow (by have:=hb1.size;simp;omega) (fun k hk=>(hown.lt k hk).1)).setCell (p:=⟨b,1,none⟩) (.inl rfl) _
theorem z5m{w0:World}{b:Nat}{bs:List UInt8}{ds:List Td}{w:World}{A:Option Addr}{c:Nat}(h:Wy w0 b bs ds w A c)(k:UInt8)(u:FrameMode)(hl:bs.length<=1000000):
  CallsD Tryz.prog 45 #[.pointer (some ⟨b,0,none⟩),.int .u8 (k.toNat:Int)] u w fun e u' w'=>u'=u/\(e=.returned .nilIface/\Wy w0 b (bs++[k]) ds w' A c):=by
 refine(k8l 91 w0.heap.size b (Lib.byteCells bs) [.slice A ds.length c] (k.toNat:Int) u w j6p wrT h.x (by rw[Lib.byteCells_length];omega) h.bl.size).mono ?_;rintro e u' w'⟨rfl,rfl,h1,h2⟩;refine⟨rfl,rfl,?_,h.le,h.td,h.bl.trans (h2.below h.lt),h.lt⟩;rw[q4a];exact h1
theorem q3a{w0:World}{b:Nat}{bs:List UInt8}{x:Td}{ds:List Td}{w:World}{A:Option Addr}{c:Nat}(h:Wy w0 b bs (x::ds) w A c):
  Calls Tryz.prog 83 #[.pointer (some ⟨b,0,none⟩)] w fun e w'=>e=.returned (tdV x)/\WyE w0 b bs ds w':=by
 obtain⟨tb,tq,rfl,hlt,d0,d1,d2⟩:=h.td 0 (by simp);obtain⟨A',hsl,htd⟩:=k7p h.td h.le;simp only[List.getElem_cons_zero,Nat.zero_mul,Nat.add_zero]at d0 d1 d2;obtain⟨bc,_⟩:=q1g h.bl;have e0:w.cell? ⟨tb,tq,none⟩=some (.int .i64 x.op):=(bc _ _ hlt).trans d0;have e1:w.cell? ⟨tb,tq+1,none⟩=some (.string x.tx):=(bc _ _ hlt).trans d1;have e2:w.cell? ⟨tb,tq+2,none⟩=some (.int .i64 x.n):=(bc _ _ hlt).trans d2;have hbw:b<w.heap.size:=h.x.lt;have htw:tb<w.heap.size:=Nat.lt_of_lt_of_le hlt h.bl.size;have cR:w.cell? ⟨b,2,none⟩=some (.slice (some ⟨tb,tq,none⟩) (x::ds).length c):=h.x.cellR 0;have fR:w.frozen? ⟨b,2,none⟩=false:=h.x.frozen 2;have hne:¬tb=b:=by have:=h.lt;omega
 have H:=(show Hid (_)from h);have HT:Hid (Tds w0 A' ds):=htd;have hle:=h.le;generalize hn:(x::ds).length=n at cR hsl hle;have h1n:0<n:=by rw[<-hn];simp
 have HN:Hid ((x::ds).length=n):=hn;clear h htd d0 d1 d2 bc hn;generalize hm:ds.length=m at hsl;have HM:Hid (ds.length=m):=hm;clear hm;go_in;go_wp2;refine bodyPost_ret (v:=tdV x) (by simp[results,Tryz.results83,go_sem]) rfl ?_;have h:=H.out;have hs:=h.x.stored 0 (.slice A' m (c-1));have hb2:Below w0.heap.size w0 (w.setCell ⟨b,2,none⟩ (.slice A' m (c-1))):=h.bl.setCell (p:=⟨b,2,none⟩) h.lt _;have hs2:IsX 91 w0.heap.size b (Lib.byteCells bs) [.slice A' ds.length (c-1)] (w.setCell ⟨b,2,none⟩ (.slice A' m (c-1))):=by rw[HM.out];exact hs
 refine⟨rfl,A',c-1,((hs2.alloc _).alloc _),?_,HT.out,?_,h.lt⟩
 ·have:=h.le;simp only[List.length_cons]at this;omega
 ·have hz:=h.bl.size;exact(hb2.alloc (by rw[World.size_setCell];exact hz) _).alloc (by rw[World.size_alloc,World.size_setCell];omega) _
theorem z4w(x:Td)(op:Int)(hop:op=5\/op=6)(s:Bool)(w:World):Calls Tryz.prog 206 #[.int .i64 x.op,.int .i64 op,.bool s] w fun e w'=>e=.returned (.bool (decide (prc x<(op-5).toNat+s.toNat)))/\w'=w:=by
 have hp:prc x=if x.op=5 then 0 else if x.op=6 then 1 else 2:=rfl
 rw[hp];generalize x.op=k;clear hp;by_cases h5:k=5
 ·subst h5;rcases hop with rfl|rfl<;>cases s
  all_goals
   go_in;go_wp2;go_ret;exact⟨rfl,rfl⟩
 ·by_cases h6:k=6
  ·subst h6;rcases hop with rfl|rfl<;>cases s
   all_goals
    go_in;go_wp2;go_ret;exact⟨rfl,rfl⟩
  ·rw[if_neg h5,if_neg h6];have e5:(k==5)=false:=by simp[h5]
   have e6:(k==6)=false:=by simp[h6]
   rcases hop with rfl|rfl<;>cases s
   all_goals
    go_in;go_wp2;go_ret;exact⟨rfl,rfl⟩
end Go.Proofs.YthjapabokcajhaaGreatDoor
namespace Go.Proofs.YthjapabokcajhaaGreatDoor
open Go
theorem k4n{s:ByteArray}:btL s=[108,101,116]↔s=⟨#[108,101,116]⟩:=by
 constructor
 ·intro h;apply ByteArray.ext;apply Array.ext';exact h
 ·intro h;rw[h]
theorem z4u{s:ByteArray}(h1:1<=s.size)(h2:s.size<=8)(h3:¬s=⟨#[108,101,116]⟩)(h:∀k(h:k<s.size),q7n s[k]=true):q0r s=true:=by
 have h3':btL s≠[108,101,116]:=fun e=>h3 (k4n.1 e)
 simp only[q0r,h1,h2,h3',decide_true,Bool.true_and,List.all_eq_true,ne_eq,not_false_eq_true];intro b hb;obtain⟨i,hi,rfl⟩:=List.getElem_of_mem hb;exact h i (by rw[<-q0h];exact hi)
theorem z4v{s:ByteArray}{k:Nat}(h:k<s.size)(hb:q7n s[k]=false):q0r s=false:=by
 cases e:q0r s with
 | false=>rfl
 | true=>
  simp only[q0r,Bool.and_eq_true,List.all_eq_true]at e;have hl:k<(btL s).length:=by rw[q0h];exact h
  have:=e.2 s[k] (List.getElem_mem hl)
  rw[hb]at this;cases this
theorem q9p{s:ByteArray}(h:s.size<1):q0r s=false:=by
 have:decide (1<=s.size)=false:=decide_eq_false (by omega)
 simp[q0r,this]
theorem z1f{s:ByteArray}(h:8<s.size):q0r s=false:=by
 have:decide (s.size<=8)=false:=decide_eq_false (by omega)
 simp[q0r,this]
theorem q8i(s:ByteArray):wbS (btL s)=s:=by
 obtain⟨d⟩:=s;simp[wbS,btL]
theorem k2y{l:List UInt8}(h:Lib.indexByte l 32=-1):∀b∈l,b≠32:=by
 intro b hb e;subst e;obtain⟨k,hk⟩:=List.getElem?_of_mem hb;exact Lib.indexByte_none h k hk
theorem z7y{l:List UInt8}{i:Nat}(h:Lib.indexByte l 32=i):i<l.length/\l=l.take i++32::l.drop (i+1)/\∀b∈l.take i,b≠32:=by
 obtain⟨h1,h2⟩:=Lib.indexByte_some h;obtain⟨hi,h3⟩:=List.getElem?_eq_some_iff.1 h1;refine⟨hi,?_,?_⟩
 ·have:=(List.take_append_drop i l).symm
  rw[List.drop_eq_getElem_cons hi,h3]at this;exact this
 ·intro b hb e;subst e;obtain⟨k,hk⟩:=List.getElem?_of_mem hb;rw[List.getElem?_take]at hk
  split at hk
  ·rename_i hki;exact h2 k hki hk
  ·cases hk
def spK:Nat->ByteArray->List ByteArray
 | 0,s=>[s]
 | k+1,s=>if Lib.indexByte s.data.toList 32=-1 then [s]else s.extract 0 (Lib.indexByte s.data.toList 32).toNat::spK k (s.extract ((Lib.indexByte s.data.toList 32).toNat+1) s.size)
theorem z3d(s:ByteArray):spK 0 s=[s]:=rfl
theorem q7f(k:Nat){s:ByteArray}(h:Lib.indexByte s.data.toList 32=-1):spK k s=[s]:=by
 cases k with
 | zero=>rfl
 | succ k=>rw[spK,if_pos h]
theorem q9v(k:Nat){s:ByteArray}{i:Nat}(h:Lib.indexByte s.data.toList 32=i):spK (k+1) s=s.extract 0 i::spK k (s.extract (i+1) s.size):=by
 rw[spK,if_neg (by omega),h];rfl
theorem v1r(s:ByteArray)(i:Nat):btL (s.extract 0 i)=(btL s).take i:=by
 rw[z7j,List.drop_zero,Nat.sub_zero];rfl
theorem j4y(s:ByteArray)(i:Nat):btL (s.extract i s.size)=(btL s).drop i:=Lib.extract_to_end s i
theorem q5a(s:ByteArray):Lib.indexByte s.data.toList 32=-1\/∃i:Nat,Lib.indexByte s.data.toList 32=i/\i<s.size:=by
 have hge:=Lib.indexByte_ge s.data.toList 32;by_cases h:Lib.indexByte s.data.toList 32=-1
 ·exact .inl h
 ·refine .inr ⟨(Lib.indexByte s.data.toList 32).toNat,by omega,?_⟩
  have:=(z7y (l:=btL s) (i:=(Lib.indexByte s.data.toList 32).toNat) (by show Lib.indexByte s.data.toList 32=_;omega)).1
  rw[q0h]at this;exact this
theorem z3f{s:ByteArray}{i:Nat}(h:Lib.indexByte s.data.toList 32=i):q3w (btL s)=btL (s.extract 0 i)::q3w (btL (s.extract (i+1) s.size)):=by
 obtain⟨_,h2,h3⟩:=z7y (l:=btL s) h;rw[v1r,j4y]
 conv=>lhs;rw[h2]
 rw[z9f _ _ h3]
theorem z7f{s:ByteArray}(h:Lib.indexByte s.data.toList 32=-1):q3w (btL s)=[btL s]:=z9g _ (k2y (l:=btL s) h)
theorem j1m{s:ByteArray}{i:Nat}(h:i<s.size):(s.extract (i+1) s.size).size=s.size-(i+1):=by
 rw[ByteArray.size_extract];omega
theorem k7b:∀(k:Nat)(s:ByteArray),s.size<=k->(spK k s).map btL=q3w (btL s)
 | 0,s,h=>by
  have e:btL s=[]:=List.eq_nil_of_length_eq_zero (by rw[q0h];omega);rw[z3d,List.map_cons,List.map_nil,e];rfl
 | k+1,s,h=>by
  rcases q5a s with h1|⟨i,h1,h2⟩
  ·rw[q7f _ h1,z7f h1];rfl
  ·rw[q9v k h1,z3f h1,List.map_cons,k7b k _ (by rw[j1m h2];omega)]
theorem k7d:∀(k:Nat)(s:ByteArray),(spK k s).length<=k->(spK k s).map btL=q3w (btL s)
 | 0,s,h=>by rw[z3d]at h;simp at h
 | k+1,s,h=>by
  rcases q5a s with h1|⟨i,h1,h2⟩
  ·rw[q7f _ h1,z7f h1];rfl
  ·rw[q9v k h1]at h⊢;rw[List.length_cons]at h;rw[z3f h1,List.map_cons,k7d k _ (by omega)]
theorem j3v:∀(k:Nat)(s:ByteArray),(spK k s).length<=(q3w (btL s)).length
 | 0,s=>by
  rw[z3d]
  have:=q6h (btL s)
  cases h:q3w (btL s)with
  | nil=>exact absurd h this
  | cons a b=>simp
 | k+1,s=>by
  rcases q5a s with h1|⟨i,h1,h2⟩
  ·rw[q7f _ h1,z7f h1];simp
  ·rw[q9v k h1,z3f h1,List.length_cons,List.length_cons]
   have:=j3v k (s.extract (i+1) s.size)
   omega
theorem k1u{l:List ByteArray}{m:List (List UInt8)}(h:l.map btL=m):l=m.map wbS:=by
 subst h;rw[List.map_map]
 have:(wbS∘btL)=id:=by funext s;exact q8i s
 rw[this,List.map_id]
theorem k7c(s:ByteArray)(k:Nat)(hk:k=min 60 s.size):q0t (spK k s)=q0t ((q3w (btL s)).map wbS):=by
 by_cases h:s.size<=60
 ·rw[k1u (k7b k s (by omega))]
 ·have hk':k=60:=by omega
  subst hk';by_cases hl:(spK 60 s).length<=60
  ·rw[k1u (k7d 60 s hl)]
  ·have h1:=j3v 60 s;rw[q4o (by omega),q4o (by rw[List.length_map];omega)]
theorem j0u{s:ByteArray}(h:0<s.size)(k:Nat)(hk:k=min 60 s.size):q0t (spK k s)=q1s s:=by
 rw[k7c s k hk,q1s,q0f,if_neg];intro e
 have:=congrArg List.length e
 rw[q0h,List.length_nil]at this;omega
theorem k6a{s:ByteArray}(h:s.size=0):q1s s=0:=by
 have e:btL s=[]:=List.eq_nil_of_length_eq_zero (by rw[q0h];exact h);rw[q1s,q0f,if_pos e];rfl
end Go.Proofs.YthjapabokcajhaaGreatDoor
namespace Go.Proofs.YthjapabokcajhaaGreatDoor
open Go Go.RowKit Go.Lib Go.Shelf
set_option maxRecDepth 100000
set_option maxHeartbeats 1000000
theorem z2l(s:ByteArray)(c:Int)(w:World):
  Calls Tryz.prog 168 #[.string s,.int .u8 c] w fun e w'=>e=.returned (.int .i64 (Lib.indexByte s.data.toList c.toNat.toUInt8))/\w'=w:=by
 go_in;go_wp2;rw[run_callFunc_extern Tryz.func197 (by kernel_rfl) (by kernel_rfl) (by kernel_rfl) (e:=Extern.BytealgIndexByte.indexByte) (by kernel_rfl),Lib.run_indexByteString];simp only[Result.andThen];rw[Oper.upon_value];go_wp2;go_ret;exact⟨rfl,rfl⟩
end Go.Proofs.YthjapabokcajhaaGreatDoor
namespace Go.Proofs.YthjapabokcajhaaGreatDoor
open Go Go.RowKit
set_option maxRecDepth 100000
set_option maxHeartbeats 4000000
theorem k1f(s:ByteArray)(w:World):
  Calls Tryz.prog 198 #[.string s,.string ⟨#[32]⟩] w fun e w'=>e=.returned (.int .i64 (Lib.indexByte s.data.toList 32))/\w=w':=by
 go_in;go_wp2_with(go_at_call 168;refine(z2l _ _ _).mono ?_;rintro e w'⟨rfl,rfl⟩)
 ·have h:([32]==s.toList)=true:=by assumption
  go_ret;refine⟨?_,rfl⟩;have e:s.data.toList=[32]:=by rw[<-Lib.toList_data];exact(beq_iff_eq.1 h).symm
  rw[e];simp[Lib.indexByte]
 ·go_ret;exact⟨rfl,rfl⟩
theorem q6u(s:ByteArray)(w:World):
  Calls Tryz.prog 214 #[.string s,.string ⟨#[32]⟩] w fun e w'=>e=.returned (.int .i64 (Lib.indexByte s.data.toList 32))/\w=w':=by
 go_in;go_wp2_with fail;refine(k1f _ _).mono ?_;rintro e w2⟨rfl,rfl⟩;go_wp2;go_ret;exact⟨rfl,rfl⟩
theorem k0l(s:ByteArray)(N:Nat)(w:World)(hs:s.size<=140737488351232)(hN:N=min 61 (s.size+1)):
  Calls Tryz.prog 190 #[.string s,.string ⟨#[32]⟩,.int .i64 0,.int .i64 61] w fun e w'=>
   e=.returned (.slice (some ⟨w.heap.size,0,none⟩) (spK (N-1) s).length N)/\w'=w.alloc (.cells (Lib.cellsOf (spK (N-1) s) N) 9):=by
 have eN':min (61:Int) ((s.size:Int)+1)=(N:Int):=by omega
 have hNs:(N:Int)<=(s.size:Int)+1:=by omega
 have hN1:(1:Int)<=(N:Int):=by omega
 have hN6:N<=61:=by omega
 clear hN;by_cases h61:(s.size:Int)+1<61
 ·have hzN:((N:Nat):Int)=(s.size:Int)+1:=by omega
  have hmk:=run_make_row' (P:=Tryz.prog) 58 9 (.string ByteArray.empty) 16 Tryz.underlying58 z9i rfl .i64 .i64 N (by omega) (by omega);rw[hzN]at hmk;go_in;go_wp2_with fail;clear hmk eN'
  go_loopw [0,10] (fun s0 i wr=>∃(done:List ByteArray)(rest:ByteArray),s0=.string rest/\i=.int .i64 (done.length:Nat)/\done.length<=N-1/\rest.size<=s.size/\
    wr=w.alloc (.cells (Lib.cellsOf done N) 9)/\done++spK (N-1-done.length) rest=spK (N-1) s) (fun _ i _=>N-1-(intOf i).toNat)
  case atStart=>exact⟨[],s,rfl,rfl,Nat.zero_le _,Nat.le_refl _,by rw[Lib.cellsOf_nil],rfl⟩
  case round=>
   obtain⟨done,rest,rfl,rfl,hd,hrs,rfl,hsp⟩:=hrel;have hnext:(Lib.cellsOf done N)[done.length]?=some (.string ByteArray.empty):=Lib.cellsOf_next (by omega);have HS:Hid (done++spK (N-1-done.length) rest=spK (N-1) s):=hsp;clear hsp
   have fin:spK (N-1-done.length) rest=[rest]->(spK (N-1) s).length=done.length+1/\(Lib.cellsOf done N).setIfInBounds done.length (.string rest)=Lib.cellsOf (spK (N-1) s) N:=fun h=>by
    have e:=HS.out;rw[h]at e;rw[<-e];exact⟨by simp,Lib.cellsOf_set (by omega) rest⟩
   by_cases hlt:done.length<N-1
   ·have hltz:((done.length:Nat):Int)<(s.size:Int):=by omega
    rcases q5a rest with hix|⟨i,hix,hroom⟩
    ·obtain⟨f1,f2⟩:=fin (q7f _ hix);have F1:Hid ((spK (N-1) s).length=done.length+1):=f1;have F2:=(show Hid (_=_)from f2);clear f1 f2 fin;go_wp2_with fail;refine(q6u rest _).mono ?_;rintro e w2⟨rfl,rfl⟩;rw[hix];go_wp2;go_ret;rw[F1.out,<-F2.out];exact⟨by first|rfl|(congr 2<;>omega),rfl⟩
    ·have c0:¬((i:Int)<0):=by omega
     have c1:(0:Int)<=↑i:=by omega
     have c2:(↑i:Int)<=↑rest.size:=by omega
     have c3:(0:Int)<=↑i+1:=by omega
     have c4:(↑i+1:Int)<=↑rest.size:=by omega
     have HR:Hid (done++[rest.extract 0 i]++spK (N-1-(done.length+1)) (rest.extract (i+1) rest.size)=spK (N-1) s):=by
      show _=_;rw[<-HS.out,show N-1-done.length=(N-1-(done.length+1))+1 by omega,q9v _ hix];simp
     clear fin;go_wp2_with fail;refine(q6u rest _).mono ?_;rintro e w2⟨rfl,rfl⟩;rw[hix];go_wp2
     go_roundw
     case rel=>exact⟨done++[rest.extract 0 i],rest.extract (i+1) rest.size,rfl,by simp,by simp;omega,by rw[ByteArray.size_extract];omega,by rw[<-Lib.cellsOf_set (by omega)],by rw[List.length_append];exact HR.out⟩
     case measure=>simp[intOf];omega
   ·have hltz:¬(((done.length:Nat):Int)<(s.size:Int)):=by omega
    obtain⟨f1,f2⟩:=fin (by rw[show N-1-done.length=0 by omega];rfl);have F1:Hid ((spK (N-1) s).length=done.length+1):=f1;have F2:=(show Hid (_=_)from f2);clear f1 f2 fin;go_wp2;go_ret;rw[F1.out,<-F2.out];exact⟨by first|rfl|(congr 2<;>omega),rfl⟩
 ·have hzN:((N:Nat):Int)=61:=by omega
  have hmk:=run_make_row' (P:=Tryz.prog) 58 9 (.string ByteArray.empty) 16 Tryz.underlying58 z9i rfl .i64 .i64 N (by omega) (by omega);rw[hzN]at hmk;go_in;go_wp2_with fail;clear hmk eN'
  go_loopw [0,10] (fun s0 i wr=>∃(done:List ByteArray)(rest:ByteArray),s0=.string rest/\i=.int .i64 (done.length:Nat)/\done.length<=N-1/\rest.size<=s.size/\
    wr=w.alloc (.cells (Lib.cellsOf done N) 9)/\done++spK (N-1-done.length) rest=spK (N-1) s) (fun _ i _=>N-1-(intOf i).toNat)
  case atStart=>exact⟨[],s,rfl,rfl,Nat.zero_le _,Nat.le_refl _,by rw[Lib.cellsOf_nil],rfl⟩
  case round=>
   obtain⟨done,rest,rfl,rfl,hd,hrs,rfl,hsp⟩:=hrel;have hnext:(Lib.cellsOf done N)[done.length]?=some (.string ByteArray.empty):=Lib.cellsOf_next (by omega);have HS:Hid (done++spK (N-1-done.length) rest=spK (N-1) s):=hsp;clear hsp
   have fin:spK (N-1-done.length) rest=[rest]->(spK (N-1) s).length=done.length+1/\(Lib.cellsOf done N).setIfInBounds done.length (.string rest)=Lib.cellsOf (spK (N-1) s) N:=fun h=>by
    have e:=HS.out;rw[h]at e;rw[<-e];exact⟨by simp,Lib.cellsOf_set (by omega) rest⟩
   by_cases hlt:done.length<N-1
   ·have hltz:((done.length:Nat):Int)<60:=by omega
    rcases q5a rest with hix|⟨i,hix,hroom⟩
    ·obtain⟨f1,f2⟩:=fin (q7f _ hix);have F1:Hid ((spK (N-1) s).length=done.length+1):=f1;have F2:=(show Hid (_=_)from f2);clear f1 f2 fin;go_wp2_with fail;refine(q6u rest _).mono ?_;rintro e w2⟨rfl,rfl⟩;rw[hix];go_wp2;go_ret;rw[F1.out,<-F2.out];exact⟨by first|rfl|(congr 2<;>omega),rfl⟩
    ·have c0:¬((i:Int)<0):=by omega
     have c1:(0:Int)<=↑i:=by omega
     have c2:(↑i:Int)<=↑rest.size:=by omega
     have c3:(0:Int)<=↑i+1:=by omega
     have c4:(↑i+1:Int)<=↑rest.size:=by omega
     have HR:Hid (done++[rest.extract 0 i]++spK (N-1-(done.length+1)) (rest.extract (i+1) rest.size)=spK (N-1) s):=by
      show _=_;rw[<-HS.out,show N-1-done.length=(N-1-(done.length+1))+1 by omega,q9v _ hix];simp
     clear fin;go_wp2_with fail;refine(q6u rest _).mono ?_;rintro e w2⟨rfl,rfl⟩;rw[hix];go_wp2
     go_roundw
     case rel=>exact⟨done++[rest.extract 0 i],rest.extract (i+1) rest.size,rfl,by simp,by simp;omega,by rw[ByteArray.size_extract];omega,by rw[<-Lib.cellsOf_set (by omega)],by rw[List.length_append];exact HR.out⟩
     case measure=>simp[intOf];omega
   ·have hltz:¬(((done.length:Nat):Int)<60):=by omega
    obtain⟨f1,f2⟩:=fin (by rw[show N-1-done.length=0 by omega];rfl);have F1:Hid ((spK (N-1) s).length=done.length+1):=f1;have F2:=(show Hid (_=_)from f2);clear f1 f2 fin;go_wp2;go_ret;rw[F1.out,<-F2.out];exact⟨by first|rfl|(congr 2<;>omega),rfl⟩
theorem k1g(s:ByteArray)(N:Nat)(w:World)(hs:s.size<=140737488351232)(hN:N=min 61 (s.size+1)):
  Calls Tryz.prog 153 #[.string s,.string ⟨#[32]⟩,.int .i64 61] w fun e w'=>
   e=.returned (.slice (some ⟨w.heap.size,0,none⟩) (spK (N-1) s).length N)/\w'=w.alloc (.cells (Lib.cellsOf (spK (N-1) s) N) 9):=by
 have HN:Hid (N=min 61 (s.size+1)):=hN;clear hN;go_in;go_wp2_with fail;refine(k0l s N _ hs HN.out).mono ?_;rintro e w2⟨rfl,rfl⟩;go_wp2;go_ret;exact⟨rfl,rfl⟩
theorem k9j{ws:List ByteArray}{N i:Nat}(h:i<ws.length):(Lib.cellsOf ws N)[i]?=some (.string ws[i]):=by
 unfold Lib.cellsOf;rw[List.getElem?_toArray,List.getElem?_append_left (by rw[List.length_map];exact h),List.getElem?_map,List.getElem?_eq_getElem h];rfl
theorem k2p(w:World)(ws:List ByteArray)(N:Nat):Wds (w.alloc (.cells (Lib.cellsOf ws N) 9)) (some ⟨w.heap.size,0,none⟩) ws:=by
 intro i hi;refine⟨w.heap.size,0,rfl,by rw[World.size_alloc];omega,?_⟩
 have h:(w.alloc (.cells (Lib.cellsOf ws N) 9)).heap[w.heap.size]?=some (.cells (Lib.cellsOf ws N) 9):=by
  show(w.heap.push _)[w.heap.size]?=_
  simp
 simp only[World.cell?,Option.isSome_none,Bool.false_eq_true,if_false,h,Nat.zero_add];exact k9j hi
theorem q5l{t:ByteArray}(h0:0<(t.size:Int)):(t.toList==[])=false:=by
 rw[Lib.toList_data]
 have:=(show t.data.toList.length=t.size from q0h t)
 cases h:t.data.toList with
 | nil=>rw[h]at this;simp at this;omega
 | cons a b=>rfl
theorem q3v{t:ByteArray}(h0:¬0<(t.size:Int)):t=⟨#[]⟩:=by
 obtain⟨d⟩:=t
 have h1:d.size=0:=by
  have:(d.size:Int)=((⟨d⟩:ByteArray).size:Int):=rfl
  omega
 rw[Array.eq_empty_of_size_eq_zero h1]
theorem k1i(s:ByteArray)(w:World)(hs:s.size<=140737488351232):Calls Tryz.prog 98 #[.string s] w fun e w'=>∃(A:Option Addr)(ws:List ByteArray)(c:Nat),e=.returned (.slice A ws.length c)/\Wds w' A ws/\q0t ws=q1s s/\Below w.heap.size w w':=by
 by_cases h0:0<(s.size:Int)
 ·have h1:=q5l h0;have HN:Hid (q0t (spK (min 61 (s.size+1)-1) s)=q1s s):=j0u (by omega) _ (by omega);go_in;go_wp2_with fail;refine(k1g s _ _ hs rfl).mono ?_;rintro e w2⟨rfl,rfl⟩;generalize spK (min 61 (s.size+1)-1) s=ws at HN⊢;generalize min 61 (s.size+1)=N;go_wp2;go_ret;exact⟨_,ws,N,rfl,k2p w ws N,HN.out,(Below.refl _ _).alloc (Nat.le_refl _) _⟩
 ·have HZ:Hid (q1s s=0):=k6a (by omega);have e:=q3v h0;subst e;clear h0;go_in;go_wp2;go_ret;exact⟨none,[],0,rfl,fun i hi=>by simp at hi,by rw[HZ.out];rfl,Below.refl _ _⟩
end Go.Proofs.YthjapabokcajhaaGreatDoor
