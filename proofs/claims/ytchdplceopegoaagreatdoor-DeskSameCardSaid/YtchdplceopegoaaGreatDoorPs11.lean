/- Texts as one: BldX2, BldX3, SyA, TreX, IxB. -/
import Derived.Test.YtchdplceopegoaaGreatDoorPs10
import Derived.Test.YtchdplceopegoaaGreatDoorShg
import Derived.Defers
import Derived.Lib.LaidTab
import Derived.Lib.IndexBytes
import Derived.Lib.Split
import Derived.OwnWalkIn
import Derived.TacticsInMore
import Derived.Lib.Bytealg
import Derived.Shelf.RegionOpen
namespace Go.Proofs.YtchdplceopegoaaGreatDoor
open Go Go.RowKit
set_option maxRecDepth 100000
set_option maxHeartbeats 2000000
theorem k0l (T B b:Nat) (bs R:List Value) (c:Int) (w:World) (hl:z0g T (R.length+2)) (hT:T≠5) (h:IsX T B b bs R w) (hlen:bs.length+1≤140737488355328) (hBw:B≤w.heap.size) :
  Calls Tryz.prog 96 #[.pointer (some ⟨b,0,none⟩),.int .u8 c] w fun e w'=>e = .returned .nilIface∧(IsX T B b (bs++[.int .u8 c]) R w'∧q0i B b w w'∧Lib.OthersKept 5 (some b) w w'):=by
 obtain ⟨i0,hi,hz0,hz1,hz2⟩:=info_parts v1w
 have HL:Hid (z0g T (R.length+2)):=hl
 have HT:Hid (T≠5):=hT
 have H:Hid (IsX T B b bs R w):=h
 clear hl hT h
 go_enter Tryz.func96,Tryz.ntmps96
 go_wp2_with (go_at_call 54;refine (z1h T B b bs R _ HL.out H.out).mono ?_)
 rintro e w1 ⟨rfl,h1,hb1,hk1⟩
 obtain ⟨v,hbk,hown,hne,_⟩:=h1
 have c0:w1.cell? ⟨b,0,none⟩=some (.pointer (some ⟨b,0,none⟩)):=by rw [Lib.cell_of_heap hbk];rfl
 have c1:w1.cell? ⟨b,1,none⟩=some v:=by rw [Lib.cell_of_heap hbk];rfl
 go_wp2_with (at_builtin;refine wpList_append_ownF _ rfl _ _ 81 rfl B 5 i0 (.int .u8 0) 1 1 Tryz.underlying81 hi hz0 hz1 hz2 rfl (by decide) _ _ _ rfl (hown.alloc _) ⟨w1.heap.size,0,none⟩ 1 1 [.int .u8 c] rfl rfl ?c1 ?c2 ?c3 ?c4 ?c5 ?_)
 case c1=>
  intro j u hj
  match j,hj with
  | 0,hj=>simp at hj;subst hj;simp [Addr.add]
 case c2=>intro u hu;simp at hu;subst hu;rfl
 case c3=>unfold maxLen;omega
 case c4=>omega
 case c5=>have:=hb1.size;simp;omega
 intro v' w2 hown' hgrow _
 have hlt:b<w1.heap.size:=by
  rcases Nat.lt_or_ge b w1.heap.size with h' | h'
  ·exact h'
  ·simp [Array.getElem?_eq_none h'] at hbk
 have hb2:w2.heap[b]? = some (.cells (.pointer (some ⟨b,0,none⟩)::v::R).toArray T (0,0)):=by
  rw [hgrow.block b (by simp;omega) (fun e=>hne e.symm),Lib.alloc_old w1 _ b hlt]
  exact hbk
 have d0:w2.cell? ⟨b,0,none⟩=some (.pointer (some ⟨b,0,none⟩)):=by rw [Lib.cell_of_heap hb2];rfl
 have d1:w2.cell? ⟨b,1,none⟩=some v:=by rw [Lib.cell_of_heap hb2];rfl
 have f1:w2.frozen? ⟨b,1,none⟩=false:=Lib.frozen_of_heap hb2 1
 obtain ⟨g,cap,rfl⟩:∃ g cap,v' = .slice (some ⟨g,0,none⟩) (bs.length+1) cap:=by
  rcases hown'.2 with ⟨_,h0⟩ | ⟨g,cap,cur,fz,hv,_⟩
  ·omega
  ·exact ⟨g,cap,hv⟩
 go_wp2
 go_ret
 refine ⟨rfl,.inr ?_,?_,((hk1.alloc _).grown hgrow (Lib.ownsRowF_kind (hown.alloc _))).setCell ⟨b,1,none⟩ rfl _⟩
 ·exact XAt.put hb2 (bs':=bs++[.int .u8 c]) (by simpa using hown') HT.out (fun h=>by simp at h)
 ·exact ((hb1.alloc (by have:=hb1.size;omega) _).grown hgrow (by have:=hb1.size;simp;omega) (fun k hk=>(hown.lt k hk).1)).setCell (p:=⟨b,1,none⟩) (.inl rfl) _
theorem q5z (T B b:Nat) (bs R:List Value) (s:ByteArray) (w:World) (hl:z0g T (R.length+2)) (hT:T≠5) (h:IsX T B b bs R w) (hlen:bs.length+s.size≤140737488355328) (hBw:B≤w.heap.size) :
  Calls Tryz.prog 33 #[.pointer (some ⟨b,0,none⟩),.string s] w fun e w'=>e = .returned (.tuple #[.int .i64 s.size,.nilIface])∧(IsX T B b (bs++Lib.strCells s) R w'∧q0i B b w w'∧Lib.OthersKept 5 (some b) w w'):=by
 obtain ⟨i0,hi,hz0,hz1,hz2⟩:=info_parts v1w
 have HL:Hid (z0g T (R.length+2)):=hl
 have HT:Hid (T≠5):=hT
 have H:Hid (IsX T B b bs R w):=h
 clear hl hT h
 go_enter Tryz.func33,Tryz.ntmps33
 go_wp2_with (go_at_call 54;refine (z1h T B b bs R _ HL.out H.out).mono ?_)
 rintro e w1 ⟨rfl,h1,hb1,hk1⟩
 obtain ⟨v,hbk,hown,hne,h0⟩:=h1
 have H0:Hid (bs=[]→v = .slice none 0 0):=h0
 clear h0
 have c0:w1.cell? ⟨b,0,none⟩=some (.pointer (some ⟨b,0,none⟩)):=by rw [Lib.cell_of_heap hbk];rfl
 have c1:w1.cell? ⟨b,1,none⟩=some v:=by rw [Lib.cell_of_heap hbk];rfl
 go_wp2_with (at_builtin;refine Lib.wpList_append_own_stringF _ rfl _ _ 81 9 rfl B 5 i0 Tryz.underlying81 Tryz.underlying9 hi hz0 hz1 hz2 _ _ _ rfl hown s rfl ?c3 ?c4 ?c5 ?_)
 case c3=>unfold maxLen;omega
 case c4=>omega
 case c5=>have:=hb1.size;omega
 intro v' w2 hown' hgrow hnil
 have HZ:Hid (v' = .slice none 0 0↔v = .slice none 0 0∧s.size=0):=(show _↔_ by simpa using hnil)
 clear hnil
 have hlt:b<w1.heap.size:=by
  rcases Nat.lt_or_ge b w1.heap.size with h' | h'
  ·exact h'
  ·simp [Array.getElem?_eq_none h'] at hbk
 have hb2:w2.heap[b]? = some (.cells (.pointer (some ⟨b,0,none⟩)::v::R).toArray T (0,0)):=by
  rw [hgrow.block b hlt (fun e=>hne e.symm)]
  exact hbk
 have d0:w2.cell? ⟨b,0,none⟩=some (.pointer (some ⟨b,0,none⟩)):=by rw [Lib.cell_of_heap hb2];rfl
 have d1:w2.cell? ⟨b,1,none⟩=some v:=by rw [Lib.cell_of_heap hb2];rfl
 have f1:w2.frozen? ⟨b,1,none⟩=false:=Lib.frozen_of_heap hb2 1
 obtain ⟨ao,n',cap,rfl⟩:∃ ao n' cap,v' = .slice ao n' cap:=by
  rcases hown'.2 with ⟨hv,_⟩ | ⟨g,cap,cur,fz,hv,_⟩
  ·exact ⟨_,_,_,hv⟩
  ·exact ⟨_,_,_,hv⟩
 go_wp2
 go_ret2
 refine ⟨rfl,.inr ?_,?_,(hk1.grown hgrow (Lib.ownsRowF_kind hown)).setCell ⟨b,1,none⟩ rfl _⟩
 ·refine XAt.put hb2 (bs':=bs++Lib.strCells s) (by simpa [Lib.strCells_length] using hown') HT.out (fun h=>?_)
  obtain ⟨h1,h2⟩:=List.append_eq_nil_iff.1 h
  refine HZ.out.2 ⟨H0.out h1,?_⟩
  rw [←Lib.strCells_length,h2];rfl
 ·exact (hb1.grown hgrow (by have:=hb1.size;omega) (fun k hk=>(hown.lt k hk).1)).setCell (p:=⟨b,1,none⟩) (.inl rfl) _
theorem j6q (T B b:Nat) (l:List UInt8) (R:List Value) (w:World) (h:IsX T B b (Lib.byteCells l) R w) (h0:l≠[]) :
  Calls Tryz.prog 34 #[.pointer (some ⟨b,0,none⟩)] w fun e w'=>e = .returned (.string ⟨l.toArray⟩)∧Below B w w':=by
 obtain ⟨p,hAt⟩:=h.at
 obtain ⟨v,hbk,hown,hne,_⟩:=hAt
 have hl0:l.length≠0:=by simpa using h0
 rw [Lib.byteCells_length] at hown
 obtain ⟨g,cap,cur,fz,rfl,hbg,hg,hfz,hnc,hcm,hcs,htake⟩:∃ g cap cur fz,v = .slice (some ⟨g,0,none⟩) l.length cap∧B≤g∧w.heap[g]? = some (.cells cur 5 fz)∧fz.2≤l.length*1∧l.length≤cap∧cap≤maxLen∧cur.size=cap*1∧cur.toList.take (l.length*1)=Lib.byteCells l:=by
  rcases hown.2 with ⟨_,hz⟩ | ⟨g,cap,cur,fz,hv,r⟩
  ·exact absurd hz hl0
  ·exact ⟨g,cap,cur,fz,hv,r⟩
 have c1:w.drew.cell? ⟨b,1,none⟩=some (.slice (some ⟨g,0,none⟩) l.length cap):=by
  have:w.drew.heap[b]? = some (.cells (p::.slice (some ⟨g,0,none⟩) l.length cap::R).toArray T (0,0)):=hbk
  rw [Lib.cell_of_heap this];rfl
 have hSD:(Builtin.unsafeSliceData_ #[81] 115 #[.slice (some ⟨g,0,none⟩) l.length cap]).run Tryz.prog w.drew = .ok (.pointer (some ⟨g,0,none⟩)) w.drew:=
  Lib.run_unsafeSliceData_row _ _ _ _ _ _ (by omega)
 have hUS:(Builtin.unsafeString_ #[115,3] 9 #[.pointer (some ⟨g,0,none⟩),.int .i64 l.length]).run Tryz.prog w.drew = .ok (.string ⟨l.toArray⟩) (w.drew.freeze ⟨g,0,none⟩ l.length):=by
  refine Lib.run_unsafeString_row w.drew 115 3 9 5 Tryz.underlying115 v4h g cur.size (by have hg':w.drew.heap[g]? = some (.cells cur 5 fz):=hg;simp [World.shape?,hg']) l h0 (by omega) (by unfold maxLen at hcm;omega) ?_
  intro j x hx
  have:=hown.cells (g:=g) rfl j (.int .u8 x.toNat) (by simp [Lib.byteCells,hx])
  exact this
 go_enter Tryz.func34,Tryz.ntmps34
 go_wp2
 go_region
 all_goals (go_wp2;go_ret;exact ⟨rfl,Lib.below_freeze (Below.drew (Below.refl B w)) (p:=⟨g,0,none⟩) hbg _⟩)
theorem j6p (T B b:Nat) (R:List Value) (w:World) (h:IsX T B b [] R w) :
  Calls Tryz.prog 34 #[.pointer (some ⟨b,0,none⟩)] w fun e w'=>e = .returned (.string ⟨#[]⟩)∧Below B w w':=by
 obtain ⟨p,hAt⟩:=h.at
 obtain ⟨v,hbk,hown,hne,hv⟩:=hAt
 obtain rfl:=hv rfl
 clear hown hne hv
 have hUS:∀ (W:World) (q:Option Addr),(Builtin.unsafeString_ #[115,3] 9 #[.pointer q,.int .i64 0]).run Tryz.prog W = .ok (.string .empty) W:=fun W q=>Lib.run_unsafeString_none W _ _ _ q
 have c1:w.drew.cell? ⟨b,1,none⟩=some (.slice none 0 0):=by
  have:w.drew.heap[b]? = some (.cells (p::.slice none 0 0::R).toArray T (0,0)):=hbk
  rw [Lib.cell_of_heap this];rfl
 have hSD:(Builtin.unsafeSliceData_ #[81] 115 #[.slice none 0 0]).run Tryz.prog w.drew = .ok (.pointer none) w.drew:=rfl
 go_enter Tryz.func34,Tryz.ntmps34
 go_wp2
 go_region
 all_goals (go_wp2;go_ret;exact ⟨rfl,Below.drew (Below.refl B w)⟩)
theorem z2i (T B b:Nat) (l:List UInt8) (R:List Value) (w:World) (h:IsX T B b (Lib.byteCells l) R w) :
  Calls Tryz.prog 34 #[.pointer (some ⟨b,0,none⟩)] w fun e w'=>e = .returned (.string ⟨l.toArray⟩)∧Below B w w':=by
 by_cases h0:l=[]
 ·subst h0
  exact j6p T B b R w h
 ·exact j6q T B b l R w h h0
def z5s (w : World) : Prop := Lib.TabIs Tryz.prog w "internal/strconv.uint64pow10" .u64 Lib.pow10Tab
structure q7d (w:World):Prop where
 pow:z5s w
 spc : Lib.TabIs Tryz.prog w "strings.asciiSpace" .u8 Lib.asciiSpaceTab
theorem k0f {n:String} {k:IntKind} {zs:List Int} {w w':World} {g:Nat} (hg:Tryz.prog.globalNamed n=some g) (h:Lib.TabIs Tryz.prog w n k zs) (hb:Below w.heap.size w w'):Lib.TabIs Tryz.prog w' n k zs:=by
 unfold Lib.TabIs World.var? at h ⊢
 rw [hg] at h ⊢
 simp only [Option.bind_some] at h ⊢
 have hlt:g<w.heap.size:=by
  rcases Nat.lt_or_ge g w.heap.size with h' | h'
  ·exact h'
  ·rw [Array.getElem?_eq_none h'] at h;cases h
 rw [hb.block g hlt]
 exact h
theorem z5s.below {w w':World} (h:z5s w) (hb:Below w.heap.size w w'):z5s w':=k0f (g:=6) (by kernel_rfl) h hb
theorem q7d.below {w w':World} (h:q7d w) (hb:Below w.heap.size w w'):q7d w':=
 ⟨h.pow.below hb,k0f (g:=1) (by kernel_rfl) h.spc hb⟩
theorem q1j (w:World) (o:Obj):Below w.heap.size w (w.alloc o):=(Below.refl _ _).alloc (Nat.le_refl _) _
theorem z1u (w:World) (o:Obj):Below w.heap.size w (w.alloc o).drew:=(q1j w o).drew
theorem j5e {w:World} {b o c:Nat} {x:Td} {ds:List Td} (h:Tds w (some ⟨b,o,none⟩) (x::ds)) (hc:(x::ds).length≤c) :
  ∃ A,(∀ W:World,(Instr.slice 59 (.slice (some ⟨b,o,none⟩) (x::ds).length c) (some (.int .i64 1)) none none).run Tryz.prog W = .ok (.slice A ds.length (c - 1)) W)∧Tds w A ds:=by
 refine ⟨if c=1 then some ⟨b,o,none⟩ else some ⟨b,o+3,none⟩,fun W=>?_,?_⟩
 ·rw [run_slice_l W 59 _ (x::ds).length c Tryz.underlying59 .i64 1 (by omega) (by simp only [List.length_cons];omega)]
  have hz:(sizeOf (Tryz.prog.elem 59)).run Tryz.prog W = .ok 3 W:=by kernel_rfl
  rw [hz]
  have ha:(⟨b,o,none⟩:Addr).add 3=⟨b,o+3,none⟩:=rfl
  simp [Result.andThen,sliced,ha]
 ·by_cases e:c=1
  ·have:ds=[]:=List.eq_nil_of_length_eq_zero (by simp only [List.length_cons] at hc;omega)
   rw [this]
   exact Tds.nil _ _
  ·rw [if_neg e]
   intro i hi
   obtain ⟨b',o',e',hlt,c1,c2,c3⟩:=h (i+1) (by simp only [List.length_cons];omega)
   simp only [Option.some.injEq,Addr.mk.injEq,and_true] at e'
   obtain ⟨rfl,rfl⟩:=e'
   simp only [List.getElem_cons_succ] at c1 c2 c3
   refine ⟨b,o+3,rfl,hlt,?_,?_,?_⟩
   ·rw [show o+3+i*3=o+(i+1)*3 by omega];exact c1
   ·rw [show o+3+i*3+1=o+(i+1)*3+1 by omega];exact c2
   ·rw [show o+3+i*3+2=o+(i+1)*3+2 by omega];exact c3
structure Wy (w0:World) (b:Nat) (bs:List UInt8) (ds:List Td) (w:World) (A:Option Addr) (c:Nat):Prop where
 x:IsX 191 w0.heap.size b (Lib.byteCells bs) [.slice A ds.length c] w
 le:ds.length≤c
 td:Tds w0 A ds
 bl:Below w0.heap.size w0 w
 lt:w0.heap.size≤b
def WyE (w0:World) (b:Nat) (bs:List UInt8) (ds:List Td) (w:World):Prop:=∃ A c,Wy w0 b bs ds w A c
theorem v6r:z0g 191 3:=by unfold z0g;kernel_rfl
theorem wrT:191≠5:=by decide
theorem q2s (a b:List UInt8):Lib.byteCells (a++b)=Lib.byteCells a++Lib.byteCells b:=by simp [Lib.byteCells]
theorem IsX.grew {T B b:Nat} {bs R:List Value} {w w':World} (h:IsX T B b bs R w) (hb:Below w.heap.size w w'):IsX T B b bs R w':=by
 have key:∀ p,XAt T B b p bs R w→XAt T B b p bs R w':=by
  rintro p ⟨v,hk,hown,hne,h0⟩
  refine ⟨v,(hb.block b ?_).trans hk,hown.kept (row:=none) ⟨hb.os,hb.tape,hb.output,hb.size,fun k hk _=>hb.block k hk⟩ (by cases hv:v.ownBlock<;>simp),hne,h0⟩
  rcases Nat.lt_or_ge b w.heap.size with h' | h'
  ·exact h'
  ·simp [Array.getElem?_eq_none h'] at hk
 exact h.imp (key _) (key _)
theorem Wy.grew {w0:World} {b:Nat} {bs:List UInt8} {ds:List Td} {w w':World} {A:Option Addr} {c:Nat} (h:Wy w0 b bs ds w A c) (hb:Below w.heap.size w w'):Wy w0 b bs ds w' A c:=
 ⟨h.x.grew hb,h.le,h.td,q0j h.bl (Nat.le_refl _) hb,h.lt⟩
theorem q6z {w0:World} {b:Nat} {bs:List UInt8} {ds:List Td} {w:World} {A:Option Addr} {c:Nat} (h:Wy w0 b bs ds w A c) (k:UInt8) (hl:bs.length≤1000000) :
  Calls Tryz.prog 96 #[.pointer (some ⟨b,0,none⟩),.int .u8 (k.toNat:Int)] w fun e w'=>e = .returned .nilIface∧Wy w0 b (bs++[k]) ds w' A c:=by
 refine (k0l 191 w0.heap.size b (Lib.byteCells bs) [.slice A ds.length c] (k.toNat:Int) w v6r wrT h.x (by rw [Lib.byteCells_length];omega) h.bl.size).mono ?_
 rintro e w' ⟨rfl,h1,h2,_⟩
 refine ⟨rfl,?_,h.le,h.td,h.bl.trans (h2.below h.lt),h.lt⟩
 rw [q2s]
 exact h1
theorem q4i {w0:World} {b:Nat} {bs:List UInt8} {ds:List Td} {w:World} {A:Option Addr} {c:Nat} (h:Wy w0 b bs ds w A c) (s:ByteArray) (hl:bs.length≤1000000) (hs:s.size≤1000000) :
  Calls Tryz.prog 33 #[.pointer (some ⟨b,0,none⟩),.string s] w fun e w'=>e = .returned (.tuple #[.int .i64 s.size,.nilIface])∧Wy w0 b (bs++btL s) ds w' A c∧Lib.OthersKept 5 (some b) w w':=by
 refine (q5z 191 w0.heap.size b (Lib.byteCells bs) [.slice A ds.length c] s w v6r wrT h.x (by rw [Lib.byteCells_length];omega) h.bl.size).mono ?_
 rintro e w' ⟨rfl,h1,h2,h3⟩
 refine ⟨rfl,⟨?_,h.le,h.td,h.bl.trans (h2.below h.lt),h.lt⟩,h3⟩
 rw [q2s]
 exact h1
theorem j6o (T B b:Nat) (bs R:List Value) (c:Int) (u:FrameMode) (w:World) (hl:z0g T (R.length+2)) (hT:T≠5) (h:IsX T B b bs R w) (hlen:bs.length+1≤140737488355328) (hBw:B≤w.heap.size) :
  CallsD Tryz.prog 96 #[.pointer (some ⟨b,0,none⟩),.int .u8 c] u w fun e u' w'=>u'=u∧(e = .returned .nilIface∧(IsX T B b (bs++[.int .u8 c]) R w'∧q0i B b w w')):=by
 obtain ⟨i0,hi,hz0,hz1,hz2⟩:=info_parts v1w
 have HL:Hid (z0g T (R.length+2)):=hl
 have HT:Hid (T≠5):=hT
 have H:Hid (IsX T B b bs R w):=h
 clear hl hT h
 go_enter_d Tryz.func96,Tryz.ntmps96
 go_wp2_with (go_at_call 54;refine (z1h T B b bs R _ HL.out H.out).mono ?_)
 rintro e w1 ⟨rfl,h1,hb1,hk1⟩
 obtain ⟨v,hbk,hown,hne,_⟩:=h1
 have c0:w1.cell? ⟨b,0,none⟩=some (.pointer (some ⟨b,0,none⟩)):=by rw [Lib.cell_of_heap hbk];rfl
 have c1:w1.cell? ⟨b,1,none⟩=some v:=by rw [Lib.cell_of_heap hbk];rfl
 go_wp2_with (at_builtin;refine wpList_append_ownF _ rfl _ _ 81 rfl B 5 i0 (.int .u8 0) 1 1 Tryz.underlying81 hi hz0 hz1 hz2 rfl (by decide) _ _ _ rfl (hown.alloc _) ⟨w1.heap.size,0,none⟩ 1 1 [.int .u8 c] rfl rfl ?c1 ?c2 ?c3 ?c4 ?c5 ?_)
 case c1=>
  intro j u hj
  match j,hj with
  | 0,hj=>simp at hj;subst hj;simp [Addr.add]
 case c2=>intro u hu;simp at hu;subst hu;rfl
 case c3=>unfold maxLen;omega
 case c4=>omega
 case c5=>have:=hb1.size;simp;omega
 intro v' w2 hown' hgrow _
 have hlt:b<w1.heap.size:=by
  rcases Nat.lt_or_ge b w1.heap.size with h' | h'
  ·exact h'
  ·simp [Array.getElem?_eq_none h'] at hbk
 have hb2:w2.heap[b]? = some (.cells (.pointer (some ⟨b,0,none⟩)::v::R).toArray T (0,0)):=by
  rw [hgrow.block b (by simp;omega) (fun e=>hne e.symm),Lib.alloc_old w1 _ b hlt]
  exact hbk
 have d0:w2.cell? ⟨b,0,none⟩=some (.pointer (some ⟨b,0,none⟩)):=by rw [Lib.cell_of_heap hb2];rfl
 have d1:w2.cell? ⟨b,1,none⟩=some v:=by rw [Lib.cell_of_heap hb2];rfl
 have f1:w2.frozen? ⟨b,1,none⟩=false:=Lib.frozen_of_heap hb2 1
 obtain ⟨g,cap,rfl⟩:∃ g cap,v' = .slice (some ⟨g,0,none⟩) (bs.length+1) cap:=by
  rcases hown'.2 with ⟨_,h0⟩ | ⟨g,cap,cur,fz,hv,_⟩
  ·omega
  ·exact ⟨g,cap,hv⟩
 go_wp2
 go_ret
 refine ⟨rfl,.inr ?_,?_⟩
 ·exact XAt.put hb2 (bs':=bs++[.int .u8 c]) (by simpa using hown') HT.out (fun h=>by simp at h)
 ·exact ((hb1.alloc (by have:=hb1.size;omega) _).grown hgrow (by have:=hb1.size;simp;omega) (fun k hk=>(hown.lt k hk).1)).setCell (p:=⟨b,1,none⟩) (.inl rfl) _
theorem k0i {w0:World} {b:Nat} {bs:List UInt8} {ds:List Td} {w:World} {A:Option Addr} {c:Nat} (h:Wy w0 b bs ds w A c) (k:UInt8) (u:FrameMode) (hl:bs.length≤1000000) :
  CallsD Tryz.prog 96 #[.pointer (some ⟨b,0,none⟩),.int .u8 (k.toNat:Int)] u w fun e u' w'=>u'=u∧(e = .returned .nilIface∧Wy w0 b (bs++[k]) ds w' A c):=by
 refine (j6o 191 w0.heap.size b (Lib.byteCells bs) [.slice A ds.length c] (k.toNat:Int) u w v6r wrT h.x (by rw [Lib.byteCells_length];omega) h.bl.size).mono ?_
 rintro e u' w' ⟨rfl,rfl,h1,h2⟩
 refine ⟨rfl,rfl,?_,h.le,h.td,h.bl.trans (h2.below h.lt),h.lt⟩
 rw [q2s]
 exact h1
theorem q4h {w0:World} {b:Nat} {bs:List UInt8} {x:Td} {ds:List Td} {w:World} {A:Option Addr} {c:Nat} (h:Wy w0 b bs (x::ds) w A c) :
  Calls Tryz.prog 134 #[.pointer (some ⟨b,0,none⟩)] w fun e w'=>e = .returned (tdV x)∧WyE w0 b bs ds w':=by
 obtain ⟨tb,tq,rfl,hlt,d0,d1,d2⟩:=h.td 0 (by simp)
 obtain ⟨A',hsl,htd⟩:=j5e h.td h.le
 simp only [List.getElem_cons_zero,Nat.zero_mul,Nat.add_zero] at d0 d1 d2
 obtain ⟨bc,_⟩:=q0w h.bl
 have e0:w.cell? ⟨tb,tq,none⟩=some (.int .i64 x.op):=(bc _ _ hlt).trans d0
 have e1:w.cell? ⟨tb,tq+1,none⟩=some (.string x.tx):=(bc _ _ hlt).trans d1
 have e2:w.cell? ⟨tb,tq+2,none⟩=some (.int .i64 x.n):=(bc _ _ hlt).trans d2
 have hbw:b<w.heap.size:=h.x.lt
 have htw:tb<w.heap.size:=Nat.lt_of_lt_of_le hlt h.bl.size
 have cR:w.cell? ⟨b,2,none⟩=some (.slice (some ⟨tb,tq,none⟩) (x::ds).length c):=h.x.cellR 0
 have fR:w.frozen? ⟨b,2,none⟩=false:=h.x.frozen 2
 have hne:¬ tb=b:=by have:=h.lt;omega
 have H:=(show Hid (_) from h)
 have HT:Hid (Tds w0 A' ds):=htd
 have hle:=h.le
 generalize hn:(x::ds).length=n at cR hsl hle
 have h1n:0<n:=by rw [←hn];simp
 have HN:Hid ((x::ds).length=n):=hn
 clear h htd d0 d1 d2 bc hn
 generalize hm:ds.length=m at hsl
 have HM:Hid (ds.length=m):=hm
 clear hm
 go_enter Tryz.func134,Tryz.ntmps134
 go_wp2
 refine bodyPost_ret (v:=tdV x) (by simp [results,Tryz.results134,go_sem]) rfl ?_
 have h:=H.out
 have hs:=h.x.stored 0 (.slice A' m (c - 1))
 have hb2:Below w0.heap.size w0 (w.setCell ⟨b,2,none⟩ (.slice A' m (c - 1))):=h.bl.setCell (p:=⟨b,2,none⟩) h.lt _
 have hs2:IsX 191 w0.heap.size b (Lib.byteCells bs) [.slice A' ds.length (c - 1)] (w.setCell ⟨b,2,none⟩ (.slice A' m (c - 1))):=by rw [HM.out];exact hs
 refine ⟨rfl,A',c - 1,((hs2.alloc _).alloc _),?_,HT.out,?_,h.lt⟩
 ·have:=h.le;simp only [List.length_cons] at this;omega
 ·have hz:=h.bl.size
  exact (hb2.alloc (by rw [World.size_setCell];exact hz) _).alloc (by rw [World.size_alloc,World.size_setCell];omega) _
theorem z9m (x:Td) (op:Int) (hop:op=5∨op=6) (s:Bool) (w:World):Calls Tryz.prog 230 #[.int .i64 x.op,.int .i64 op,.bool s] w fun e w'=>e = .returned (.bool (decide (prc x<(op - 5).toNat+s.toNat)))∧w'=w:=by
 have hp:prc x=if x.op=5 then 0 else if x.op=6 then 1 else 2:=rfl
 rw [hp]
 generalize x.op=k
 clear hp
 by_cases h5:k=5
 ·subst h5
  rcases hop with rfl | rfl<;>cases s
  all_goals
   go_enter Tryz.func230,Tryz.ntmps230
   go_wp2
   go_ret
   exact ⟨rfl,rfl⟩
 ·by_cases h6:k=6
  ·subst h6
   rcases hop with rfl | rfl<;>cases s
   all_goals
    go_enter Tryz.func230,Tryz.ntmps230
    go_wp2
    go_ret
    exact ⟨rfl,rfl⟩
  ·rw [if_neg h5,if_neg h6]
   have e5:(k == 5)=false:=by simp [h5]
   have e6:(k == 6)=false:=by simp [h6]
   rcases hop with rfl | rfl<;>cases s
   all_goals
    go_enter Tryz.func230,Tryz.ntmps230
    go_wp2
    go_ret
    exact ⟨rfl,rfl⟩
theorem v3c {s:ByteArray}:btL s=[108,101,116]↔s=⟨#[108,101,116]⟩:=by
 constructor
 ·intro h
  apply ByteArray.ext
  apply Array.ext'
  exact h
 ·intro h;rw [h]
theorem j2w {s:ByteArray} (h1:1≤s.size) (h2:s.size≤8) (h3:¬ s=⟨#[108,101,116]⟩) (h:∀ k (h:k<s.size),q3g s[k]=true):q0x s=true:=by
 have h3':btL s≠[108,101,116]:=fun e=>h3 (v3c.1 e)
 simp only [q0x,h1,h2,h3',decide_true,Bool.true_and,List.all_eq_true,ne_eq,not_false_eq_true]
 intro b hb
 obtain ⟨i,hi,rfl⟩:=List.getElem_of_mem hb
 exact h i (by rw [←q0b];exact hi)
theorem j2x {s:ByteArray} {k:Nat} (h:k<s.size) (hb:q3g s[k]=false):q0x s=false:=by
 cases e:q0x s with
 | false=>rfl
 | true=>
  simp only [q0x,Bool.and_eq_true,List.all_eq_true] at e
  have hl:k<(btL s).length:=by rw [q0b];exact h
  have:=e.2 s[k] (List.getElem_mem hl)
  rw [hb] at this
  cases this
theorem k1x {s:ByteArray} (h:s.size<1):q0x s=false:=by
 have:decide (1≤s.size)=false:=decide_eq_false (by omega)
 simp [q0x,this]
theorem k6s {s:ByteArray} (h:8<s.size):q0x s=false:=by
 have:decide (s.size≤8)=false:=decide_eq_false (by omega)
 simp [q0x,this]
theorem z1q (s:ByteArray):wbS (btL s)=s:=by
 obtain ⟨d⟩:=s
 simp [wbS,btL]
theorem k9y {l:List UInt8} (h:Lib.indexByte l 32 = -1):∀ b∈l,b≠32:=by
 intro b hb e
 subst e
 obtain ⟨k,hk⟩:=List.getElem?_of_mem hb
 exact Lib.indexByte_none h k hk
theorem k3p {l:List UInt8} {i:Nat} (h:Lib.indexByte l 32=i):i<l.length∧l=l.take i++32::l.drop (i+1)∧∀ b∈l.take i,b≠32:=by
 obtain ⟨h1,h2⟩:=Lib.indexByte_some h
 obtain ⟨hi,h3⟩:=List.getElem?_eq_some_iff.1 h1
 refine ⟨hi,?_,?_⟩
 ·have:=(List.take_append_drop i l).symm
  rw [List.drop_eq_getElem_cons hi,h3] at this
  exact this
 ·intro b hb e
  subst e
  obtain ⟨k,hk⟩:=List.getElem?_of_mem hb
  rw [List.getElem?_take] at hk
  split at hk
  ·rename_i hki;exact h2 k hki hk
  ·cases hk
def spK:Nat→ByteArray→List ByteArray
 | 0,s=>[s]
 | k+1,s=>if Lib.indexByte s.data.toList 32 = -1 then [s] else s.extract 0 (Lib.indexByte s.data.toList 32).toNat::spK k (s.extract ((Lib.indexByte s.data.toList 32).toNat+1) s.size)
theorem z7i (s:ByteArray):spK 0 s=[s]:=rfl
theorem q9w (k:Nat) {s:ByteArray} (h:Lib.indexByte s.data.toList 32 = -1):spK k s=[s]:=by
 cases k with
 | zero=>rfl
 | succ k=>rw [spK,if_pos h]
theorem z3m (k:Nat) {s:ByteArray} {i:Nat} (h:Lib.indexByte s.data.toList 32=i):spK (k+1) s=s.extract 0 i::spK k (s.extract (i+1) s.size):=by
 rw [spK,if_neg (by omega),h];rfl
theorem y4u (s:ByteArray) (i:Nat):btL (s.extract 0 i)=(btL s).take i:=by
 rw [k2u,List.drop_zero,Nat.sub_zero];rfl
theorem v5i (s:ByteArray) (i:Nat):btL (s.extract i s.size)=(btL s).drop i:=Lib.extract_to_end s i
theorem q6t (s:ByteArray):Lib.indexByte s.data.toList 32 = -1∨∃ i:Nat,Lib.indexByte s.data.toList 32=i∧i<s.size:=by
 have hge:=Lib.indexByte_ge s.data.toList 32
 by_cases h:Lib.indexByte s.data.toList 32 = -1
 ·exact .inl h
 ·refine .inr ⟨(Lib.indexByte s.data.toList 32).toNat,by omega,?_⟩
  have:=(k3p (l:=btL s) (i:=(Lib.indexByte s.data.toList 32).toNat) (by show Lib.indexByte s.data.toList 32=_;omega)).1
  rw [q0b] at this
  exact this
theorem z7k {s:ByteArray} {i:Nat} (h:Lib.indexByte s.data.toList 32=i):q4v (btL s)=btL (s.extract 0 i)::q4v (btL (s.extract (i+1) s.size)):=by
 obtain ⟨_,h2,h3⟩:=k3p (l:=btL s) h
 rw [y4u,v5i]
 conv=>lhs;rw [h2]
 rw [k5e _ _ h3]
theorem k2o {s:ByteArray} (h:Lib.indexByte s.data.toList 32 = -1):q4v (btL s)=[btL s]:=k5f _ (k9y (l:=btL s) h)
theorem v0z {s:ByteArray} {i:Nat} (h:i<s.size):(s.extract (i+1) s.size).size=s.size - (i+1):=by
 rw [ByteArray.size_extract];omega
theorem j4o:∀ (k:Nat) (s:ByteArray),s.size≤k→(spK k s).map btL=q4v (btL s)
 | 0,s,h=>by
  have e:btL s=[]:=List.eq_nil_of_length_eq_zero (by rw [q0b];omega)
  rw [z7i,List.map_cons,List.map_nil,e];rfl
 | k+1,s,h=>by
  rcases q6t s with h1 | ⟨i,h1,h2⟩
  ·rw [q9w _ h1,k2o h1];rfl
  ·rw [z3m k h1,z7k h1,List.map_cons,j4o k _ (by rw [v0z h2];omega)]
theorem j4q:∀ (k:Nat) (s:ByteArray),(spK k s).length≤k→(spK k s).map btL=q4v (btL s)
 | 0,s,h=>by rw [z7i] at h;simp at h
 | k+1,s,h=>by
  rcases q6t s with h1 | ⟨i,h1,h2⟩
  ·rw [q9w _ h1,k2o h1];rfl
  ·rw [z3m k h1] at h ⊢
   rw [List.length_cons] at h
   rw [z7k h1,List.map_cons,j4q k _ (by omega)]
theorem v3v:∀ (k:Nat) (s:ByteArray),(spK k s).length≤(q4v (btL s)).length
 | 0,s=>by
  rw [z7i]
  have:=q6s (btL s)
  cases h:q4v (btL s) with
  | nil=>exact absurd h this
  | cons a b=>simp
 | k+1,s=>by
  rcases q6t s with h1 | ⟨i,h1,h2⟩
  ·rw [q9w _ h1,k2o h1];simp
  ·rw [z3m k h1,z7k h1,List.length_cons,List.length_cons]
   have:=v3v k (s.extract (i+1) s.size)
   omega
theorem k8p {l:List ByteArray} {m:List (List UInt8)} (h:l.map btL=m):l=m.map wbS:=by
 subst h
 rw [List.map_map]
 have:(wbS∘btL)=id:=by funext s;exact z1q s
 rw [this,List.map_id]
theorem j4p (s:ByteArray) (k:Nat) (hk:k=min 60 s.size):q1e (spK k s)=q1e ((q4v (btL s)).map wbS):=by
 by_cases h:s.size≤60
 ·rw [k8p (j4o k s (by omega))]
 ·have hk':k=60:=by omega
  subst hk'
  by_cases hl:(spK 60 s).length≤60
  ·rw [k8p (j4q 60 s hl)]
  ·have h1:=v3v 60 s
   rw [q8n (by omega),q8n (by rw [List.length_map];omega)]
theorem j9y {s:ByteArray} (h:0<s.size) (k:Nat) (hk:k=min 60 s.size):q1e (spK k s)=q2u s:=by
 rw [j4p s k hk,q2u,q0g,if_neg]
 intro e
 have:=congrArg List.length e
 rw [q0b,List.length_nil] at this
 omega
theorem j3e {s:ByteArray} (h:s.size=0):q2u s=0:=by
 have e:btL s=[]:=List.eq_nil_of_length_eq_zero (by rw [q0b];exact h)
 rw [q2u,q0g,if_pos e];rfl
end Go.Proofs.YtchdplceopegoaaGreatDoor
namespace Go.Proofs.YtchdplceopegoaaGreatDoor
open Go Go.RowKit Go.Lib Go.Shelf
set_option maxRecDepth 100000
set_option maxHeartbeats 1000000
theorem q5n (s:ByteArray) (c:Int) (w:World) :
  Calls Tryz.prog 137 #[.string s,.int .u8 c] w fun e w'=>e = .returned (.int .i64 (Lib.indexByte s.data.toList c.toNat.toUInt8))∧w'=w:=by
 go_enter Tryz.func137,Tryz.ntmps137
 go_wp2
 rw [run_callFunc_extern Tryz.func171 (by kernel_rfl) (by kernel_rfl) (by kernel_rfl) (e:=Extern.BytealgIndexByte.indexByte) (by kernel_rfl),Lib.run_indexByteString]
 simp only [Result.andThen]
 rw [Oper.upon_value]
 go_wp2
 go_ret
 exact ⟨rfl,rfl⟩
end Go.Proofs.YtchdplceopegoaaGreatDoor
