/- Texts as one: BldO, WLay, WLayF. -/
import Derived.Test.YtchdplceopegoaaGreatDoorPw25
import Derived.Test.YtchdplceopegoaaGreatDoorRep
namespace Go.Proofs.YtchdplceopegoaaGreatDoor
open Go Go.RowKit
set_option maxRecDepth 100000
set_option maxHeartbeats 2000000
def OAt (T:TypeId) (B b:Nat) (pre:List Value) (p:Value) (bs R:List Value) (w:World):Prop:=
 ∃ v,w.heap[b]? = some (.cells (pre++p::v::R).toArray T (0,0))∧w.ownsRowF B 5 1 v bs.length bs∧v.ownBlock≠some b∧(bs=[]→v = .slice none 0 0)
def IsO (T:TypeId) (B b:Nat) (pre bs R:List Value) (w:World):Prop:=
 OAt T B b pre (.pointer none) bs R w∨OAt T B b pre (.pointer (some ⟨b,pre.length,none⟩)) bs R w
section
variable {T:TypeId} {B b:Nat} {p v:Value} {pre bs R:List Value} {w:World}
theorem j7q (hb:w.heap[b]? = some (.cells (pre++p::v::R).toArray T (0,0))) (i:Nat):w.cell? ⟨b,i,none⟩=(pre++p::v::R)[i]?:=by
 simp [World.cell?,hb]
theorem j1s (hb:w.heap[b]? = some (.cells (pre++p::v::R).toArray T (0,0))):w.cell? ⟨b,pre.length,none⟩=some p:=by
 rw [j7q hb,List.getElem?_append_right (Nat.le_refl _),Nat.sub_self];rfl
theorem k3g (hb:w.heap[b]? = some (.cells (pre++p::v::R).toArray T (0,0))):w.cell? ⟨b,pre.length+1,none⟩=some v:=by
 rw [j7q hb,List.getElem?_append_right (Nat.le_add_right _ _),Nat.add_sub_cancel_left];rfl
theorem olt (hb:w.heap[b]? = some (.cells (pre++p::v::R).toArray T (0,0))):b<w.heap.size:=by
 rcases Nat.lt_or_ge b w.heap.size with h' | h'
 ·exact h'
 ·simp [Array.getElem?_eq_none h'] at hb
theorem OAt.cell0 (h:OAt T B b pre p bs R w):w.cell? ⟨b,pre.length,none⟩=some p:=by
 obtain ⟨v,hb,_⟩:=h
 exact j1s hb
theorem OAt.cellP (h:OAt T B b pre p bs R w) (i:Nat) (hi:i<pre.length):w.cell? ⟨b,i,none⟩=pre[i]?:=by
 obtain ⟨v,hb,_⟩:=h
 rw [j7q hb,List.getElem?_append_left hi]
theorem OAt.cellR (h:OAt T B b pre p bs R w) (i:Nat):w.cell? ⟨b,pre.length+(i+2),none⟩=R[i]?:=by
 obtain ⟨v,hb,_⟩:=h
 rw [j7q hb,List.getElem?_append_right (Nat.le_add_right _ _),Nat.add_sub_cancel_left];rfl
theorem OAt.shape (h:OAt T B b pre p bs R w):w.shape? b=some (T,pre.length+(R.length+2)):=by
 obtain ⟨v,hb,_⟩:=h
 simp [World.shape?,hb]
theorem OAt.lt (h:OAt T B b pre p bs R w):b<w.heap.size:=by
 obtain ⟨v,hb,_⟩:=h
 exact olt hb
theorem y1t (hb:w.heap[b]? = some (.cells (pre++p::v::R).toArray T (0,0))) (i:Nat) (q:Value):(w.setCell ⟨b,i,none⟩ q).heap[b]? = some (.cells ((pre++p::v::R).set i q).toArray T (0,0)):=by
 simp [World.setCell,Array.getElem?_modify,hb]
theorem OAt.used (h:OAt T B b pre p bs R w) (q:Value):OAt T B b pre q bs R (w.setCell ⟨b,pre.length,none⟩ q):=by
 obtain ⟨v,hb,hown,hne,h0⟩:=h
 refine ⟨v,?_,?_,hne,h0⟩
 ·rw [y1t hb,List.set_append_right _ _ (Nat.le_refl _),Nat.sub_self];rfl
 ·exact hown.kept (row:=some b) ⟨rfl,rfl,rfl,by simp [World.setCell],fun k _ hk=>Below.heap_setCell _ _ _ _ (fun e=>hk (by simp [e]))⟩ (Or.inr hne)
theorem OAt.stored (h:OAt T B b pre p bs R w) (i:Nat) (q:Value):OAt T B b pre p bs (R.set i q) (w.setCell ⟨b,pre.length+(i+2),none⟩ q):=by
 obtain ⟨v,hb,hown,hne,h0⟩:=h
 refine ⟨v,?_,?_,hne,h0⟩
 ·rw [y1t hb,List.set_append_right _ _ (Nat.le_add_right _ _),Nat.add_sub_cancel_left];rfl
 ·exact hown.kept (row:=some b) ⟨rfl,rfl,rfl,by simp [World.setCell],fun k _ hk=>Below.heap_setCell _ _ _ _ (fun e=>hk (by simp [e]))⟩ (Or.inr hne)
theorem OAt.frozen (h:OAt T B b pre p bs R w) (i:Nat):w.frozen? ⟨b,i,none⟩=false:=by
 obtain ⟨v,hb,_⟩:=h
 simp [World.frozen?,hb]
theorem OAt.put {v':Value} {bs':List Value} (hb:w.heap[b]? = some (.cells (pre++p::v::R).toArray T (0,0))) (hown:w.ownsRowF B 5 1 v' bs'.length bs') (hTe:T≠5) (h0:bs'=[]→v' = .slice none 0 0) :
  OAt T B b pre p bs' R (w.setCell ⟨b,pre.length+1,none⟩ v'):=by
 have hne:=Lib.ownBlock_neF hown hb hTe
 refine ⟨v',?_,?_,hne,h0⟩
 ·rw [y1t hb,List.set_append_right _ _ (Nat.le_add_right _ _),Nat.add_sub_cancel_left];rfl
 ·exact hown.kept (row:=some b) ⟨rfl,rfl,rfl,by simp [World.setCell],fun k _ hk=>Below.heap_setCell _ _ _ _ (fun e=>hk (by simp [e]))⟩ (Or.inr hne)
theorem OAt.alloc (h:OAt T B b pre p bs R w) (o:Obj):OAt T B b pre p bs R (w.alloc o):=by
 have hlt:=h.lt
 obtain ⟨v,hb,hown,hne,h0⟩:=h
 exact ⟨v,(Lib.alloc_old w o b hlt).trans hb,hown.kept (World.grownBy_alloc w o none) (by cases hv:v.ownBlock<;>simp),hne,h0⟩
theorem OAt.below {w':World} (h:OAt T B b pre p bs R w) (hx:Below w.heap.size w w'):OAt T B b pre p bs R w':=by
 have hlt:=h.lt
 obtain ⟨v,hb,hown,hne,h0⟩:=h
 exact ⟨v,(hx.block b hlt).trans hb,hown.kept (row:=none) ⟨hx.os,hx.tape,hx.output,hx.size,fun k hk _=>hx.block k hk⟩ (by cases hv:v.ownBlock<;>simp),hne,h0⟩
theorem IsO.at (h:IsO T B b pre bs R w):∃ p,OAt T B b pre p bs R w:=by
 rcases h with h | h
 ·exact ⟨_,h⟩
 ·exact ⟨_,h⟩
theorem IsO.lt (h:IsO T B b pre bs R w):b<w.heap.size:=h.at.elim fun _ h=>h.lt
theorem IsO.cellP (h:IsO T B b pre bs R w) (i:Nat) (hi:i<pre.length):w.cell? ⟨b,i,none⟩=pre[i]?:=h.at.elim fun _ h=>h.cellP i hi
theorem IsO.cellR (h:IsO T B b pre bs R w) (i:Nat):w.cell? ⟨b,pre.length+(i+2),none⟩=R[i]?:=h.at.elim fun _ h=>h.cellR i
theorem IsO.frozen (h:IsO T B b pre bs R w) (i:Nat):w.frozen? ⟨b,i,none⟩=false:=h.at.elim fun _ h=>h.frozen i
theorem IsO.alloc (h:IsO T B b pre bs R w) (o:Obj):IsO T B b pre bs R (w.alloc o):=h.imp (·.alloc o) (·.alloc o)
theorem IsO.below {w':World} (h:IsO T B b pre bs R w) (hx:Below w.heap.size w w'):IsO T B b pre bs R w':=h.imp (·.below hx) (·.below hx)
theorem IsO.stored (h:IsO T B b pre bs R w) (i:Nat) (q:Value):IsO T B b pre bs (R.set i q) (w.setCell ⟨b,pre.length+(i+2),none⟩ q):=h.imp (·.stored i q) (·.stored i q)
theorem IsO.unused (T:TypeId) (B b:Nat) (w:World) (pre R:List Value) (h:w.heap[b]? = some (.cells (pre++.pointer none::.slice none 0 0::R).toArray T (0,0))):IsO T B b pre [] R w:=
 Or.inl ⟨.slice none 0 0,h,World.ownsRowF_nil _ _ _ _,by simp [Value.ownBlock],fun _=>rfl⟩
end
theorem k1c (b o:Nat) (w:World) (h0:w.cell? ⟨b,o,none⟩=some (.pointer (some ⟨b,o,none⟩))) :
  Calls Tryz.prog 54 #[.pointer (some ⟨b,o,none⟩)] w fun e w'=>e = .returned (.tuple #[])∧w'=w:=by
 obtain ⟨j,hj,_⟩:=Option.map_eq_some_iff.1 j9q
 go_enter Tryz.func54,Tryz.ntmps54
 go_wp2
 rw [Lib.run_neq_ptr_same w _ Tryz.underlying80 hj]
 go_wp2
 go_end0
 exact ⟨rfl,rfl⟩
theorem z8p (T n b o:Nat) (w:World) (hl:liesAt Tryz.prog Tryz.prog.depth T (n / Tryz.prog.cellsOf T) o 83 1=true) (h0:w.cell? ⟨b,o,none⟩=some (.pointer none)) (hsh:w.shape? b=some (T,n)) (hn:o<n) (hfz:w.frozen? ⟨b,o,none⟩=false) :
  Calls Tryz.prog 54 #[.pointer (some ⟨b,o,none⟩)] w fun e w'=>e = .returned (.tuple #[])∧w'=w.setCell ⟨b,o,none⟩ (.pointer (some ⟨b,o,none⟩)):=by
 obtain ⟨j,hj,hjs⟩:=Option.map_eq_some_iff.1 j9q
 have HL:Hid (liesAt Tryz.prog Tryz.prog.depth T (n / Tryz.prog.cellsOf T) o 83 1=true):=hl
 have HS:Hid (w.shape? b=some (T,n)):=hsh
 have HJ:Hid (j.size≠0):=(show j.size≠0 by rw [hjs];decide)
 clear hl hsh hjs
 go_enter Tryz.func54,Tryz.ntmps54
 go_wp2
 rw [Lib.run_to_unsafe w ⟨b,o,none⟩ Tryz.underlying80 Tryz.underlying116 hj HJ.out HS.out hn]
 simp only [Result.andThen]
 rw [Oper.upon_value]
 go_wp2
 rw [run_callFunc_extern Tryz.func89 (by kernel_rfl) (by kernel_rfl) (by kernel_rfl) (e:=Extern.AbiNoEscape.same) (by kernel_rfl)]
 rw [Lib.run_noEscape]
 simp only [Result.andThen]
 rw [Oper.upon_value]
 go_wp2
 rw [Lib.run_from_unsafe w ⟨b,o,none⟩ Tryz.underlying116 Tryz.underlying80 hj HS.out HL.out]
 simp only [Result.andThen]
 rw [Oper.upon_value]
 go_wp2
 go_end0
 exact ⟨rfl,rfl⟩
def k6y (T n o:Nat):Prop:=liesAt Tryz.prog Tryz.prog.depth T (n / Tryz.prog.cellsOf T) o 83 1=true
theorem k5o (T B b o:Nat) (pre bs R:List Value) (w:World) (ho:pre.length=o) (hl:k6y T (o+(R.length+2)) o) (h:IsO T B b pre bs R w) :
  Calls Tryz.prog 54 #[.pointer (some ⟨b,o,none⟩)] w fun e w'=>e = .returned (.tuple #[])∧(OAt T B b pre (.pointer (some ⟨b,pre.length,none⟩)) bs R w'∧q0i B b w w'∧Lib.OthersKept 5 (some b) w w'):=by
 subst ho
 rcases h with h | h
 ·refine (z8p T (pre.length+(R.length+2)) b pre.length w hl h.cell0 h.shape (by omega) (h.frozen _)).mono ?_
  rintro e w' ⟨rfl,rfl⟩
  exact ⟨rfl,h.used _,(q0i.refl B b w).setCell (p:=⟨b,pre.length,none⟩) (.inl rfl) _,(Lib.OthersKept.refl _ _ w).setCell ⟨b,pre.length,none⟩ rfl _⟩
 ·refine (k1c b pre.length w h.cell0).mono ?_
  rintro e w' ⟨rfl,rfl⟩
  exact ⟨rfl,h,q0i.refl B b _,Lib.OthersKept.refl _ _ _⟩
theorem k1h (T B b o:Nat) (pre bs R:List Value) (s:ByteArray) (w:World) (ho:pre.length=o) (hl:k6y T (o+(R.length+2)) o) (hT:T≠5) (h:IsO T B b pre bs R w) (hlen:bs.length+s.size≤140737488355328) (hBw:B≤w.heap.size) :
  Calls Tryz.prog 33 #[.pointer (some ⟨b,o,none⟩),.string s] w fun e w'=>e = .returned (.tuple #[.int .i64 s.size,.nilIface])∧(IsO T B b pre (bs++Lib.strCells s) R w'∧q0i B b w w'∧Lib.OthersKept 5 (some b) w w'):=by
 obtain ⟨i0,hi,hz0,hz1,hz2⟩:=info_parts j9m
 have HL:Hid (k6y T (o+(R.length+2)) o):=hl
 have HT:Hid (T≠5):=hT
 have HO:Hid (pre.length=o):=ho
 have H:Hid (IsO T B b pre bs R w):=h
 clear hl hT h ho
 go_enter Tryz.func33,Tryz.ntmps33
 go_wp2_with (go_at_call 54;refine (k5o T B b o pre bs R _ HO.out HL.out H.out).mono ?_)
 rintro e w1 ⟨rfl,h1,hb1,hk1⟩
 obtain ⟨v,hbk,hown,hne,h0⟩:=h1
 have H0:Hid (bs=[]→v = .slice none 0 0):=h0
 have HBK:Hid (w1.heap[b]? = some (.cells (pre++.pointer (some ⟨b,pre.length,none⟩)::v::R).toArray T (0,0))):=hbk
 clear h0
 have c0:w1.cell? ⟨b,o,none⟩=some (.pointer (some ⟨b,o,none⟩)):=by have:=j1s hbk;rw [HO.out] at this;exact this
 have c1:w1.cell? ⟨b,o+1,none⟩=some v:=by have:=k3g hbk;rw [HO.out] at this;exact this
 clear hbk
 go_wp2_with (at_builtin;refine Lib.wpList_append_own_stringF _ rfl _ _ 81 9 rfl B 5 i0 Tryz.underlying81 Tryz.underlying9 hi hz0 hz1 hz2 _ _ _ rfl hown s rfl ?c3 ?c4 ?c5 ?_)
 case c3=>unfold maxLen;omega
 case c4=>omega
 case c5=>have:=hb1.size;omega
 intro v' w2 hown' hgrow hnil
 have HZ:Hid (v' = .slice none 0 0↔v = .slice none 0 0∧s.size=0):=(show _↔_ by simpa using hnil)
 clear hnil
 have hlt:b<w1.heap.size:=olt HBK.out
 have hb2:w2.heap[b]? = some (.cells (pre++.pointer (some ⟨b,pre.length,none⟩)::v::R).toArray T (0,0)):=by
  rw [hgrow.block b hlt (fun e=>hne e.symm)]
  exact HBK.out
 have HB2:Hid (w2.heap[b]? = some (.cells (pre++.pointer (some ⟨b,pre.length,none⟩)::v::R).toArray T (0,0))):=hb2
 have d0:w2.cell? ⟨b,o,none⟩=some (.pointer (some ⟨b,o,none⟩)):=by have:=j1s hb2;rw [HO.out] at this;exact this
 have d1:w2.cell? ⟨b,o+1,none⟩=some v:=by have:=k3g hb2;rw [HO.out] at this;exact this
 have f1:w2.frozen? ⟨b,o+1,none⟩=false:=Lib.frozen_of_heap hb2 (o+1)
 clear hb2
 obtain ⟨ao,n',cap,rfl⟩:∃ ao n' cap,v' = .slice ao n' cap:=by
  rcases hown'.2 with ⟨hv,_⟩ | ⟨g,cap,cur,fz,hv,_⟩
  ·exact ⟨_,_,_,hv⟩
  ·exact ⟨_,_,_,hv⟩
 go_wp2
 go_ret2
 refine ⟨rfl,.inr ?_,?_,(hk1.grown hgrow (Lib.ownsRowF_kind hown)).setCell ⟨b,o+1,none⟩ rfl _⟩
 ·rw [←HO.out]
  refine OAt.put HB2.out (bs':=bs++Lib.strCells s) (by simpa [Lib.strCells_length] using hown') HT.out (fun h=>?_)
  obtain ⟨h1,h2⟩:=List.append_eq_nil_iff.1 h
  refine HZ.out.2 ⟨H0.out h1,?_⟩
  rw [←Lib.strCells_length,h2];rfl
 ·exact (hb1.grown hgrow (by have:=hb1.size;omega) (fun k hk=>(hown.lt k hk).1)).setCell (p:=⟨b,o+1,none⟩) (.inl rfl) _
theorem j1v (T B b o:Nat) (pre:List Value) (l:List UInt8) (R:List Value) (w:World) (ho:pre.length=o) (h:IsO T B b pre (Lib.byteCells l) R w) (h0:l≠[]) :
  Calls Tryz.prog 34 #[.pointer (some ⟨b,o,none⟩)] w fun e w'=>e = .returned (.string ⟨l.toArray⟩)∧Below B w w':=by
 obtain ⟨p,hAt⟩:=h.at
 obtain ⟨v,hbk,hown,hne,_⟩:=hAt
 have hl0:l.length≠0:=by simpa using h0
 rw [Lib.byteCells_length] at hown
 obtain ⟨g,cap,cur,fz,rfl,hbg,hg,hfz,hnc,hcm,hcs,htake⟩:∃ g cap cur fz,v = .slice (some ⟨g,0,none⟩) l.length cap∧B≤g∧w.heap[g]? = some (.cells cur 5 fz)∧fz.2≤l.length*1∧l.length≤cap∧cap≤maxLen∧cur.size=cap*1∧cur.toList.take (l.length*1)=Lib.byteCells l:=by
  rcases hown.2 with ⟨_,hz⟩ | ⟨g,cap,cur,fz,hv,r⟩
  ·exact absurd hz hl0
  ·exact ⟨g,cap,cur,fz,hv,r⟩
 have c1:w.drew.cell? ⟨b,o+1,none⟩=some (.slice (some ⟨g,0,none⟩) l.length cap):=by
  have:w.drew.heap[b]? = some (.cells (pre++p::.slice (some ⟨g,0,none⟩) l.length cap::R).toArray T (0,0)):=hbk
  have:=k3g this
  rw [ho] at this
  exact this
 have hSD:(Builtin.unsafeSliceData_ #[81] 115 #[.slice (some ⟨g,0,none⟩) l.length cap]).run Tryz.prog w.drew = .ok (.pointer (some ⟨g,0,none⟩)) w.drew:=
  Lib.run_unsafeSliceData_row _ _ _ _ _ _ (by omega)
 have hUS:(Builtin.unsafeString_ #[115,3] 9 #[.pointer (some ⟨g,0,none⟩),.int .i64 l.length]).run Tryz.prog w.drew = .ok (.string ⟨l.toArray⟩) (w.drew.freeze ⟨g,0,none⟩ l.length):=by
  refine Lib.run_unsafeString_row w.drew 115 3 9 5 Tryz.underlying115 v1n g cur.size (by have hg':w.drew.heap[g]? = some (.cells cur 5 fz):=hg;simp [World.shape?,hg']) l h0 (by omega) (by unfold maxLen at hcm;omega) ?_
  intro j x hx
  have:=hown.cells (g:=g) rfl j (.int .u8 x.toNat) (by simp [Lib.byteCells,hx])
  exact this
 clear hbk
 go_enter Tryz.func34,Tryz.ntmps34
 go_wp2
 go_region
 all_goals (go_wp2;go_ret;exact ⟨rfl,Lib.below_freeze (Below.drew (Below.refl B w)) (p:=⟨g,0,none⟩) hbg _⟩)
theorem j1u (T B b o:Nat) (pre R:List Value) (w:World) (ho:pre.length=o) (h:IsO T B b pre [] R w) :
  Calls Tryz.prog 34 #[.pointer (some ⟨b,o,none⟩)] w fun e w'=>e = .returned (.string ⟨#[]⟩)∧Below B w w':=by
 obtain ⟨p,hAt⟩:=h.at
 obtain ⟨v,hbk,hown,hne,hv⟩:=hAt
 obtain rfl:=hv rfl
 clear hown hne hv
 have hUS:∀ (W:World) (q:Option Addr),(Builtin.unsafeString_ #[115,3] 9 #[.pointer q,.int .i64 0]).run Tryz.prog W = .ok (.string .empty) W:=fun W q=>Lib.run_unsafeString_none W _ _ _ q
 have c1:w.drew.cell? ⟨b,o+1,none⟩=some (.slice none 0 0):=by
  have:w.drew.heap[b]? = some (.cells (pre++p::.slice none 0 0::R).toArray T (0,0)):=hbk
  have:=k3g this
  rw [ho] at this
  exact this
 have hSD:(Builtin.unsafeSliceData_ #[81] 115 #[.slice none 0 0]).run Tryz.prog w.drew = .ok (.pointer none) w.drew:=rfl
 clear hbk
 go_enter Tryz.func34,Tryz.ntmps34
 go_wp2
 go_region
 all_goals (go_wp2;go_ret;exact ⟨rfl,Below.drew (Below.refl B w)⟩)
theorem j7v (T B b o:Nat) (pre:List Value) (l:List UInt8) (R:List Value) (w:World) (ho:pre.length=o) (h:IsO T B b pre (Lib.byteCells l) R w) :
  Calls Tryz.prog 34 #[.pointer (some ⟨b,o,none⟩)] w fun e w'=>e = .returned (.string ⟨l.toArray⟩)∧Below B w w':=by
 by_cases h0:l=[]
 ·subst h0
  exact j1u T B b o pre R w ho h
 ·exact j1v T B b o pre l R w ho h h0
end Go.Proofs.YtchdplceopegoaaGreatDoor
namespace Go.Proofs.YtchdplceopegoaaGreatDoor
open Go Go.RowKit
def WS (B b:Nat) (pl:List Value) (l:List UInt8) (cv:Value) (w:World):Prop:=IsO 283 B b pl (Lib.byteCells l) [cv] w
abbrev q5j (be bf:Nat) (n cap:Nat) (a:Option Addr):List Value:=[.slice a n cap,.slice (some ⟨be,0,none⟩) n n,.slice (some ⟨bf,0,none⟩) n n]
theorem y2d:k6y 283 6 3:=by unfold k6y;kernel_rfl
section
variable {B b be bf n cap:Nat} {a:Option Addr} {l:List UInt8} {cv:Value} {w w':World}
theorem WS.c0 (h:WS B b (q5j be bf n cap a) l cv w):w.cell? ⟨b,0,none⟩=some (.slice a n cap):=IsO.cellP h 0 (by show 0<3;decide)
theorem WS.c1 (h:WS B b (q5j be bf n cap a) l cv w):w.cell? ⟨b,1,none⟩=some (.slice (some ⟨be,0,none⟩) n n):=IsO.cellP h 1 (by show 1<3;decide)
theorem WS.c2 (h:WS B b (q5j be bf n cap a) l cv w):w.cell? ⟨b,2,none⟩=some (.slice (some ⟨bf,0,none⟩) n n):=IsO.cellP h 2 (by show 2<3;decide)
theorem WS.c5 (h:WS B b (q5j be bf n cap a) l cv w):w.cell? ⟨b,5,none⟩=some cv:=IsO.cellR h 0
theorem WS.f5 (h:WS B b (q5j be bf n cap a) l cv w):w.frozen? ⟨b,5,none⟩=false:=IsO.frozen h 5
theorem WS.lt {pl:List Value} (h:WS B b pl l cv w):b<w.heap.size:=IsO.lt h
theorem WS.alloc {pl:List Value} (h:WS B b pl l cv w) (o:Obj):WS B b pl l cv (w.alloc o):=IsO.alloc h o
theorem WS.drew {pl:List Value} (h:WS B b pl l cv w):WS B b pl l cv w.drew:=h
theorem WS.below {pl:List Value} (h:WS B b pl l cv w) (hb:Below w.heap.size w w'):WS B b pl l cv w':=IsO.below h hb
theorem WS.stored (h:WS B b (q5j be bf n cap a) l cv w) (v:Value):WS B b (q5j be bf n cap a) l v (w.setCell ⟨b,5,none⟩ v):=IsO.stored h 0 v
end
theorem y0e {B b be bf n cap:Nat} {a:Option Addr} {l:List UInt8} {cv:Value} {w:World} (h:WS B b (q5j be bf n cap a) l cv w) (hB:B≤b) (s:ByteArray) (hl:l.length+s.size≤2000000000) :
  Calls Tryz.prog 33 #[.pointer (some ⟨b,3,none⟩),.string s] w fun e w'=>(∃ z,e = .returned (.tuple #[.int .i64 z,.nilIface]))∧WS B b (q5j be bf n cap a) (l++s.data.toList) cv w'∧Below B w w':=by
 have hlt:=h.lt
 refine (k1h 283 B b 3 (q5j be bf n cap a) _ [cv] s w rfl y2d (by decide) h (by rw [Lib.byteCells_length];omega) (by omega)).mono ?_
 rintro e w' ⟨rfl,h1,h2,_⟩
 refine ⟨⟨_,rfl⟩,?_,h2.below hB⟩
 rw [WS,Lib.byteCells_append]
 exact h1
structure LC (B s be bf:Nat) (a:Option Addr) (ds:List Nd) (w:World):Prop where
 nd:q0u s w a ds
 kn:q7b w be bf ds 0
theorem LC.below {B s be bf:Nat} {a:Option Addr} {ds:List Nd} {w w':World} (h:LC B s be bf a ds w) (hB:s<B∧be<B∧bf<B) (hb:Below B w w'):LC B s be bf a ds w':=
 ⟨h.nd.kept (hb.block s hB.1),h.kn.kept (hb.block be hB.2.1) (hb.block bf hB.2.2)⟩
def z7a (B b:Nat) (pl:List Value) (res:Except Int (List UInt8 × List Int)) (l:List UInt8) (e:Ending) (w':World):Prop:=
 match res with
 | .ok (u,ws')=>e = .returned .nilIface∧∃ wa' wc',WS B b pl (l++u) (.slice wa' ws'.length wc') w'∧q2d B w' wa' ws'∧ws'.length≤wc'
 | .error er=>er≠0∧e = .returned (q1e er)
def z9v (fn B b s be bf:Nat) (ds:List Nd) (a:Option Addr) (cap:Nat) (A:List Nd) (f:Nat→List Int→Except Int (List UInt8 × List Int)):Prop:=
 ∀ (i:Nat) (r:List Nd) (deep:Nat) (ws:List Int) (wa:Option Addr) (wc:Nat) (l:List UInt8) (w:World),ds.drop i=A++r→LC B s be bf a ds w→q2d B w wa ws→q1x ws→ws.length≤wc→WS B b (q5j be bf ds.length cap a) l (.slice wa ws.length wc) w→
  deep+8*A.length≤3300→l.length+4000*A.length≤1000000000→
  Calls Tryz.prog fn #[.pointer (some ⟨b,0,none⟩),.int .i64 i,.int .i64 deep] w fun e w'=>z7a B b (q5j be bf ds.length cap a) (f deep ws) l e w'∧Below B w w'
abbrev q2m:=z9v 199
theorem z2l (n:Nat) (hn:n≤4000) (w:World):Calls Tryz.prog 227 #[.string ⟨#[32]⟩,.int .i64 n] w fun e w'=>e = .returned (.string ⟨(List.replicate n 32).toArray⟩)∧Below w.heap.size w w':=by
 refine (repeat_any ⟨#[32]⟩ n w (by omega) (by show 1*n≤_;omega)).mono ?_
 rintro e w' ⟨rfl,hb⟩
 refine ⟨?_,hb⟩
 have:=Lib.repeatL_replicate 32 1 n
 have e1:Lib.repeatL (ByteArray.mk #[32]).data.toList n=List.replicate n 32:=by simpa using this
 rw [e1]
end Go.Proofs.YtchdplceopegoaaGreatDoor
namespace Go.Proofs.YtchdplceopegoaaGreatDoor
open Go Go.RowKit
set_option maxRecDepth 100000
set_option maxHeartbeats 4000000
theorem q0u.part {s o i:Nat} {w:World} {ds A r:List Nd} (h:q0u s w (some ⟨s,o,none⟩) ds) (hd:ds.drop i=A++r):q0u s w (some ⟨s,o+i*3,none⟩) A:=by
 intro j hj
 have hl:=congrArg List.length hd
 rw [List.length_drop,List.length_append] at hl
 have hij:i+j<ds.length:=by omega
 obtain ⟨o',e,c1,c2,c3⟩:=h (i+j) hij
 simp only [Option.some.injEq,Addr.mk.injEq,and_true,true_and] at e
 subst e
 have he:ds[i+j]=A[j]:=by
  have h1:(ds.drop i)[j]? = some A[j]:=by rw [hd,List.getElem?_append_left hj];simp
  rw [List.getElem?_drop] at h1
  exact (List.getElem?_eq_some_iff.1 h1).2
 rw [he] at c1 c2 c3
 refine ⟨o+i*3,rfl,?_,?_,?_⟩
 ·rw [show o+i*3+j*3=o+(i+j)*3 by omega];exact c1
 ·rw [show o+i*3+j*3+1=o+(i+j)*3+1 by omega];exact c2
 ·rw [show o+i*3+j*3+2=o+(i+j)*3+2 by omega];exact c3
theorem j9j (B b s be bf:Nat) (ds:List Nd) (a:Option Addr) (cap:Nat) (i:Nat) (t:Tr) (r:List Nd) (l:List UInt8) (cv:Value) (w:World) (ht:t.Wf) (hd:ds.drop i=t.nodes++r) (hC:LC B s be bf a ds w) (hW:WS B b (q5j be bf ds.length cap a) l cv w) (hf:t.isFlat=false) :
  Calls Tryz.prog 248 #[.pointer (some ⟨b,0,none⟩),.int .i64 i] w fun e w'=>e = .returned (q1e 4)∧Below B w w':=by
 have hi:=q7h hd
 have c2:=hW.c2
 have k2:=(hC.kn i t r (Nat.zero_le _) ht hd).2
 rw [hf] at k2
 have hiI:(i:Int)<(ds.length:Int):=by omega
 rw [v7a]
 clear hC hW hd
 go_enter Tryz.func248,Tryz.ntmps248
 go_wp2
 go_ret
 exact ⟨rfl,Below.refl _ _⟩
theorem j4d (B b s be bf:Nat) (hb:s<B∧be<B∧bf<B) (hB:B≤b) (ds:List Nd) (a:Option Addr) (cap:Nat) (hcap:ds.length≤cap) (hl:ds.length≤400) (i:Nat) (t:Tr) (r:List Nd) (l:List UInt8) (cv:Value) (w:World) (ht:t.Wf) (hd:ds.drop i=t.nodes++r) (hC:LC B s be bf a ds w) (hW:WS B b (q5j be bf ds.length cap a) l cv w) (hf:t.isFlat=true) (hsz:l.length≤1000000000) :
  Calls Tryz.prog 248 #[.pointer (some ⟨b,0,none⟩),.int .i64 i] w fun e w'=>e = .returned .nilIface∧WS B b (q5j be bf ds.length cap a) (l++t.line.data.toList) cv w'∧Below B w w':=by
 have hi:=q7h hd
 have c0:=hW.c0
 have c1:=hW.c1
 have c2:=hW.c2
 obtain ⟨k1,k2⟩:=hC.kn i t r (Nat.zero_le _) ht hd
 rw [hf] at k2
 obtain ⟨o0,ea,_,_,_⟩:=hC.nd i hi
 subst ea
 have hlt:=hW.lt
 have hbs:B≤w.heap.size:=by omega
 have hiI:(i:Int)<(ds.length:Int):=by omega
 have hlen:i+t.nodes.length≤ds.length:=by
  have:=congrArg List.length hd
  rw [List.length_drop,List.length_append] at this
  omega
 have hp:=t.pos
 have hn:q2s w (some ⟨s,o0+i*3,none⟩) t.nodes:=(hC.nd.part hd).nods (by omega)
 have hlf:t.line.size≤8000:=by have:=z2d t ht;rw [z8e];omega
 generalize hj:i+t.nodes.length=j at k1 hlen
 have hnl:t.nodes.length=j - i:=by omega
 have HFL:Hid (∀ W:World,Below w.heap.size w W→Calls Tryz.prog 221 #[.slice (some ⟨s,o0+i*3,none⟩) (j - i) (cap - i)] W fun e w'=>e = .returned (.tuple #[.string t.line,.bool true,.nilIface])∧Below W.heap.size W w'):=fun W hW=>by
  have:=k9l t.nodes t rfl ht (by omega) (some ⟨s,o0+i*3,none⟩) (cap - i) (by omega) W (hn.below hW)
  rw [hf,hnl] at this
  exact this
 have h1:(i:Int)≤(j:Int):=by omega
 have hbe:be<w.heap.size:=by omega
 have hp0:(0:Int)≤(i:Int):=by omega
 have hpj:(0:Int)≤(j:Int):=by omega
 have hic:(i:Int)<(cap:Int):=by omega
 have hci:¬ (cap - i=0):=by omega
 have hcj:¬ (cap=i):=by omega
 have hij:((j:Int) - (i:Int)).toNat=j - i:=by omega
 have hcij:((cap:Int) - (i:Int)).toNat=cap - i:=by omega
 have h2:(j:Int)≤(cap:Int):=by omega
 have h3:(j:Int)≤(ds.length:Int):=by omega
 have HW:Hid (WS B b (q5j be bf ds.length cap (some ⟨s,o0,none⟩)) l cv w):=hW
 clear hC hW hd hn hnl
 go_enter Tryz.func248,Tryz.ntmps248
 go_wp2_with fail
 go_region_held3 (fun w'=>w'.cell? ⟨b,0,none⟩=some (.slice (some ⟨s,o0,none⟩) ds.length cap)∧w'.cell? ⟨b,1,none⟩=some (.slice (some ⟨be,0,none⟩) ds.length ds.length)∧w'.cell? ⟨be,i,none⟩=some (.int .i64 (j:Int)))
  (first | exact ⟨c0,c1,k1⟩ | exact ⟨((q0v hb2).1 _ _ hlt).trans c0,((q0v hb2).1 _ _ hlt).trans c1,((q0v hb2).1 _ _ hbe).trans k1⟩)
  (first | (go_at_call 221;refine (HFL.out _ (Below.drew (Below.refl _ w))).mono ?_;rintro e w2 ⟨rfl,hb2⟩))
 all_goals
  have HW2:Hid (WS B b (q5j be bf ds.length cap (some ⟨s,o0,none⟩)) l cv w2):=WS.below (WS.drew HW.out) hb2
  have HB2:Hid (Below B w w2):=(Below.drew (Below.refl B w)).trans (hb2.mono hbs)
  clear hb2
  go_wp2_with fail
  refine (y0e HW2.out hB t.line (by omega)).mono ?_
  rintro e w3 ⟨⟨z,rfl⟩,h3,hb3⟩
  go_wp2
  go_ret
  exact ⟨rfl,h3,HB2.out.trans hb3⟩
end Go.Proofs.YtchdplceopegoaaGreatDoor
