/- Texts as one: BldX, BldX2, BldX3, SyA, TreX, IxB. -/
import Derived.Lib.FrozenHead2
import Derived.Lib.OthersKept
import Derived.Lib.Slices
import Derived.Lib.Walk
import Derived.Laws.Externs
import Derived.Shelf.RegionOpenPlain
import Derived.Test.YthjapabokcajhaaGreatDoorPi06
import Derived.Test.YthjapabokcajhaaGreatDoorShg
import Derived.Defers
import Derived.Lib.LaidTab
import Derived.Lib.IndexBytes
import Derived.Lib.Split
import Derived.OwnWalkIn
import Derived.TacticsInMore
import Derived.Lib.Bytealg
import Derived.Shelf.RegionOpen
open Go.Proofs.Tryz
namespace Go.Proofs.YthjapabokcajhaaGreatDoor
open Go Go.RowKit
set_option maxRecDepth 100000
set_option maxHeartbeats 1000000
structure q0u(B b:Nat)(w w':World):Prop where
 os:w'.os=w.os
 tape:w'.tape=w.tape
 output:w'.output=w.output
 size:w.heap.size<=w'.heap.size
 block:∀k,k<B->k≠b->w'.heap[k]?=w.heap[k]?
section
variable {B b:Nat} {w w' a:World}
theorem q0u.refl(B b:Nat)(w:World):q0u B b w w:=⟨rfl,rfl,rfl,Nat.le_refl _,fun _ _ _=>rfl⟩
theorem q0u.trans{c:World}(h:q0u B b a w)(k:q0u B b w c):q0u B b a c:=
 ⟨k.os.trans h.os,k.tape.trans h.tape,k.output.trans h.output,Nat.le_trans h.size k.size,fun i hi hb=>(k.block i hi hb).trans (h.block i hi hb)⟩
theorem q0u.drew(h:q0u B b a w):q0u B b a w.drew:=⟨h.os,h.tape,h.output,h.size,h.block⟩
theorem q0u.of(h:Below B w w'):q0u B b w w':=⟨h.os,h.tape,h.output,h.size,fun k hk _=>h.block k hk⟩
theorem q0u.below(h:q0u B b w w')(hB:B<=b):Below B w w':=⟨h.os,h.tape,h.output,h.size,fun k hk=>h.block k hk (by omega)⟩
theorem q0u.mono{B':Nat}(h:q0u B b w w')(hB:B'<=B):q0u B' b w w':=⟨h.os,h.tape,h.output,h.size,fun k hk=>h.block k (by omega)⟩
theorem q0u.alloc(h:q0u B b a w)(hB:B<=w.heap.size)(o:Obj):q0u B b a (w.alloc o):=
 h.trans (.of ((Below.refl B w).alloc hB o))
theorem q0u.setCell(h:q0u B b a w){p:Addr}(hp:p.block=b\/B<=p.block)(u:Value):q0u B b a (w.setCell p u):=
 h.trans ⟨rfl,rfl,rfl,by simp[World.setCell],fun k hk hb=>Below.heap_setCell _ _ _ _ (by omega)⟩
theorem q0u.grown{row:Option Nat}(h:q0u B b a w)(hg:w.grownBy w' row)(hB:B<=w.heap.size)(hr:∀k,row=some k->B<=k):q0u B b a w':=
 h.trans ⟨hg.os,hg.tape,hg.output,hg.size,fun k hk _=>hg.block k (by omega) (fun e=>by have:=hr k e.symm;omega)⟩
theorem q0u.cell(h:q0u B b w w'){p:Addr}(hp:p.block<B)(hb:p.block≠b):w'.cell? p=w.cell? p:=World.cell?_of_block (w:=w) (h.block p.block hp hb)
end
def XAt(T:TypeId)(B b:Nat)(p:Value)(bs R:List Value)(w:World):Prop:=
 ∃v,w.heap[b]?=some (.cells (p::v::R).toArray T (0,0))/\w.ownsRowF B 5 1 v bs.length bs/\v.ownBlock≠some b/\(bs=[]->v=.slice none 0 0)
def IsX(T:TypeId)(B b:Nat)(bs R:List Value)(w:World):Prop:=
 XAt T B b (.pointer none) bs R w\/XAt T B b (.pointer (some ⟨b,0,none⟩)) bs R w
section
variable {T:TypeId} {B b:Nat} {p:Value} {bs R:List Value} {w:World}
theorem XAt.cell0(h:XAt T B b p bs R w):w.cell? b=some p:=by
 obtain⟨v,hb,_⟩:=h;simp[World.cell?,hb]
theorem XAt.cellR(h:XAt T B b p bs R w)(i:Nat):w.cell? (b,i+2)=R[i]?:=by
 obtain⟨v,hb,_⟩:=h;simp[World.cell?,hb]
theorem XAt.shape(h:XAt T B b p bs R w):w.shape? b=some (T,R.length+2):=by
 obtain⟨v,hb,_⟩:=h;simp[World.shape?,hb]
theorem XAt.lt(h:XAt T B b p bs R w):b<w.heap.size:=by
 obtain⟨v,hb,_⟩:=h;rcases Nat.lt_or_ge b w.heap.size with h'|h'
 ·exact h'
 ·simp[Array.getElem?_eq_none h']at hb
theorem XAt.used(h:XAt T B b p bs R w)(q:Value):XAt T B b q bs R (w.setCell b q):=by
 obtain⟨v,hb,hown,hne,h0⟩:=h;refine⟨v,?_,?_,hne,h0⟩
 ·simp[World.setCell,Array.getElem?_modify,hb]
 ·exact hown.kept (row:=some b) ⟨rfl,rfl,rfl,by simp[World.setCell],fun k _ hk=>Below.heap_setCell _ _ _ _ (fun e=>hk (by simp[e]))⟩ (Or.inr hne)
theorem XAt.stored(h:XAt T B b p bs R w)(i:Nat)(q:Value):XAt T B b p bs (R.set i q) (w.setCell (b,i+2) q):=by
 obtain⟨v,hb,hown,hne,h0⟩:=h;refine⟨v,?_,?_,hne,h0⟩
 ·simp[World.setCell,Array.getElem?_modify,hb]
 ·exact hown.kept (row:=some b) ⟨rfl,rfl,rfl,by simp[World.setCell],fun k _ hk=>Below.heap_setCell _ _ _ _ (fun e=>hk (by simp[e]))⟩ (Or.inr hne)
theorem XAt.frozen(h:XAt T B b p bs R w)(i:Nat):w.frozen? (b,i)=false:=by
 obtain⟨v,hb,_⟩:=h;simp[World.frozen?,hb]
theorem XAt.put{v v':Value}{bs':List Value}(hb:w.heap[b]?=some (.cells (p::v::R).toArray T (0,0)))(hown:w.ownsRowF B 5 1 v' bs'.length bs')(hTe:T≠5)(h0:bs'=[]->v'=.slice none 0 0):
  XAt T B b p bs' R (w.setCell (b,1) v'):=by
 have hne:=Lib.ownBlock_neF hown hb hTe;refine⟨v',?_,?_,hne,h0⟩
 ·simp[World.setCell,Array.getElem?_modify,hb]
 ·exact hown.kept (row:=some b) ⟨rfl,rfl,rfl,by simp[World.setCell],fun k _ hk=>Below.heap_setCell _ _ _ _ (fun e=>hk (by simp[e]))⟩ (Or.inr hne)
theorem XAt.alloc(h:XAt T B b p bs R w)(o:Obj):XAt T B b p bs R (w.alloc o):=by
 have hlt:=h.lt;obtain⟨v,hb,hown,hne,h0⟩:=h;exact⟨v,(Lib.alloc_old w o b hlt).trans hb,hown.kept (World.grownBy_alloc w o none) (by cases hv:v.ownBlock<;>simp),hne,h0⟩
theorem XAt.far{b':Nat}{w':World}{c:Array Value}{t:TypeId}{fz:Nat × Nat}(h:XAt T B b p bs R w)(hx:q0u w b' w w')(hbb:b≠b')(hb':w.heap[b']?=some (.cells c t fz))(ht:t≠5):XAt T B b p bs R w':=by
 have hlt:=h.lt;obtain⟨v,hb,hown,hne,h0⟩:=h;refine⟨v,(hx.block b hlt hbb).trans hb,hown.kept (row:=some b') ⟨hx.os,hx.tape,hx.output,hx.size,fun k hk hkb=>hx.block k hk (fun e=>hkb (by rw[e]))⟩ (Or.inr ?_),hne,h0⟩;exact Lib.ownBlock_neF hown hb' ht
theorem IsX.at(h:IsX T B b bs R w):∃p,XAt T B b p bs R w:=by
 rcases h with h|h
 ·exact⟨_,h⟩
 ·exact⟨_,h⟩
theorem IsX.lt(h:IsX T B b bs R w):b<w.heap.size:=h.at.elim fun _ h=>h.lt
theorem IsX.cellR(h:IsX T B b bs R w)(i:Nat):w.cell? ⟨b,i+2,none⟩=R[i]?:=h.at.elim fun _ h=>h.cellR i
theorem IsX.frozen(h:IsX T B b bs R w)(i:Nat):w.frozen? ⟨b,i,none⟩=false:=h.at.elim fun _ h=>h.frozen i
theorem IsX.alloc(h:IsX T B b bs R w)(o:Obj):IsX T B b bs R (w.alloc o):=h.imp (·.alloc o) (·.alloc o)
theorem IsX.stored(h:IsX T B b bs R w)(i:Nat)(q:Value):IsX T B b bs (R.set i q) (w.setCell ⟨b,i+2,none⟩ q):=h.imp (·.stored i q) (·.stored i q)
theorem IsX.drew(h:IsX T B b bs R w):IsX T B b bs R w.drew:=h
theorem IsX.far{b':Nat}{w':World}{c:Array Value}{t:TypeId}{fz:Nat × Nat}(h:IsX T B b bs R w)(hx:q0u w b' w w')(hbb:b≠b')(hb':w.heap[b']?=some (.cells c t fz))(ht:t≠5):IsX T B b bs R w':=h.imp (·.far hx hbb hb' ht) (·.far hx hbb hb' ht)
theorem IsX.fresh(T:TypeId)(w:World)(R:List Value):IsX T w.heap.size w.heap.size [] R (w.alloc (.cells (.pointer none::.slice none 0 0::R).toArray T)):=
 Or.inl ⟨.slice none 0 0,heap_alloc_new w _,World.ownsRowF_nil _ _ _ _,by simp[Value.ownBlock],fun _=>rfl⟩
theorem IsX.unused(T:TypeId)(B b:Nat)(w:World)(R:List Value)(h:w.heap[b]?=some (.cells (.pointer none::.slice none 0 0::R).toArray T (0,0))):IsX T B b [] R w:=
 Or.inl ⟨.slice none 0 0,h,World.ownsRowF_nil _ _ _ _,by simp[Value.ownBlock],fun _=>rfl⟩
end
theorem y2n:(prog.info? 5).map (fun i=>(i.zero,i.size,i.bytes))=some (some (.int .u8 0),1,1):=by kernel_rfl
theorem v8g:prog.cellsOf 5=1:=by kernel_rfl
theorem v5z:(prog.info? 81).map (·.size)=some 2:=by kernel_rfl
theorem k5h(b:Nat)(w:World)(h0:w.cell? b=some (.pointer b)):
  Calls prog 75 #[.pointer b] w fun e w'=>e=.returned (.tuple #[])/\w'=w:=by
 obtain⟨j,hj,_⟩:=Option.map_eq_some_iff.1 v5z;go_in;go_wp2;rw[Lib.run_neq_ptr_same w _ Tryz.underlying78 hj];go_wp2
 go_end0
 exact⟨rfl,rfl⟩
theorem k2p(T n b:Nat)(w:World)(hl:liesAt prog prog.depth T (n / prog.cellsOf T) 0 81 1=true)(h0:w.cell? b=some (.pointer none))(hsh:w.shape? b=some (T,n))(hn:0<n)(hfz:w.frozen? b=false):
  Calls prog 75 #[.pointer b] w fun e w'=>e=.returned (.tuple #[])/\w'=w.setCell b (.pointer b):=by
 obtain⟨j,hj,hjs⟩:=Option.map_eq_some_iff.1 v5z;have HL:Hid (liesAt prog prog.depth T (n / prog.cellsOf T) 0 81 1=true):=hl;have HS:Hid (w.shape? b=some (T,n)):=hsh;have HJ:Hid (j.size≠0):=(show j.size≠0 by rw[hjs];decide);clear hl hsh hjs;go_in;go_wp2;rw[Lib.run_to_unsafe w b Tryz.underlying78 Tryz.underlying178 hj HJ.o HS.o hn];simp only[Result.andThen];rw[Oper.upon_value];go_wp2;rw[run_callFunc_extern func117 (by kernel_rfl) (by kernel_rfl) (by kernel_rfl) (e:=Extern.AbiNoEscape.same) (by kernel_rfl)];rw[Lib.run_noEscape];simp only[Result.andThen];rw[Oper.upon_value];go_wp2;rw[Lib.run_from_unsafe w b Tryz.underlying178 Tryz.underlying78 hj HS.o HL.o];simp only[Result.andThen];rw[Oper.upon_value];go_wp2
 go_end0
 exact⟨rfl,rfl⟩
def z7r(T n:Nat):Prop:=liesAt prog prog.depth T (n / prog.cellsOf T) 0 81 1=true
theorem z7n(T B b:Nat)(bs R:List Value)(w:World)(hl:z7r T (R.length+2))(h:IsX T B b bs R w):
  Calls prog 75 #[.pointer b] w fun e w'=>e=.returned (.tuple #[])/\(XAt T B b (.pointer b) bs R w'/\q0u B b w w'/\Lib.OthersKept 5 (some b) w w'):=by
 rcases h with h|h
 ·refine(k2p T (R.length+2) b w hl h.cell0 h.shape (by omega) (h.frozen 0)).mono ?_;rintro e w'⟨rfl,rfl⟩;exact⟨rfl,h.used _,(q0u.refl B b w).setCell (p:=b) (.inl rfl) _,(Lib.OthersKept.refl _ _ w).setCell b rfl _⟩
 ·refine(k5h b w h.cell0).mono ?_;rintro e w'⟨rfl,rfl⟩;exact⟨rfl,h,q0u.refl B b _,Lib.OthersKept.refl _ _ _⟩
end Go.Proofs.YthjapabokcajhaaGreatDoor
namespace Go.Proofs.YthjapabokcajhaaGreatDoor
open Go Go.RowKit
set_option maxRecDepth 100000
set_option maxHeartbeats 2000000
theorem v0g(T B b:Nat)(bs R:List Value)(c:Int)(w:World)(hl:z7r T (R.length+2))(hT:T≠5)(h:IsX T B b bs R w)(hlen:bs.length+1<=140737488355328)(hBw:B<=w.heap.size):
  Calls prog 45 #[.pointer (some ⟨b,0,none⟩),.int .u8 c] w fun e w'=>e=.returned .nilIface/\(IsX T B b (bs++[.int .u8 c]) R w'/\q0u B b w w'/\Lib.OthersKept 5 (some b) w w'):=by
 obtain⟨i0,hi,hz0,hz1,hz2⟩:=info_parts y2n;have HL:Hid (z7r T (R.length+2)):=hl;have HT:Hid (T≠5):=hT;have H:Hid (IsX T B b bs R w):=h;clear hl hT h;go_in;go_wp2_with(go_at_call 75;refine(z7n T B b bs R _ HL.o H.o).mono ?_);rintro e w1⟨rfl,h1,hb1,hk1⟩;obtain⟨v,hbk,hown,hne,_⟩:=h1;have c0:w1.cell? ⟨b,0,none⟩=some (.pointer (some ⟨b,0,none⟩)):=by rw[Lib.cell_of_heap hbk];rfl
 have c1:w1.cell? ⟨b,1,none⟩=some v:=by rw[Lib.cell_of_heap hbk];rfl
 go_wp2_with(at_builtin;refine wpList_append_ownF _ rfl _ _ 79 rfl B 5 i0 (.int .u8 0) 1 1 Tryz.underlying79 hi hz0 hz1 hz2 rfl (by decide) _ _ _ rfl (hown.alloc _) ⟨w1.heap.size,0,none⟩ 1 1 [.int .u8 c] rfl rfl ?c1 ?c2 ?c3 ?c4 ?c5 ?_)
 case c1=>
  intro j u hj
  match j,hj with
  | 0,hj=>simp at hj;subst hj;simp[Addr.add]
 case c2=>intro u hu;simp at hu;subst hu;rfl
 case c3=>unfold maxLen;omega
 case c4=>omega
 case c5=>have:=hb1.size;simp;omega
 intro v' w2 hown' hgrow _
 have hlt:b<w1.heap.size:=by
  rcases Nat.lt_or_ge b w1.heap.size with h'|h'
  ·exact h'
  ·simp[Array.getElem?_eq_none h']at hbk
 have hb2:w2.heap[b]?=some (.cells (.pointer (some ⟨b,0,none⟩)::v::R).toArray T (0,0)):=by
  rw[hgrow.block b (by simp;omega) (fun e=>hne e.symm),Lib.alloc_old w1 _ b hlt];exact hbk
 have d0:w2.cell? ⟨b,0,none⟩=some (.pointer (some ⟨b,0,none⟩)):=by rw[Lib.cell_of_heap hb2];rfl
 have d1:w2.cell? ⟨b,1,none⟩=some v:=by rw[Lib.cell_of_heap hb2];rfl
 have f1:w2.frozen? ⟨b,1,none⟩=false:=Lib.frozen_of_heap hb2 1
 obtain⟨g,cap,rfl⟩:∃g cap,v'=.slice (some ⟨g,0,none⟩) (bs.length+1) cap:=by
  rcases hown'.2 with⟨_,h0⟩|⟨g,cap,cur,fz,hv,_⟩
  ·omega
  ·exact⟨g,cap,hv⟩
 go_wp2;go_ret;refine⟨rfl,.inr ?_,?_,((hk1.alloc _).grown hgrow (Lib.ownsRowF_kind (hown.alloc _))).setCell ⟨b,1,none⟩ rfl _⟩
 ·exact XAt.put hb2 (bs':=bs++[.int .u8 c]) (by simpa using hown') HT.o (fun h=>by simp at h)
 ·exact((hb1.alloc (by have:=hb1.size;omega) _).grown hgrow (by have:=hb1.size;simp;omega) (fun k hk=>(hown.lt k hk).1)).setCell (p:=⟨b,1,none⟩) (.inl rfl) _
theorem z5m(T B b:Nat)(bs R:List Value)(s:ByteArray)(w:World)(hl:z7r T (R.length+2))(hT:T≠5)(h:IsX T B b bs R w)(hlen:bs.length+s.size<=140737488355328)(hBw:B<=w.heap.size):
  Calls prog 38 #[.pointer (some ⟨b,0,none⟩),.string s] w fun e w'=>e=.returned (.tuple #[.int .i64 s.size,.nilIface])/\(IsX T B b (bs++Lib.strCells s) R w'/\q0u B b w w'/\Lib.OthersKept 5 (some b) w w'):=by
 obtain⟨i0,hi,hz0,hz1,hz2⟩:=info_parts y2n;have HL:Hid (z7r T (R.length+2)):=hl;have HT:Hid (T≠5):=hT;have H:Hid (IsX T B b bs R w):=h;clear hl hT h;go_in;go_wp2_with(go_at_call 75;refine(z7n T B b bs R _ HL.o H.o).mono ?_);rintro e w1⟨rfl,h1,hb1,hk1⟩;obtain⟨v,hbk,hown,hne,h0⟩:=h1;have H0:Hid (bs=[]->v=.slice none 0 0):=h0;clear h0;have c0:w1.cell? ⟨b,0,none⟩=some (.pointer (some ⟨b,0,none⟩)):=by rw[Lib.cell_of_heap hbk];rfl
 have c1:w1.cell? ⟨b,1,none⟩=some v:=by rw[Lib.cell_of_heap hbk];rfl
 go_wp2_with(at_builtin;refine Lib.wpList_append_own_stringF _ rfl _ _ 79 9 rfl B 5 i0 Tryz.underlying79 Tryz.underlying9 hi hz0 hz1 hz2 _ _ _ rfl hown s rfl ?c3 ?c4 ?c5 ?_)
 case c3=>unfold maxLen;omega
 case c4=>omega
 case c5=>have:=hb1.size;omega
 intro v' w2 hown' hgrow hnil;have HZ:Hid (v'=.slice none 0 0↔v=.slice none 0 0/\s.size=0):=(show _↔_ by simpa using hnil);clear hnil
 have hlt:b<w1.heap.size:=by
  rcases Nat.lt_or_ge b w1.heap.size with h'|h'
  ·exact h'
  ·simp[Array.getElem?_eq_none h']at hbk
 have hb2:w2.heap[b]?=some (.cells (.pointer (some ⟨b,0,none⟩)::v::R).toArray T (0,0)):=by
  rw[hgrow.block b hlt (fun e=>hne e.symm)];exact hbk
 have d0:w2.cell? ⟨b,0,none⟩=some (.pointer (some ⟨b,0,none⟩)):=by rw[Lib.cell_of_heap hb2];rfl
 have d1:w2.cell? ⟨b,1,none⟩=some v:=by rw[Lib.cell_of_heap hb2];rfl
 have f1:w2.frozen? ⟨b,1,none⟩=false:=Lib.frozen_of_heap hb2 1
 obtain⟨ao,n',cap,rfl⟩:∃ao n' cap,v'=.slice ao n' cap:=by
  rcases hown'.2 with⟨hv,_⟩|⟨g,cap,cur,fz,hv,_⟩
  ·exact⟨_,_,_,hv⟩
  ·exact⟨_,_,_,hv⟩
 go_wp2;go_ret2;refine⟨rfl,.inr ?_,?_,(hk1.grown hgrow (Lib.ownsRowF_kind hown)).setCell ⟨b,1,none⟩ rfl _⟩
 ·refine XAt.put hb2 (bs':=bs++Lib.strCells s) (by simpa[Lib.strCells_length]using hown') HT.o (fun h=>?_);obtain⟨h1,h2⟩:=List.append_eq_nil_iff.1 h;refine HZ.o.2 ⟨H0.o h1,?_⟩;rw[<-Lib.strCells_length,h2];rfl
 ·exact(hb1.grown hgrow (by have:=hb1.size;omega) (fun k hk=>(hown.lt k hk).1)).setCell (p:=⟨b,1,none⟩) (.inl rfl) _
theorem v0i(T B b:Nat)(l:List UInt8)(R:List Value)(w:World)(h:IsX T B b (Lib.byteCells l) R w)(h0:l≠[]):
  Calls prog 39 #[.pointer (some ⟨b,0,none⟩)] w fun e w'=>e=.returned (.string ⟨l.toArray⟩)/\Below B w w':=by
 obtain⟨p,hAt⟩:=h.at;obtain⟨v,hbk,hown,hne,_⟩:=hAt;have hl0:l.length≠0:=by simpa using h0
 rw[Lib.byteCells_length]at hown
 obtain⟨g,cap,cur,fz,rfl,hbg,hg,hfz,hnc,hcm,hcs,htake⟩:∃g cap cur fz,v=.slice (some ⟨g,0,none⟩) l.length cap/\B<=g/\w.heap[g]?=some (.cells cur 5 fz)/\fz.2<=l.length*1/\l.length<=cap/\cap<=maxLen/\cur.size=cap*1/\cur.toList.take (l.length*1)=Lib.byteCells l:=by
  rcases hown.2 with⟨_,hz⟩|⟨g,cap,cur,fz,hv,r⟩
  ·exact absurd hz hl0
  ·exact⟨g,cap,cur,fz,hv,r⟩
 have c1:w.drew.cell? ⟨b,1,none⟩=some (.slice (some ⟨g,0,none⟩) l.length cap):=by
  have:w.drew.heap[b]?=some (.cells (p::.slice (some ⟨g,0,none⟩) l.length cap::R).toArray T (0,0)):=hbk
  rw[Lib.cell_of_heap this];rfl
 have hSD:(Builtin.unsafeSliceData_ #[79] 130 #[.slice (some ⟨g,0,none⟩) l.length cap]).run prog w.drew=.ok (.pointer (some ⟨g,0,none⟩)) w.drew:=
  Lib.run_unsafeSliceData_row _ _ _ _ _ _ (by omega)
 have hUS:(Builtin.unsafeString_ #[130,3] 9 #[.pointer (some ⟨g,0,none⟩),.int .i64 l.length]).run prog w.drew=.ok (.string ⟨l.toArray⟩) (w.drew.freeze ⟨g,0,none⟩ l.length):=by
  refine Lib.run_unsafeString_row w.drew 130 3 9 5 Tryz.underlying130 v8g g cur.size (by have hg':w.drew.heap[g]?=some (.cells cur 5 fz):=hg;simp[World.shape?,hg']) l h0 (by omega) (by unfold maxLen at hcm;omega) ?_;intro j x hx
  have:=hown.cells (g:=g) rfl j (.int .u8 x.toNat) (by simp[Lib.byteCells,hx])
  exact this
 go_in;go_wp2
 go_region
 all_goals (go_wp2;go_ret;exact⟨rfl,Lib.below_freeze (Below.drew (Below.refl B w)) (p:=⟨g,0,none⟩) hbg _⟩)
theorem v0h(T B b:Nat)(R:List Value)(w:World)(h:IsX T B b [] R w):
  Calls prog 39 #[.pointer (some ⟨b,0,none⟩)] w fun e w'=>e=.returned (.string ⟨#[]⟩)/\Below B w w':=by
 obtain⟨p,hAt⟩:=h.at;obtain⟨v,hbk,hown,hne,hv⟩:=hAt;obtain rfl:=hv rfl;clear hown hne hv;have hUS:∀(W:World)(q:Option Addr),(Builtin.unsafeString_ #[130,3] 9 #[.pointer q,.int .i64 0]).run prog W=.ok (.string .empty) W:=fun W q=>Lib.run_unsafeString_none W _ _ _ q
 have c1:w.drew.cell? ⟨b,1,none⟩=some (.slice none 0 0):=by
  have:w.drew.heap[b]?=some (.cells (p::.slice none 0 0::R).toArray T (0,0)):=hbk
  rw[Lib.cell_of_heap this];rfl
 have hSD:(Builtin.unsafeSliceData_ #[79] 130 #[.slice none 0 0]).run prog w.drew=.ok (.pointer none) w.drew:=rfl;go_in;go_wp2
 go_region
 all_goals (go_wp2;go_ret;exact⟨rfl,Below.drew (Below.refl B w)⟩)
theorem k7y(T B b:Nat)(l:List UInt8)(R:List Value)(w:World)(h:IsX T B b (Lib.byteCells l) R w):
  Calls prog 39 #[.pointer (some ⟨b,0,none⟩)] w fun e w'=>e=.returned (.string ⟨l.toArray⟩)/\Below B w w':=by
 by_cases h0:l=[]
 ·subst h0;exact v0h T B b R w h
 ·exact v0i T B b l R w h h0
def j1h (w : World) : Prop := Lib.TabIs prog w "internal/strconv.uint64pow10" .u64 Lib.pow10Tab
structure z5t(w:World):Prop where
 pow:j1h w
 spc : Lib.TabIs prog w "strings.asciiSpace" .u8 Lib.asciiSpaceTab
theorem k2o{n:String}{k:IntKind}{zs:List Int}{w w':World}{g:Nat}(hg:prog.globalNamed n=some g)(h:Lib.TabIs prog w n k zs)(hb:Below w w w'):Lib.TabIs prog w' n k zs:=by
 unfold Lib.TabIs World.var? at h⊢;rw[hg]at h⊢;simp only[Option.bind_some]at h⊢
 have hlt:g<w.heap.size:=by
  rcases Nat.lt_or_ge g w.heap.size with h'|h'
  ·exact h'
  ·rw[Array.getElem?_eq_none h']at h;cases h
 rw[hb.block g hlt];exact h
theorem j1h.below{w w':World}(h:j1h w)(hb:Below w w w'):j1h w':=k2o (g:=4) (by kernel_rfl) h hb
theorem z5t.below{w w':World}(h:z5t w)(hb:Below w w w'):z5t w':=
 ⟨h.pow.below hb,k2o (g:=1) (by kernel_rfl) h.spc hb⟩
theorem q3p(w:World)(o:Obj):Below w w (w.alloc o):= Zb.alloc Zl _
theorem k3b(w:World)(o:Obj):Below w w (w.alloc o).drew:=(q3p w o).drew
theorem y2a{w:World}{b o c:Nat}{x:Td}{ds:List Td}(h:Tds w (some ↑(b,o)) (x::ds))(hc:(x::ds).length<=c):
  ∃A,(∀W:World,(Instr.slice 22 (.slice (some ↑(b,o)) (x::ds).length c) (some (.int .i64 1)) none none).run prog W=.ok (.slice A ds.length (c-1)) W)/\Tds w A ds:=by
 refine⟨if c=1 then some ↑(b,o)else some ↑(b,o+3),fun W=>?_,?_⟩
 ·rw[run_slice_l W 22 _ (x::ds).length c Tryz.underlying22 .i64 1 (by omega) (by simp only[List.length_cons];omega)];have hz:(sizeOf (prog.elem 22)).run prog W=.ok 3 W:=by kernel_rfl
  rw[hz];have ha:((b,o):Addr).add 3=(b,o+3):=rfl;simp[Result.andThen,sliced,ha]
 ·by_cases e:c=1
  ·have:ds=[]:=List.eq_nil_of_length_eq_zero (by simp only[List.length_cons]at hc;omega)
   rw[this];exact Tds.nil _ _
  ·rw[if_neg e];intro i hi;obtain⟨b',o',e',hlt,c1,c2,c3⟩:=h (i+1) (by simp only[List.length_cons];omega);simp only[Option.some.injEq,Addr.mk.injEq,and_true]at e';obtain⟨rfl,rfl⟩:=e';simp only[List.getElem_cons_succ]at c1 c2 c3;refine⟨b,o+3,rfl,hlt,?_,?_,?_⟩
   ·rw[show o+3+i*3=o+(i+1)*3 by omega];exact c1
   ·rw[show o+3+i*3+1=o+(i+1)*3+1 by omega];exact c2
   ·rw[show o+3+i*3+2=o+(i+1)*3+2 by omega];exact c3
theorem z8b(a b:List UInt8):Lib.byteCells (a++b)=Lib.byteCells a++Lib.byteCells b:=by simp[Lib.byteCells]
theorem IsX.grew{T B b:Nat}{bs R:List Value}{w w':World}(h:IsX T B b bs R w)(hb:Below w w w'):IsX T B b bs R w':=by
 have key:∀p,XAt T B b p bs R w->XAt T B b p bs R w':=by
  rintro p⟨v,hk,hown,hne,h0⟩;refine⟨v,(hb.block b ?_).trans hk,hown.kept (row:=none) ⟨hb.os,hb.tape,hb.output,hb.size,fun k hk _=>hb.block k hk⟩ (by cases hv:v.ownBlock<;>simp),hne,h0⟩;rcases Nat.lt_or_ge b w.heap.size with h'|h'
  ·exact h'
  ·simp[Array.getElem?_eq_none h']at hk
 exact h.imp (key _) (key _)
theorem j5z(x:Td)(op:Int)(hop:op=5\/op=6)(s:Bool)(w:World):Calls prog 206 #[x.op,op,.bool s] w fun e w'=>e=.returned (.bool (decide (prc x<(op-5).toNat+s.toNat)))/\w'=w:=by
 have hp:prc x=if x.op=5 then 0 else if x.op=6 then 1 else 2:=rfl
 rw[hp];generalize x.op=k;clear hp;by_cases h5:k=5
 ·subst h5;rcases hop with rfl|rfl<;>cases s
  all_goals
   go_in;go_wp2;go_ret;exact⟨rfl,rfl⟩
 ·by_cases h6:k=6
  ·subst h6;rcases hop with rfl|rfl<;>cases s
   all_goals
    go_in;go_wp2;go_ret;exact⟨rfl,rfl⟩
  ·rw[if_neg h5,if_neg h6];have e5:(k==5)=false:=by simp[h5]
   have e6:(k==6)=false:=by simp[h6]
   rcases hop with rfl|rfl<;>cases s
   all_goals
    go_in;go_wp2;go_ret;exact⟨rfl,rfl⟩
theorem j4y{s:ByteArray}:btL s=[108,101,116]↔s=⟨#[108,101,116]⟩:=by
 constructor
 ·intro h;apply ByteArray.ext;apply Array.ext';exact h
 ·intro h;rw[h]
theorem k1t{s:ByteArray}(h1:1<=s.size)(h2:s.size<=8)(h3:¬s=⟨#[108,101,116]⟩)(h:∀k(h:k<s.size),q2j s[k]=true):q0o s=true:=by
 have h3':btL s≠[108,101,116]:=fun e=>h3 (j4y.1 e)
 simp only[q0o,h1,h2,h3',decide_true,Bool.true_and,List.all_eq_true,ne_eq,not_false_eq_true];intro b hb;obtain⟨i,hi,rfl⟩:=List.getElem_of_mem hb;exact h i (by rw[<-q0c];exact hi)
theorem k1u{s:ByteArray}{k:Nat}(h:k<s.size)(hb:q2j s[k]=false):q0o s=false:=by
 cases e:q0o s with
 | false=>rfl
 | true=>
  simp only[q0o,Bool.and_eq_true,List.all_eq_true]at e;have hl:k<(btL s).length:=by rw[q0c];exact h
  have:=e.2 s[k] (List.getElem_mem hl)
  rw[hb]at this;cases this
theorem z4k{s:ByteArray}(h:s.size<1):q0o s=false:=by
 have:decide (1<=s.size)=false:=decide_eq_false (by omega)
 simp[q0o,this]
theorem z6x{s:ByteArray}(h:8<s.size):q0o s=false:=by
 have:decide (s.size<=8)=false:=decide_eq_false (by omega)
 simp[q0o,this]
theorem z1e(s:ByteArray):wbS (btL s)=s:=by
 obtain⟨d⟩:=s;simp[wbS,btL]
theorem j2y{l:List UInt8}(h:Lib.indexByte l 32=-1):∀b∈l,b≠32:=by
 intro b hb e;subst e;obtain⟨k,hk⟩:=List.getElem?_of_mem hb;exact Lib.indexByte_none h k hk
theorem k5u{l:List UInt8}{i:Nat}(h:Lib.indexByte l 32=i):i<l.length/\l=l.take i++32::l.drop (i+1)/\∀b∈l.take i,b≠32:=by
 obtain⟨h1,h2⟩:=Lib.indexByte_some h;obtain⟨hi,h3⟩:=List.getElem?_eq_some_iff.1 h1;refine⟨hi,?_,?_⟩
 ·have:=(List.take_append_drop i l).symm
  rw[List.drop_eq_getElem_cons hi,h3]at this;exact this
 ·intro b hb e;subst e;obtain⟨k,hk⟩:=List.getElem?_of_mem hb;rw[List.getElem?_take]at hk
  split at hk
  ·rename_i hki;exact h2 k hki hk
  ·cases hk
def spK:Nat->ByteArray->List ByteArray
 | 0,s=>[s]
 | k+1,s=>if Lib.indexByte s.data.toList 32=-1 then [s]else s.extract 0 (Lib.indexByte s.data.toList 32).toNat::spK k (s.extract ((Lib.indexByte s.data.toList 32).toNat+1) s.size)
theorem z9g(s:ByteArray):spK 0 s=[s]:=rfl
theorem z0t(k:Nat){s:ByteArray}(h:Lib.indexByte s.data.toList 32=-1):spK k s=[s]:=by
 cases k with
 | zero=>rfl
 | succ k=>rw[spK,if_pos h]
theorem z4x(k:Nat){s:ByteArray}{i:Nat}(h:Lib.indexByte s.data.toList 32=i):spK (k+1) s=s.extract 0 i::spK k (s.extract (i+1) s.size):=by
 rw[spK,if_neg (by omega),h];rfl
theorem y7l(s:ByteArray)(i:Nat):btL (s.extract 0 i)=(btL s).take i:=by
 rw[q9s,List.drop_zero,Nat.sub_zero];rfl
theorem v9a(s:ByteArray)(i:Nat):btL (s.extract i s.size)=(btL s).drop i:=Lib.extract_to_end s i
theorem q8b(s:ByteArray):Lib.indexByte s.data.toList 32=-1\/∃i:Nat,Lib.indexByte s.data.toList 32=i/\i<s.size:=by
 have hge:=Lib.indexByte_ge s.data.toList 32;by_cases h:Lib.indexByte s.data.toList 32=-1
 ·exact .inl h
 ·refine .inr ⟨(Lib.indexByte s.data.toList 32).toNat,by omega,?_⟩
  have:=(k5u (l:=btL s) (i:=(Lib.indexByte s.data.toList 32).toNat) (by show Lib.indexByte s.data.toList 32=_;omega)).1
  rw[q0c]at this;exact this
theorem z9i{s:ByteArray}{i:Nat}(h:Lib.indexByte s.data.toList 32=i):q5j (btL s)=btL (s.extract 0 i)::q5j (btL (s.extract (i+1) s.size)):=by
 obtain⟨_,h2,h3⟩:=k5u (l:=btL s) h;rw[y7l,v9a]
 conv=>lhs;rw[h2]
 rw[k7m _ _ h3]
theorem k4y{s:ByteArray}(h:Lib.indexByte s.data.toList 32=-1):q5j (btL s)=[btL s]:=k7n _ (j2y (l:=btL s) h)
theorem v4r{s:ByteArray}{i:Nat}(h:i<s.size):(s.extract (i+1) s.size).size=s.size-(i+1):=by
 rw[ByteArray.size_extract];omega
theorem j8n:∀(k:Nat)(s:ByteArray),s.size<=k->(spK k s).map btL=q5j (btL s)
 | 0,s,h=>by
  have e:btL s=[]:=List.eq_nil_of_length_eq_zero (by rw[q0c];omega);rw[z9g,List.map_cons,List.map_nil,e];rfl
 | k+1,s,h=>by
  rcases q8b s with h1|⟨i,h1,h2⟩
  ·rw[z0t _ h1,k4y h1];rfl
  ·rw[z4x k h1,z9i h1,List.map_cons,j8n k _ (by rw[v4r h2];omega)]
theorem j8p:∀(k:Nat)(s:ByteArray),(spK k s).length<=k->(spK k s).map btL=q5j (btL s)
 | 0,s,h=>by rw[z9g]at h;simp at h
 | k+1,s,h=>by
  rcases q8b s with h1|⟨i,h1,h2⟩
  ·rw[z0t _ h1,k4y h1];rfl
  ·rw[z4x k h1]at h⊢;rw[List.length_cons]at h;rw[z9i h1,List.map_cons,j8p k _ (by omega)]
theorem v7u:∀(k:Nat)(s:ByteArray),(spK k s).length<=(q5j (btL s)).length
 | 0,s=>by
  rw[z9g]
  have:=q9q (btL s)
  cases h:q5j (btL s)with
  | nil=>exact absurd h this
  | cons a b=>simp
 | k+1,s=>by
  rcases q8b s with h1|⟨i,h1,h2⟩
  ·rw[z0t _ h1,k4y h1];simp
  ·rw[z4x k h1,z9i h1,List.length_cons,List.length_cons]
   have:=v7u k (s.extract (i+1) s.size)
   omega
theorem j1r{l:List ByteArray}{m:List (List UInt8)}(h:l.map btL=m):l=m.map wbS:=by
 subst h;rw[List.map_map]
 have:(wbS∘btL)=id:=by funext s;exact z1e s
 rw[this,List.map_id]
theorem j8o(s:ByteArray)(k:Nat)(hk:k=min 60 s.size):q1d (spK k s)=q1d ((q5j (btL s)).map wbS):=by
 by_cases h:s.size<=60
 ·rw[j1r (j8n k s (by omega))]
 ·have hk':k=60:=by omega
  subst hk';by_cases hl:(spK 60 s).length<=60
  ·rw[j1r (j8p 60 s hl)]
  ·have h1:=v7u 60 s;rw[q7h (by omega),q7h (by rw[List.length_map];omega)]
theorem v3m{s:ByteArray}(h:0<s.size)(k:Nat)(hk:k=min 60 s.size):q1d (spK k s)=q2u s:=by
 rw[j8o s k hk,q2u,q0e,if_neg];intro e
 have:=congrArg List.length e
 rw[q0c,List.length_nil]at this;omega
theorem j7d{s:ByteArray}(h:s.size=0):q2u s=0:=by
 have e:btL s=[]:=List.eq_nil_of_length_eq_zero (by rw[q0c];exact h);rw[q2u,q0e,if_pos e];rfl
end Go.Proofs.YthjapabokcajhaaGreatDoor
namespace Go.Proofs.YthjapabokcajhaaGreatDoor
open Go Go.RowKit Go.Lib Go.Shelf
set_option maxRecDepth 100000
set_option maxHeartbeats 1000000
theorem q6s(s:ByteArray)(c:Int)(w:World):
  Calls prog 168 #[.string s,.int .u8 c] w fun e w'=>e=.returned (.int .i64 (Lib.indexByte s.data.toList c.toNat.toUInt8))/\w'=w:=by
 go_in;go_wp2;rw[run_callFunc_extern func197 (by kernel_rfl) (by kernel_rfl) (by kernel_rfl) (e:=Extern.BytealgIndexByte.indexByte) (by kernel_rfl),Lib.run_indexByteString];simp only[Result.andThen];rw[Oper.upon_value];go_wp2;go_ret;exact⟨rfl,rfl⟩
end Go.Proofs.YthjapabokcajhaaGreatDoor
