/- Texts as one: BldX, BldX2, BldX3. -/
import Derived.Lib.FrozenHead2
import Derived.Lib.OthersKept
import Derived.Lib.Slices
import Derived.Lib.Walk
import Derived.Laws.Externs
import Derived.Shelf.RegionOpenPlain
import Derived.Test.YthjapabokcajhaaGreatDoorPf05
namespace Go.Proofs.YthjapabokcajhaaGreatDoor
open Go Go.RowKit
set_option maxRecDepth 100000
set_option maxHeartbeats 1000000
structure q0j(B b:Nat)(w w':World):Prop where
 os:w'.os=w.os
 tape:w'.tape=w.tape
 output:w'.output=w.output
 size:w.heap.size<=w'.heap.size
 block:∀k,k<B->k≠b->w'.heap[k]?=w.heap[k]?
section
variable {B b:Nat} {w w' a:World}
theorem q0j.refl(B b:Nat)(w:World):q0j B b w w:=⟨rfl,rfl,rfl,Nat.le_refl _,fun _ _ _=>rfl⟩
theorem q0j.trans{c:World}(h:q0j B b a w)(k:q0j B b w c):q0j B b a c:=
 ⟨k.os.trans h.os,k.tape.trans h.tape,k.output.trans h.output,Nat.le_trans h.size k.size,fun i hi hb=>(k.block i hi hb).trans (h.block i hi hb)⟩
theorem q0j.drew(h:q0j B b a w):q0j B b a w.drew:=⟨h.os,h.tape,h.output,h.size,h.block⟩
theorem q0j.of(h:Below B w w'):q0j B b w w':=⟨h.os,h.tape,h.output,h.size,fun k hk _=>h.block k hk⟩
theorem q0j.below(h:q0j B b w w')(hB:B<=b):Below B w w':=⟨h.os,h.tape,h.output,h.size,fun k hk=>h.block k hk (by omega)⟩
theorem q0j.mono{B':Nat}(h:q0j B b w w')(hB:B'<=B):q0j B' b w w':=⟨h.os,h.tape,h.output,h.size,fun k hk=>h.block k (by omega)⟩
theorem q0j.alloc(h:q0j B b a w)(hB:B<=w.heap.size)(o:Obj):q0j B b a (w.alloc o):=
 h.trans (.of ((Below.refl B w).alloc hB o))
theorem q0j.setCell(h:q0j B b a w){p:Addr}(hp:p.block=b\/B<=p.block)(u:Value):q0j B b a (w.setCell p u):=
 h.trans ⟨rfl,rfl,rfl,by simp[World.setCell],fun k hk hb=>Below.heap_setCell _ _ _ _ (by omega)⟩
theorem q0j.grown{row:Option Nat}(h:q0j B b a w)(hg:w.grownBy w' row)(hB:B<=w.heap.size)(hr:∀k,row=some k->B<=k):q0j B b a w':=
 h.trans ⟨hg.os,hg.tape,hg.output,hg.size,fun k hk _=>hg.block k (by omega) (fun e=>by have:=hr k e.symm;omega)⟩
theorem q0j.cell(h:q0j B b w w'){p:Addr}(hp:p.block<B)(hb:p.block≠b):w'.cell? p=w.cell? p:=World.cell?_of_block (w:=w) (h.block p.block hp hb)
end
def XAt(T:TypeId)(B b:Nat)(p:Value)(bs R:List Value)(w:World):Prop:=
 ∃v,w.heap[b]?=some (.cells (p::v::R).toArray T (0,0))/\w.ownsRowF B 5 1 v bs.length bs/\v.ownBlock≠some b/\(bs=[]->v=.slice none 0 0)
def IsX(T:TypeId)(B b:Nat)(bs R:List Value)(w:World):Prop:=
 XAt T B b (.pointer none) bs R w\/XAt T B b (.pointer (some ⟨b,0,none⟩)) bs R w
section
variable {T:TypeId} {B b:Nat} {p:Value} {bs R:List Value} {w:World}
theorem XAt.cell0(h:XAt T B b p bs R w):w.cell? ⟨b,0,none⟩=some p:=by
 obtain⟨v,hb,_⟩:=h;simp[World.cell?,hb]
theorem XAt.cellR(h:XAt T B b p bs R w)(i:Nat):w.cell? ⟨b,i+2,none⟩=R[i]?:=by
 obtain⟨v,hb,_⟩:=h;simp[World.cell?,hb]
theorem XAt.shape(h:XAt T B b p bs R w):w.shape? b=some (T,R.length+2):=by
 obtain⟨v,hb,_⟩:=h;simp[World.shape?,hb]
theorem XAt.lt(h:XAt T B b p bs R w):b<w.heap.size:=by
 obtain⟨v,hb,_⟩:=h;rcases Nat.lt_or_ge b w.heap.size with h'|h'
 ·exact h'
 ·simp[Array.getElem?_eq_none h']at hb
theorem XAt.used(h:XAt T B b p bs R w)(q:Value):XAt T B b q bs R (w.setCell ⟨b,0,none⟩ q):=by
 obtain⟨v,hb,hown,hne,h0⟩:=h;refine⟨v,?_,?_,hne,h0⟩
 ·simp[World.setCell,Array.getElem?_modify,hb]
 ·exact hown.kept (row:=some b) ⟨rfl,rfl,rfl,by simp[World.setCell],fun k _ hk=>Below.heap_setCell _ _ _ _ (fun e=>hk (by simp[e]))⟩ (Or.inr hne)
theorem XAt.stored(h:XAt T B b p bs R w)(i:Nat)(q:Value):XAt T B b p bs (R.set i q) (w.setCell ⟨b,i+2,none⟩ q):=by
 obtain⟨v,hb,hown,hne,h0⟩:=h;refine⟨v,?_,?_,hne,h0⟩
 ·simp[World.setCell,Array.getElem?_modify,hb]
 ·exact hown.kept (row:=some b) ⟨rfl,rfl,rfl,by simp[World.setCell],fun k _ hk=>Below.heap_setCell _ _ _ _ (fun e=>hk (by simp[e]))⟩ (Or.inr hne)
theorem XAt.frozen(h:XAt T B b p bs R w)(i:Nat):w.frozen? ⟨b,i,none⟩=false:=by
 obtain⟨v,hb,_⟩:=h;simp[World.frozen?,hb]
theorem XAt.put{v v':Value}{bs':List Value}(hb:w.heap[b]?=some (.cells (p::v::R).toArray T (0,0)))(hown:w.ownsRowF B 5 1 v' bs'.length bs')(hTe:T≠5)(h0:bs'=[]->v'=.slice none 0 0):
  XAt T B b p bs' R (w.setCell ⟨b,1,none⟩ v'):=by
 have hne:=Lib.ownBlock_neF hown hb hTe;refine⟨v',?_,?_,hne,h0⟩
 ·simp[World.setCell,Array.getElem?_modify,hb]
 ·exact hown.kept (row:=some b) ⟨rfl,rfl,rfl,by simp[World.setCell],fun k _ hk=>Below.heap_setCell _ _ _ _ (fun e=>hk (by simp[e]))⟩ (Or.inr hne)
theorem XAt.alloc(h:XAt T B b p bs R w)(o:Obj):XAt T B b p bs R (w.alloc o):=by
 have hlt:=h.lt;obtain⟨v,hb,hown,hne,h0⟩:=h;exact⟨v,(Lib.alloc_old w o b hlt).trans hb,hown.kept (World.grownBy_alloc w o none) (by cases hv:v.ownBlock<;>simp),hne,h0⟩
theorem XAt.far{b':Nat}{w':World}{c:Array Value}{t:TypeId}{fz:Nat × Nat}(h:XAt T B b p bs R w)(hx:q0j w.heap.size b' w w')(hbb:b≠b')(hb':w.heap[b']?=some (.cells c t fz))(ht:t≠5):XAt T B b p bs R w':=by
 have hlt:=h.lt;obtain⟨v,hb,hown,hne,h0⟩:=h;refine⟨v,(hx.block b hlt hbb).trans hb,hown.kept (row:=some b') ⟨hx.os,hx.tape,hx.output,hx.size,fun k hk hkb=>hx.block k hk (fun e=>hkb (by rw[e]))⟩ (Or.inr ?_),hne,h0⟩;exact Lib.ownBlock_neF hown hb' ht
theorem IsX.at(h:IsX T B b bs R w):∃p,XAt T B b p bs R w:=by
 rcases h with h|h
 ·exact⟨_,h⟩
 ·exact⟨_,h⟩
theorem IsX.lt(h:IsX T B b bs R w):b<w.heap.size:=h.at.elim fun _ h=>h.lt
theorem IsX.cellR(h:IsX T B b bs R w)(i:Nat):w.cell? ⟨b,i+2,none⟩=R[i]?:=h.at.elim fun _ h=>h.cellR i
theorem IsX.frozen(h:IsX T B b bs R w)(i:Nat):w.frozen? ⟨b,i,none⟩=false:=h.at.elim fun _ h=>h.frozen i
theorem IsX.alloc(h:IsX T B b bs R w)(o:Obj):IsX T B b bs R (w.alloc o):=h.imp (·.alloc o) (·.alloc o)
theorem IsX.stored(h:IsX T B b bs R w)(i:Nat)(q:Value):IsX T B b bs (R.set i q) (w.setCell ⟨b,i+2,none⟩ q):=h.imp (·.stored i q) (·.stored i q)
theorem IsX.drew(h:IsX T B b bs R w):IsX T B b bs R w.drew:=h
theorem IsX.far{b':Nat}{w':World}{c:Array Value}{t:TypeId}{fz:Nat × Nat}(h:IsX T B b bs R w)(hx:q0j w.heap.size b' w w')(hbb:b≠b')(hb':w.heap[b']?=some (.cells c t fz))(ht:t≠5):IsX T B b bs R w':=h.imp (·.far hx hbb hb' ht) (·.far hx hbb hb' ht)
theorem IsX.fresh(T:TypeId)(w:World)(R:List Value):IsX T w.heap.size w.heap.size [] R (w.alloc (.cells (.pointer none::.slice none 0 0::R).toArray T)):=
 Or.inl ⟨.slice none 0 0,heap_alloc_new w _,World.ownsRowF_nil _ _ _ _,by simp[Value.ownBlock],fun _=>rfl⟩
theorem IsX.unused(T:TypeId)(B b:Nat)(w:World)(R:List Value)(h:w.heap[b]?=some (.cells (.pointer none::.slice none 0 0::R).toArray T (0,0))):IsX T B b [] R w:=
 Or.inl ⟨.slice none 0 0,h,World.ownsRowF_nil _ _ _ _,by simp[Value.ownBlock],fun _=>rfl⟩
end
theorem j2f:(Tryz.prog.info? 5).map (fun i=>(i.zero,i.size,i.bytes))=some (some (.int .u8 0),1,1):=by kernel_rfl
theorem j4b:Tryz.prog.cellsOf 5=1:=by kernel_rfl
theorem j2j:(Tryz.prog.info? 81).map (·.size)=some 2:=by kernel_rfl
theorem z7n(b:Nat)(w:World)(h0:w.cell? ⟨b,0,none⟩=some (.pointer (some ⟨b,0,none⟩))):
  Calls Tryz.prog 75 #[.pointer (some ⟨b,0,none⟩)] w fun e w'=>e=.returned (.tuple #[])/\w'=w:=by
 obtain⟨j,hj,_⟩:=Option.map_eq_some_iff.1 j2j;go_in;go_wp2;rw[Lib.run_neq_ptr_same w _ Tryz.underlying78 hj];go_wp2
 go_end0
 exact⟨rfl,rfl⟩
theorem z5r(T n b:Nat)(w:World)(hl:liesAt Tryz.prog Tryz.prog.depth T (n / Tryz.prog.cellsOf T) 0 81 1=true)(h0:w.cell? ⟨b,0,none⟩=some (.pointer none))(hsh:w.shape? b=some (T,n))(hn:0<n)(hfz:w.frozen? ⟨b,0,none⟩=false):
  Calls Tryz.prog 75 #[.pointer (some ⟨b,0,none⟩)] w fun e w'=>e=.returned (.tuple #[])/\w'=w.setCell ⟨b,0,none⟩ (.pointer (some ⟨b,0,none⟩)):=by
 obtain⟨j,hj,hjs⟩:=Option.map_eq_some_iff.1 j2j;have HL:Hid (liesAt Tryz.prog Tryz.prog.depth T (n / Tryz.prog.cellsOf T) 0 81 1=true):=hl;have HS:Hid (w.shape? b=some (T,n)):=hsh;have HJ:Hid (j.size≠0):=(show j.size≠0 by rw[hjs];decide);clear hl hsh hjs;go_in;go_wp2;rw[Lib.run_to_unsafe w ⟨b,0,none⟩ Tryz.underlying78 Tryz.underlying178 hj HJ.out HS.out hn];simp only[Result.andThen];rw[Oper.upon_value];go_wp2;rw[run_callFunc_extern Tryz.func117 (by kernel_rfl) (by kernel_rfl) (by kernel_rfl) (e:=Extern.AbiNoEscape.same) (by kernel_rfl)];rw[Lib.run_noEscape];simp only[Result.andThen];rw[Oper.upon_value];go_wp2;rw[Lib.run_from_unsafe w ⟨b,0,none⟩ Tryz.underlying178 Tryz.underlying78 hj HS.out HL.out];simp only[Result.andThen];rw[Oper.upon_value];go_wp2
 go_end0
 exact⟨rfl,rfl⟩
def q8v(T n:Nat):Prop:=liesAt Tryz.prog Tryz.prog.depth T (n / Tryz.prog.cellsOf T) 0 81 1=true
theorem q8f(T B b:Nat)(bs R:List Value)(w:World)(hl:q8v T (R.length+2))(h:IsX T B b bs R w):
  Calls Tryz.prog 75 #[.pointer (some ⟨b,0,none⟩)] w fun e w'=>e=.returned (.tuple #[])/\(XAt T B b (.pointer (some ⟨b,0,none⟩)) bs R w'/\q0j B b w w'/\Lib.OthersKept 5 (some b) w w'):=by
 rcases h with h|h
 ·refine(z5r T (R.length+2) b w hl h.cell0 h.shape (by omega) (h.frozen 0)).mono ?_;rintro e w'⟨rfl,rfl⟩;exact⟨rfl,h.used _,(q0j.refl B b w).setCell (p:=⟨b,0,none⟩) (.inl rfl) _,(Lib.OthersKept.refl _ _ w).setCell ⟨b,0,none⟩ rfl _⟩
 ·refine(z7n b w h.cell0).mono ?_;rintro e w'⟨rfl,rfl⟩;exact⟨rfl,h,q0j.refl B b _,Lib.OthersKept.refl _ _ _⟩
end Go.Proofs.YthjapabokcajhaaGreatDoor
namespace Go.Proofs.YthjapabokcajhaaGreatDoor
open Go Go.RowKit
set_option maxRecDepth 100000
set_option maxHeartbeats 2000000
theorem z5q(T B b:Nat)(bs R:List Value)(c:Int)(w:World)(hl:q8v T (R.length+2))(hT:T≠5)(h:IsX T B b bs R w)(hlen:bs.length+1<=140737488355328)(hBw:B<=w.heap.size):
  Calls Tryz.prog 45 #[.pointer (some ⟨b,0,none⟩),.int .u8 c] w fun e w'=>e=.returned .nilIface/\(IsX T B b (bs++[.int .u8 c]) R w'/\q0j B b w w'/\Lib.OthersKept 5 (some b) w w'):=by
 obtain⟨i0,hi,hz0,hz1,hz2⟩:=info_parts j2f;have HL:Hid (q8v T (R.length+2)):=hl;have HT:Hid (T≠5):=hT;have H:Hid (IsX T B b bs R w):=h;clear hl hT h;go_in;go_wp2_with(go_at_call 75;refine(q8f T B b bs R _ HL.out H.out).mono ?_);rintro e w1⟨rfl,h1,hb1,hk1⟩;obtain⟨v,hbk,hown,hne,_⟩:=h1;have c0:w1.cell? ⟨b,0,none⟩=some (.pointer (some ⟨b,0,none⟩)):=by rw[Lib.cell_of_heap hbk];rfl
 have c1:w1.cell? ⟨b,1,none⟩=some v:=by rw[Lib.cell_of_heap hbk];rfl
 go_wp2_with(at_builtin;refine wpList_append_ownF _ rfl _ _ 79 rfl B 5 i0 (.int .u8 0) 1 1 Tryz.underlying79 hi hz0 hz1 hz2 rfl (by decide) _ _ _ rfl (hown.alloc _) ⟨w1.heap.size,0,none⟩ 1 1 [.int .u8 c] rfl rfl ?c1 ?c2 ?c3 ?c4 ?c5 ?_)
 case c1=>
  intro j u hj
  match j,hj with
  | 0,hj=>simp at hj;subst hj;simp[Addr.add]
 case c2=>intro u hu;simp at hu;subst hu;rfl
 case c3=>unfold maxLen;omega
 case c4=>omega
 case c5=>have:=hb1.size;simp;omega
 intro v' w2 hown' hgrow _
 have hlt:b<w1.heap.size:=by
  rcases Nat.lt_or_ge b w1.heap.size with h'|h'
  ·exact h'
  ·simp[Array.getElem?_eq_none h']at hbk
 have hb2:w2.heap[b]?=some (.cells (.pointer (some ⟨b,0,none⟩)::v::R).toArray T (0,0)):=by
  rw[hgrow.block b (by simp;omega) (fun e=>hne e.symm),Lib.alloc_old w1 _ b hlt];exact hbk
 have d0:w2.cell? ⟨b,0,none⟩=some (.pointer (some ⟨b,0,none⟩)):=by rw[Lib.cell_of_heap hb2];rfl
 have d1:w2.cell? ⟨b,1,none⟩=some v:=by rw[Lib.cell_of_heap hb2];rfl
 have f1:w2.frozen? ⟨b,1,none⟩=false:=Lib.frozen_of_heap hb2 1
 obtain⟨g,cap,rfl⟩:∃g cap,v'=.slice (some ⟨g,0,none⟩) (bs.length+1) cap:=by
  rcases hown'.2 with⟨_,h0⟩|⟨g,cap,cur,fz,hv,_⟩
  ·omega
  ·exact⟨g,cap,hv⟩
 go_wp2;go_ret;refine⟨rfl,.inr ?_,?_,((hk1.alloc _).grown hgrow (Lib.ownsRowF_kind (hown.alloc _))).setCell ⟨b,1,none⟩ rfl _⟩
 ·exact XAt.put hb2 (bs':=bs++[.int .u8 c]) (by simpa using hown') HT.out (fun h=>by simp at h)
 ·exact((hb1.alloc (by have:=hb1.size;omega) _).grown hgrow (by have:=hb1.size;simp;omega) (fun k hk=>(hown.lt k hk).1)).setCell (p:=⟨b,1,none⟩) (.inl rfl) _
theorem z0f(T B b:Nat)(bs R:List Value)(s:ByteArray)(w:World)(hl:q8v T (R.length+2))(hT:T≠5)(h:IsX T B b bs R w)(hlen:bs.length+s.size<=140737488355328)(hBw:B<=w.heap.size):
  Calls Tryz.prog 38 #[.pointer (some ⟨b,0,none⟩),.string s] w fun e w'=>e=.returned (.tuple #[.int .i64 s.size,.nilIface])/\(IsX T B b (bs++Lib.strCells s) R w'/\q0j B b w w'/\Lib.OthersKept 5 (some b) w w'):=by
 obtain⟨i0,hi,hz0,hz1,hz2⟩:=info_parts j2f;have HL:Hid (q8v T (R.length+2)):=hl;have HT:Hid (T≠5):=hT;have H:Hid (IsX T B b bs R w):=h;clear hl hT h;go_in;go_wp2_with(go_at_call 75;refine(q8f T B b bs R _ HL.out H.out).mono ?_);rintro e w1⟨rfl,h1,hb1,hk1⟩;obtain⟨v,hbk,hown,hne,h0⟩:=h1;have H0:Hid (bs=[]->v=.slice none 0 0):=h0;clear h0;have c0:w1.cell? ⟨b,0,none⟩=some (.pointer (some ⟨b,0,none⟩)):=by rw[Lib.cell_of_heap hbk];rfl
 have c1:w1.cell? ⟨b,1,none⟩=some v:=by rw[Lib.cell_of_heap hbk];rfl
 go_wp2_with(at_builtin;refine Lib.wpList_append_own_stringF _ rfl _ _ 79 9 rfl B 5 i0 Tryz.underlying79 Tryz.underlying9 hi hz0 hz1 hz2 _ _ _ rfl hown s rfl ?c3 ?c4 ?c5 ?_)
 case c3=>unfold maxLen;omega
 case c4=>omega
 case c5=>have:=hb1.size;omega
 intro v' w2 hown' hgrow hnil;have HZ:Hid (v'=.slice none 0 0↔v=.slice none 0 0/\s.size=0):=(show _↔_ by simpa using hnil);clear hnil
 have hlt:b<w1.heap.size:=by
  rcases Nat.lt_or_ge b w1.heap.size with h'|h'
  ·exact h'
  ·simp[Array.getElem?_eq_none h']at hbk
 have hb2:w2.heap[b]?=some (.cells (.pointer (some ⟨b,0,none⟩)::v::R).toArray T (0,0)):=by
  rw[hgrow.block b hlt (fun e=>hne e.symm)];exact hbk
 have d0:w2.cell? ⟨b,0,none⟩=some (.pointer (some ⟨b,0,none⟩)):=by rw[Lib.cell_of_heap hb2];rfl
 have d1:w2.cell? ⟨b,1,none⟩=some v:=by rw[Lib.cell_of_heap hb2];rfl
 have f1:w2.frozen? ⟨b,1,none⟩=false:=Lib.frozen_of_heap hb2 1
 obtain⟨ao,n',cap,rfl⟩:∃ao n' cap,v'=.slice ao n' cap:=by
  rcases hown'.2 with⟨hv,_⟩|⟨g,cap,cur,fz,hv,_⟩
  ·exact⟨_,_,_,hv⟩
  ·exact⟨_,_,_,hv⟩
 go_wp2;go_ret2;refine⟨rfl,.inr ?_,?_,(hk1.grown hgrow (Lib.ownsRowF_kind hown)).setCell ⟨b,1,none⟩ rfl _⟩
 ·refine XAt.put hb2 (bs':=bs++Lib.strCells s) (by simpa[Lib.strCells_length]using hown') HT.out (fun h=>?_);obtain⟨h1,h2⟩:=List.append_eq_nil_iff.1 h;refine HZ.out.2 ⟨H0.out h1,?_⟩;rw[<-Lib.strCells_length,h2];rfl
 ·exact(hb1.grown hgrow (by have:=hb1.size;omega) (fun k hk=>(hown.lt k hk).1)).setCell (p:=⟨b,1,none⟩) (.inl rfl) _
end Go.Proofs.YthjapabokcajhaaGreatDoor
namespace Go.Proofs.YthjapabokcajhaaGreatDoor
open Go Go.RowKit
set_option maxRecDepth 100000
set_option maxHeartbeats 2000000
theorem k8n(T B b:Nat)(l:List UInt8)(R:List Value)(w:World)(h:IsX T B b (Lib.byteCells l) R w)(h0:l≠[]):
  Calls Tryz.prog 39 #[.pointer (some ⟨b,0,none⟩)] w fun e w'=>e=.returned (.string ⟨l.toArray⟩)/\Below B w w':=by
 obtain⟨p,hAt⟩:=h.at;obtain⟨v,hbk,hown,hne,_⟩:=hAt;have hl0:l.length≠0:=by simpa using h0
 rw[Lib.byteCells_length]at hown
 obtain⟨g,cap,cur,fz,rfl,hbg,hg,hfz,hnc,hcm,hcs,htake⟩:∃g cap cur fz,v=.slice (some ⟨g,0,none⟩) l.length cap/\B<=g/\w.heap[g]?=some (.cells cur 5 fz)/\fz.2<=l.length*1/\l.length<=cap/\cap<=maxLen/\cur.size=cap*1/\cur.toList.take (l.length*1)=Lib.byteCells l:=by
  rcases hown.2 with⟨_,hz⟩|⟨g,cap,cur,fz,hv,r⟩
  ·exact absurd hz hl0
  ·exact⟨g,cap,cur,fz,hv,r⟩
 have c1:w.drew.cell? ⟨b,1,none⟩=some (.slice (some ⟨g,0,none⟩) l.length cap):=by
  have:w.drew.heap[b]?=some (.cells (p::.slice (some ⟨g,0,none⟩) l.length cap::R).toArray T (0,0)):=hbk
  rw[Lib.cell_of_heap this];rfl
 have hSD:(Builtin.unsafeSliceData_ #[79] 130 #[.slice (some ⟨g,0,none⟩) l.length cap]).run Tryz.prog w.drew=.ok (.pointer (some ⟨g,0,none⟩)) w.drew:=
  Lib.run_unsafeSliceData_row _ _ _ _ _ _ (by omega)
 have hUS:(Builtin.unsafeString_ #[130,3] 9 #[.pointer (some ⟨g,0,none⟩),.int .i64 l.length]).run Tryz.prog w.drew=.ok (.string ⟨l.toArray⟩) (w.drew.freeze ⟨g,0,none⟩ l.length):=by
  refine Lib.run_unsafeString_row w.drew 130 3 9 5 Tryz.underlying130 j4b g cur.size (by have hg':w.drew.heap[g]?=some (.cells cur 5 fz):=hg;simp[World.shape?,hg']) l h0 (by omega) (by unfold maxLen at hcm;omega) ?_;intro j x hx
  have:=hown.cells (g:=g) rfl j (.int .u8 x.toNat) (by simp[Lib.byteCells,hx])
  exact this
 go_in;go_wp2
 go_region
 all_goals (go_wp2;go_ret;exact⟨rfl,Lib.below_freeze (Below.drew (Below.refl B w)) (p:=⟨g,0,none⟩) hbg _⟩)
theorem k8m(T B b:Nat)(R:List Value)(w:World)(h:IsX T B b [] R w):
  Calls Tryz.prog 39 #[.pointer (some ⟨b,0,none⟩)] w fun e w'=>e=.returned (.string ⟨#[]⟩)/\Below B w w':=by
 obtain⟨p,hAt⟩:=h.at;obtain⟨v,hbk,hown,hne,hv⟩:=hAt;obtain rfl:=hv rfl;clear hown hne hv;have hUS:∀(W:World)(q:Option Addr),(Builtin.unsafeString_ #[130,3] 9 #[.pointer q,.int .i64 0]).run Tryz.prog W=.ok (.string .empty) W:=fun W q=>Lib.run_unsafeString_none W _ _ _ q
 have c1:w.drew.cell? ⟨b,1,none⟩=some (.slice none 0 0):=by
  have:w.drew.heap[b]?=some (.cells (p::.slice none 0 0::R).toArray T (0,0)):=hbk
  rw[Lib.cell_of_heap this];rfl
 have hSD:(Builtin.unsafeSliceData_ #[79] 130 #[.slice none 0 0]).run Tryz.prog w.drew=.ok (.pointer none) w.drew:=rfl;go_in;go_wp2
 go_region
 all_goals (go_wp2;go_ret;exact⟨rfl,Below.drew (Below.refl B w)⟩)
theorem z9o(T B b:Nat)(l:List UInt8)(R:List Value)(w:World)(h:IsX T B b (Lib.byteCells l) R w):
  Calls Tryz.prog 39 #[.pointer (some ⟨b,0,none⟩)] w fun e w'=>e=.returned (.string ⟨l.toArray⟩)/\Below B w w':=by
 by_cases h0:l=[]
 ·subst h0;exact k8m T B b R w h
 ·exact k8n T B b l R w h h0
end Go.Proofs.YthjapabokcajhaaGreatDoor
