import Derived.Test.YthcpdohdppkmkaaGreatDoorPu22
import Derived.Test.YthcpdohdppkmkaaGreatDoorRep
import Derived.Deep.QuietTactic
open Go.Proofs.Tryz
namespace Go.Proofs.YthcpdohdppkmkaaGreatDoor
open Go Go.RowKit
set_option maxRecDepth 100000
set_option maxHeartbeats 4000000
theorem q4j(z:Value)(n:Nat):(madeCells #[z] n).size=n:=by simp[madeCells]
theorem q2d(w:World)(O0 O1 O2 O3:Obj):((((w.alloc O0).alloc O1).alloc O2).alloc O3).drew.heap[w.heap.size]?=some O0/\((((w.alloc O0).alloc O1).alloc O2).alloc O3).drew.heap[w.heap.size+1]?=some O1
  /\((((w.alloc O0).alloc O1).alloc O2).alloc O3).drew.heap[w.heap.size+1+1]?=some O2/\((((w.alloc O0).alloc O1).alloc O2).alloc O3).drew.heap[w.heap.size+1+1+1]?=some O3:=by
 have s1:(w.alloc O0).heap.size=w.heap.size+1:=by simp
 have s2:((w.alloc O0).alloc O1).heap.size=w.heap.size+1+1:=by simp
 have s3:(((w.alloc O0).alloc O1).alloc O2).heap.size=w.heap.size+1+1+1:=by simp
 have n0:=heap_alloc_new w O0;have n1:=heap_alloc_new (w.alloc O0) O1;have n2:=heap_alloc_new ((w.alloc O0).alloc O1) O2;have n3:=heap_alloc_new (((w.alloc O0).alloc O1).alloc O2) O3;rw[s1]at n1;rw[s2]at n2;rw[s3]at n3;refine⟨?_,?_,?_,n3⟩
 ·exact(Below.heap_alloc _ _ _ (by omega)).trans ((Below.heap_alloc _ _ _ (by omega)).trans ((Below.heap_alloc _ _ _ (by omega)).trans n0))
 ·exact(Below.heap_alloc _ _ _ (by omega)).trans ((Below.heap_alloc _ _ _ (by omega)).trans n1)
 ·exact(Below.heap_alloc _ _ _ (by omega)).trans n2
theorem z1y(w:World)(O0 O1 O2 O3:Obj):Below w w ((((w.alloc O0).alloc O1).alloc O2).alloc O3).drew:=
 Below.drew (((((Below.refl _ w).alloc Zl _).alloc (by simp) _).alloc (by simp;omega) _).alloc (by simp;omega) _)
theorem q8t{w W:World}{s bp be bf cap:Nat}{a:Option Addr}{ds:List Nd}(hs:s<w.heap.size)(hN:q0x s w a ds)(bw:Below w w W)(rb:W.heap[w.heap.size]?=some (.cells #[.slice none 0 0,.slice none 0 0,.slice none 0 0] 133 (0,0)))
  (hp:W.heap[bp]?=some (.cells #[.slice a ds.length cap,.slice (some ⟨be,0,none⟩) ds.length ds.length,.slice (some ⟨bf,0,none⟩) ds.length ds.length] 133 (0,0))) {ce cf:Array Value} {Te Tf:TypeId} (he:W.heap[be]?=some (.cells ce Te (0,0))) (hce:ce.size=ds.length) (hf:W.heap[bf]?=some (.cells cf Tf (0,0))) (hcf:cf.size=ds.length)
  (b1:w.heap.size<=bp) (b2:w.heap.size+1<=be) (b3:w.heap.size+1<=bf) (n1:bp≠be) (n2:bp≠bf) (n3:be≠bf):z8m w s bp be bf a cap ds W where
 b1:=b1
 b2:=b2
 b3:=b3
 n1:=n1
 n2:=n2
 n3:=n3
 c0:=by simp[World.cell?,hp]
 c1:=by simp[World.cell?,hp]
 c2:=by simp[World.cell?,hp]
 re:=⟨ce,Te,he,hce⟩
 rf:=⟨cf,Tf,hf,hcf⟩
 rb:=rb
 bw:=bw
 nd:=hN.kept (bw.block s hs)
theorem k6u(ds:List Nd)(a:Option Addr)(cap s:Nat)(w:World)(h0:q3a ds=0)(hN:q0x s w a ds)(hs:s<w.heap.size):
  Calls prog 69 #[.slice a ds.length cap] w fun e w'=>(∃be bf,e=.returned (.agg #[.slice a ds.length cap,.slice (some ⟨be,0,none⟩) ds.length ds.length,.slice (some ⟨bf,0,none⟩) ds.length ds.length])/\be<w'.heap.size/\bf<w'.heap.size/\q8y w' be bf ds 0)/\Below w w w':=by
 obtain⟨hl,hn0,he⟩:=q4c h0
 have hm1:∀W:World,(Instr.makeSlice 43 (.int .i64 (ds.length:Int)) (.int .i64 (ds.length:Int))).run prog W=.ok (.slice (some ⟨W,0,none⟩) ds.length ds.length) (W.alloc (.cells (madeCells #[.int .i64 0] ds.length) 3)):=fun W=>
  run_make_row' 43 3 _ 8 Tryz.underlying43 j8u rfl .i64 .i64 ds.length (by omega) (by omega) W
 have hm2:∀W:World,(Instr.makeSlice 131 (.int .i64 (ds.length:Int)) (.int .i64 (ds.length:Int))).run prog W=.ok (.slice (some ⟨W,0,none⟩) ds.length ds.length) (W.alloc (.cells (madeCells #[.bool false] ds.length) 4)):=fun W=>
  run_make_row' 131 4 _ 1 Tryz.underlying131 v5i rfl .i64 .i64 ds.length (by omega) (by omega) W
 have HN0:Hid (∀x∈ds,q0u x=0):=hn0;have HE0:Hid (q1r ds 0 1=some ds.length):=he;have HN:Hid (q0x s w a ds):=hN;clear h0 hN hn0 he;go_in
 go_upto_region 1 with fail
 go_cut [0,2,3] (fun s0 s2 s3 wx=>s0=.slice a ds.length cap/\s2=.pointer (some ⟨w,0,none⟩)/\∃bp be bf,s3=.pointer (some ⟨bp,0,none⟩)/\z8m w s bp be bf a cap ds wx)
 case first=>
  go_region_held3 (fun _=>True) (trivial) (fail)
  all_goals (go_wp2)
  all_goals
   go_meet
   first
    | exact⟨rfl,rfl,w.heap.size+1+1+1,w.heap.size+1,w.heap.size+1+1,rfl,q8t hs HN.o (z1y w _ _ _ _) (q2d w _ _ _ _).1 (q2d w _ _ _ _).2.2.2 (q2d w _ _ _ _).2.1 (q4j _ _) (q2d w _ _ _ _).2.2.1 (q4j _ _) (by omega) (by omega) (by omega) (by omega) (by omega) (by omega)⟩
    | exact⟨rfl,rfl,w.heap.size+1+1,w.heap.size+1,w.heap.size+1+1+1,rfl,q8t hs HN.o (z1y w _ _ _ _) (q2d w _ _ _ _).1 (q2d w _ _ _ _).2.2.1 (q2d w _ _ _ _).2.1 (q4j _ _) (q2d w _ _ _ _).2.2.2 (q4j _ _) (by omega) (by omega) (by omega) (by omega) (by omega) (by omega)⟩
    | exact⟨rfl,rfl,w.heap.size+1+1+1,w.heap.size+1+1,w.heap.size+1,rfl,q8t hs HN.o (z1y w _ _ _ _) (q2d w _ _ _ _).1 (q2d w _ _ _ _).2.2.2 (q2d w _ _ _ _).2.2.1 (q4j _ _) (q2d w _ _ _ _).2.1 (q4j _ _) (by omega) (by omega) (by omega) (by omega) (by omega) (by omega)⟩
    | exact⟨rfl,rfl,w.heap.size+1,w.heap.size+1+1,w.heap.size+1+1+1,rfl,q8t hs HN.o (z1y w _ _ _ _) (q2d w _ _ _ _).1 (q2d w _ _ _ _).2.1 (q2d w _ _ _ _).2.2.1 (q4j _ _) (q2d w _ _ _ _).2.2.2 (q4j _ _) (by omega) (by omega) (by omega) (by omega) (by omega) (by omega)⟩
    | exact⟨rfl,rfl,w.heap.size+1+1,w.heap.size+1+1+1,w.heap.size+1,rfl,q8t hs HN.o (z1y w _ _ _ _) (q2d w _ _ _ _).1 (q2d w _ _ _ _).2.2.1 (q2d w _ _ _ _).2.2.2 (q4j _ _) (q2d w _ _ _ _).2.1 (q4j _ _) (by omega) (by omega) (by omega) (by omega) (by omega) (by omega)⟩
    | exact⟨rfl,rfl,w.heap.size+1,w.heap.size+1+1+1,w.heap.size+1+1,rfl,q8t hs HN.o (z1y w _ _ _ _) (q2d w _ _ _ _).1 (q2d w _ _ _ _).2.1 (q2d w _ _ _ _).2.2.2 (q4j _ _) (q2d w _ _ _ _).2.2.1 (q4j _ _) (by omega) (by omega) (by omega) (by omega) (by omega) (by omega)⟩
 case rest=>
  obtain⟨rfl,rfl,bp,be,bf,rfl,hP⟩:=hcut;have HP:Hid (z8m w s bp be bf a cap ds wc):=hP;clear hP;go_wp2
  go_loopw [4] (fun i wr=>z8m w s bp be bf a cap ds wr/\∃k:Nat,k<=ds.length/\i=.int .i64 ((k:Int)-1)/\q8y wr be bf ds k) (fun i _=>(intOf i+1).toNat)
  case atStart=>exact⟨HP.o,ds.length,Nat.le_refl _,by go_num,q8y.end⟩
  case round=>
   obtain⟨hp,k,hk,rfl,hK⟩:=hrel;have HR:Hid (z8m w s bp be bf a cap ds wr):=hp;have HK:Hid (q8y wr be bf ds k):=hK;clear hp hK;by_cases hk0:k=0
   ·subst hk0;have hneg:¬((0:Int)<=((0:Nat):Int)-1):=by omega
    have c0:=HR.o.c0;have c1:=HR.o.c1;have c2:=HR.o.c2;have rb:=HR.o.rb;have r0:wr.cell? ⟨w,0,none⟩=some (.slice none 0 0):=by simp[World.cell?,rb]
    have r1:wr.cell? ⟨w,1,none⟩=some (.slice none 0 0):=by simp[World.cell?,rb]
    have r2:wr.cell? ⟨w,2,none⟩=some (.slice none 0 0):=by simp[World.cell?,rb]
    have f0:wr.frozen? ⟨w,0,none⟩=false:=by simp[World.frozen?,rb]
    have f1:wr.frozen? ⟨w,1,none⟩=false:=by simp[World.frozen?,rb]
    have f2:wr.frozen? ⟨w,2,none⟩=false:=by simp[World.frozen?,rb]
    clear rb;go_wp2;refine bodyPost_ret (v:=.agg #[.slice a ds.length cap,.slice (some ⟨be,0,none⟩) ds.length ds.length,.slice (some ⟨bf,0,none⟩) ds.length ds.length]) (by simp[results,Tryz.results69,go_sem,r0,r1,r2]) rfl ?_
    have hb:∀v0 v1 v2,Below w wr (((wr.setCell ⟨w,0,none⟩ v0).setCell ⟨w,1,none⟩ v1).setCell ⟨w,2,none⟩ v2):=fun v0 v1 v2=>
     (((Below.refl _ wr).setCell (p:=⟨w,0,none⟩) Zl _).setCell (p:=⟨w,1,none⟩) Zl _).setCell (p:=⟨w,2,none⟩) Zl _
    have hne:=HR.o.b2;have hnf:=HR.o.b3;have le:=HR.o.re.lt;have lf:=HR.o.rf.lt
    have hk:∀v0 v1 v2 k,k≠w.heap.size->(((wr.setCell ⟨w,0,none⟩ v0).setCell ⟨w,1,none⟩ v1).setCell ⟨w,2,none⟩ v2).heap[k]?=wr.heap[k]?:=fun v0 v1 v2 k hk=>
     (Below.heap_setCell _ _ _ _ hk).trans ((Below.heap_setCell _ _ _ _ hk).trans (Below.heap_setCell _ _ _ _ hk))
    exact⟨⟨be,bf,rfl,Nat.lt_of_lt_of_le le (hb _ _ _).size,Nat.lt_of_lt_of_le lf (hb _ _ _).size,HK.o.kept (hk _ _ _ _ (by omega)) (hk _ _ _ _ (by omega))⟩,HR.o.bw.trans (hb _ _ _)⟩
   ·obtain⟨i,rfl⟩:∃i,k=i+1:=⟨k-1,by omega⟩;have hki:(((i+1:Nat):Int)-1)=(i:Int):=by omega
    rw[hki];obtain⟨j,hj,hj1,hj2⟩:=j7p HE0.o (show i<ds.length by omega);obtain⟨t,ht,hd,_⟩:=v3d HN0.o hj;have HD:Hid (ds.drop i=t.N++ds.drop j):=hd;clear hd hj hki;go_wp2_with fail;refine(j9h bp be bf s cap i ds a t (ds.drop j) _ ht HD.o hl HR.o.nd HR.o.n1 HR.o.n2 HR.o.n3 (by have:=HR.o.b2;omega) (by have:=HR.o.b3;omega) HR.o.c0 HR.o.c1 HR.o.c2 HR.o.re HR.o.rf HK.o).mono ?_;rintro e w2⟨rfl,hp2⟩;obtain⟨y1,e5⟩:=HR.o.re.cell (show i<ds.length by omega);obtain⟨y2,e6⟩:=HR.o.rf.cell (show i<ds.length by omega);have HR2:Hid (z8m w s bp be bf a cap ds w2):=HR.o.put hs hp2;have HK2:Hid (q8y w2 be bf ds i):=HK.o.step ht HD.o HR.o.n3 e5 e6 hp2;clear hp2 e5 e6;go_wp2
    go_roundw
    case rel=>exact⟨HR2.o,i,by omega,by go_num,HK2.o⟩
    case measure=>simp[intOf]
def OAt(T:TypeId)(B b:Nat)(pre:List Value)(p:Value)(bs R:List Value)(w:World):Prop:=
 ∃v,w.heap[b]?=some (.cells (pre++p::v::R).toArray T (0,0))/\w.ownsRowF B 5 1 v bs.length bs/\v.ownBlock≠some b/\(bs=[]->v=.slice none 0 0)
def IsO(T:TypeId)(B b:Nat)(pre bs R:List Value)(w:World):Prop:=
 OAt T B b pre (.pointer none) bs R w\/OAt T B b pre (.pointer (some ⟨b,pre.length,none⟩)) bs R w
section
variable {T:TypeId} {B b:Nat} {p v:Value} {pre bs R:List Value} {w:World}
theorem v8i(hb:w.heap[b]?=some (.cells (pre++p::v::R).toArray T (0,0)))(i:Nat):w.cell? ⟨b,i,none⟩=(pre++p::v::R)[i]?:=by
 simp[World.cell?,hb]
theorem v1b(hb:w.heap[b]?=some (.cells (pre++p::v::R).toArray T (0,0))):w.cell? ⟨b,pre.length,none⟩=some p:=by
 rw[v8i hb,List.getElem?_append_right Zl,Nat.sub_self];rfl
theorem j0t(hb:w.heap[b]?=some (.cells (pre++p::v::R).toArray T (0,0))):w.cell? ⟨b,pre.length+1,none⟩=some v:=by
 rw[v8i hb,List.getElem?_append_right (Nat.le_add_right _ _),Nat.add_sub_cancel_left];rfl
theorem olt(hb:w.heap[b]?=some (.cells (pre++p::v::R).toArray T (0,0))):b<w.heap.size:=by
 rcases Nat.lt_or_ge b w.heap.size with h'|h'
 ·exact h'
 ·simp[Array.getElem?_eq_none h']at hb
theorem OAt.cell0(h:OAt T B b pre p bs R w):w.cell? ⟨b,pre.length,none⟩=some p:=by
 obtain⟨v,hb,_⟩:=h;exact v1b hb
theorem OAt.cellP(h:OAt T B b pre p bs R w)(i:Nat)(hi:i<pre.length):w.cell? ⟨b,i,none⟩=pre[i]?:=by
 obtain⟨v,hb,_⟩:=h;rw[v8i hb,List.getElem?_append_left hi]
theorem OAt.cellR(h:OAt T B b pre p bs R w)(i:Nat):w.cell? ⟨b,pre.length+(i+2),none⟩=R[i]?:=by
 obtain⟨v,hb,_⟩:=h;rw[v8i hb,List.getElem?_append_right (Nat.le_add_right _ _),Nat.add_sub_cancel_left];rfl
theorem OAt.shape(h:OAt T B b pre p bs R w):w.shape? b=some (T,pre.length+(R.length+2)):=by
 obtain⟨v,hb,_⟩:=h;simp[World.shape?,hb]
theorem OAt.lt(h:OAt T B b pre p bs R w):b<w.heap.size:=by
 obtain⟨v,hb,_⟩:=h;exact olt hb
theorem g5r(hb:w.heap[b]?=some (.cells (pre++p::v::R).toArray T (0,0)))(i:Nat)(q:Value):(w.setCell ⟨b,i,none⟩ q).heap[b]?=some (.cells ((pre++p::v::R).set i q).toArray T (0,0)):=by
 simp[World.setCell,Array.getElem?_modify,hb]
theorem OAt.used(h:OAt T B b pre p bs R w)(q:Value):OAt T B b pre q bs R (w.setCell ⟨b,pre.length,none⟩ q):=by
 obtain⟨v,hb,hown,hne,h0⟩:=h;refine⟨v,?_,?_,hne,h0⟩
 ·rw[g5r hb,List.set_append_right _ _ Zl,Nat.sub_self];rfl
 ·exact hown.kept (row:=some b) ⟨rfl,rfl,rfl,by simp[World.setCell],fun k _ hk=>Below.heap_setCell _ _ _ _ (fun e=>hk (by simp[e]))⟩ (Or.inr hne)
theorem OAt.stored(h:OAt T B b pre p bs R w)(i:Nat)(q:Value):OAt T B b pre p bs (R.set i q) (w.setCell ⟨b,pre.length+(i+2),none⟩ q):=by
 obtain⟨v,hb,hown,hne,h0⟩:=h;refine⟨v,?_,?_,hne,h0⟩
 ·rw[g5r hb,List.set_append_right _ _ (Nat.le_add_right _ _),Nat.add_sub_cancel_left];rfl
 ·exact hown.kept (row:=some b) ⟨rfl,rfl,rfl,by simp[World.setCell],fun k _ hk=>Below.heap_setCell _ _ _ _ (fun e=>hk (by simp[e]))⟩ (Or.inr hne)
theorem OAt.frozen(h:OAt T B b pre p bs R w)(i:Nat):w.frozen? ⟨b,i,none⟩=false:=by
 obtain⟨v,hb,_⟩:=h;simp[World.frozen?,hb]
theorem OAt.put{v':Value}{bs':List Value}(hb:w.heap[b]?=some (.cells (pre++p::v::R).toArray T (0,0)))(hown:w.ownsRowF B 5 1 v' bs'.length bs')(hTe:T≠5)(h0:bs'=[]->v'=.slice none 0 0):
  OAt T B b pre p bs' R (w.setCell ⟨b,pre.length+1,none⟩ v'):=by
 have hne:=Lib.ownBlock_neF hown hb hTe;refine⟨v',?_,?_,hne,h0⟩
 ·rw[g5r hb,List.set_append_right _ _ (Nat.le_add_right _ _),Nat.add_sub_cancel_left];rfl
 ·exact hown.kept (row:=some b) ⟨rfl,rfl,rfl,by simp[World.setCell],fun k _ hk=>Below.heap_setCell _ _ _ _ (fun e=>hk (by simp[e]))⟩ (Or.inr hne)
theorem OAt.alloc(h:OAt T B b pre p bs R w)(o:Obj):OAt T B b pre p bs R (w.alloc o):=by
 have hlt:=h.lt;obtain⟨v,hb,hown,hne,h0⟩:=h;exact⟨v,(Lib.alloc_old w o b hlt).trans hb,hown.kept (World.grownBy_alloc w o none) (by cases hv:v.ownBlock<;>simp),hne,h0⟩
theorem OAt.W{w':World}(h:OAt T B b pre p bs R w)(hx:Below w w w'):OAt T B b pre p bs R w':=by
 have hlt:=h.lt;obtain⟨v,hb,hown,hne,h0⟩:=h;exact⟨v,(hx.block b hlt).trans hb,hown.kept (row:=none) ⟨hx.os,hx.tape,hx.output,hx.size,fun k hk _=>hx.block k hk⟩ (by cases hv:v.ownBlock<;>simp),hne,h0⟩
theorem IsO.at(h:IsO T B b pre bs R w):∃p,OAt T B b pre p bs R w:=by
 rcases h with h|h
 ·exact⟨_,h⟩
 ·exact⟨_,h⟩
theorem IsO.lt(h:IsO T B b pre bs R w):b<w.heap.size:=h.at.elim fun _ h=>h.lt
theorem IsO.cellP(h:IsO T B b pre bs R w)(i:Nat)(hi:i<pre.length):w.cell? ⟨b,i,none⟩=pre[i]?:=h.at.elim fun _ h=>h.cellP i hi
theorem IsO.cellR(h:IsO T B b pre bs R w)(i:Nat):w.cell? ⟨b,pre.length+(i+2),none⟩=R[i]?:=h.at.elim fun _ h=>h.cellR i
theorem IsO.frozen(h:IsO T B b pre bs R w)(i:Nat):w.frozen? ⟨b,i,none⟩=false:=h.at.elim fun _ h=>h.frozen i
theorem IsO.alloc(h:IsO T B b pre bs R w)(o:Obj):IsO T B b pre bs R (w.alloc o):=h.imp (·.alloc o) (·.alloc o)
theorem IsO.W{w':World}(h:IsO T B b pre bs R w)(hx:Below w w w'):IsO T B b pre bs R w':=h.imp (·.W hx) (·.W hx)
theorem IsO.stored(h:IsO T B b pre bs R w)(i:Nat)(q:Value):IsO T B b pre bs (R.set i q) (w.setCell ⟨b,pre.length+(i+2),none⟩ q):=h.imp (·.stored i q) (·.stored i q)
theorem IsO.unused(T:TypeId)(B b:Nat)(w:World)(pre R:List Value)(h:w.heap[b]?=some (.cells (pre++.pointer none::.slice none 0 0::R).toArray T (0,0))):IsO T B b pre [] R w:=
 Or.inl ⟨.slice none 0 0,h,World.ownsRowF_nil _ _ _ _,by simp[Value.ownBlock],fun _=>rfl⟩
end
theorem k6w(b o:Nat)(w:World)(h0:w.cell? ⟨b,o,none⟩=some (.pointer (some ⟨b,o,none⟩))):
  Calls prog 84 #[.pointer (some ⟨b,o,none⟩)] w fun e w'=>e=.returned (.tuple #[])/\w'=w:=by
 obtain⟨j,hj,_⟩:=Option.map_eq_some_iff.1 y0w;go_in;go_wp2;rw[Lib.run_neq_ptr_same w _ Tryz.underlying93 hj];go_wp2
 go_end0
 exact⟨rfl,rfl⟩
theorem k3q(T n b o:Nat)(w:World)(hl:liesAt prog prog.depth T (n / prog.cellsOf T) o 96 1=true)(h0:w.cell? ⟨b,o,none⟩=some (.pointer none))(hsh:w.shape? b=some (T,n))(hn:o<n)(hfz:w.frozen? ⟨b,o,none⟩=false):
  Calls prog 84 #[.pointer (some ⟨b,o,none⟩)] w fun e w'=>e=.returned (.tuple #[])/\w'=w.setCell ⟨b,o,none⟩ (.pointer (some ⟨b,o,none⟩)):=by
 obtain⟨j,hj,hjs⟩:=Option.map_eq_some_iff.1 y0w;have HL:Hid (liesAt prog prog.depth T (n / prog.cellsOf T) o 96 1=true):=hl;have HS:Hid (w.shape? b=some (T,n)):=hsh;have HJ:Hid (j.size≠0):=(show j.size≠0 by rw[hjs];decide);clear hl hsh hjs;go_in;go_wp2;rw[Lib.run_to_unsafe w ⟨b,o,none⟩ Tryz.underlying93 Tryz.underlying219 hj HJ.o HS.o hn];simp only[Result.andThen];rw[Oper.upon_value];go_wp2;rw[run_callFunc_extern func140 (by kernel_rfl) (by kernel_rfl) (by kernel_rfl) (e:=Extern.AbiNoEscape.same) (by kernel_rfl)];rw[Lib.run_noEscape];simp only[Result.andThen];rw[Oper.upon_value];go_wp2;rw[Lib.run_from_unsafe w ⟨b,o,none⟩ Tryz.underlying219 Tryz.underlying93 hj HS.o HL.o];simp only[Result.andThen];rw[Oper.upon_value];go_wp2
 go_end0
 exact⟨rfl,rfl⟩
def j5e(T n o:Nat):Prop:=liesAt prog prog.depth T (n / prog.cellsOf T) o 96 1=true
theorem j3h(T B b o:Nat)(pre bs R:List Value)(w:World)(ho:pre.length=o)(hl:j5e T (o+(R.length+2)) o)(h:IsO T B b pre bs R w):
  Calls prog 84 #[.pointer (some ⟨b,o,none⟩)] w fun e w'=>e=.returned (.tuple #[])/\(OAt T B b pre (.pointer (some ⟨b,pre.length,none⟩)) bs R w'/\q0p B b w w'/\Lib.OthersKept 5 (some b) w w'):=by
 subst ho;rcases h with h|h
 ·refine(k3q T (pre.length+(R.length+2)) b pre.length w hl h.cell0 h.shape (by omega) (h.frozen _)).mono ?_;rintro e w'⟨rfl,rfl⟩;exact⟨rfl,h.used _,(q0p.refl B b w).setCell (p:=⟨b,pre.length,none⟩) (.inl rfl) _,(Lib.OthersKept.refl _ _ w).setCell ⟨b,pre.length,none⟩ rfl _⟩
 ·refine(k6w b pre.length w h.cell0).mono ?_;rintro e w'⟨rfl,rfl⟩;exact⟨rfl,h,q0p.refl B b _,Lib.OthersKept.refl _ _ _⟩
theorem k7a(T B b o:Nat)(pre bs R:List Value)(s:ByteArray)(w:World)(ho:pre.length=o)(hl:j5e T (o+(R.length+2)) o)(hT:T≠5)(h:IsO T B b pre bs R w)(hlen:bs.length+s.size<=140737488355328)(hBw:B<=w.heap.size):
  Calls prog 47 #[.pointer (some ⟨b,o,none⟩),.string s] w fun e w'=>e=.returned (.tuple #[.int .i64 s.size,.nilIface])/\(IsO T B b pre (bs++Lib.strCells s) R w'/\q0p B b w w'/\Lib.OthersKept 5 (some b) w w'):=by
 obtain⟨i0,hi,hz0,hz1,hz2⟩:=info_parts y0s;have HL:Hid (j5e T (o+(R.length+2)) o):=hl;have HT:Hid (T≠5):=hT;have HO:Hid (pre.length=o):=ho;have H:Hid (IsO T B b pre bs R w):=h;clear hl hT h ho;go_in;go_wp2_with(go_at_call 84;refine(j3h T B b o pre bs R _ HO.o HL.o H.o).mono ?_);rintro e w1⟨rfl,h1,hb1,hk1⟩;obtain⟨v,hbk,hown,hne,h0⟩:=h1;have H0:Hid (bs=[]->v=.slice none 0 0):=h0;have HBK:Hid (w1.heap[b]?=some (.cells (pre++.pointer (some ⟨b,pre.length,none⟩)::v::R).toArray T (0,0))):=hbk;clear h0;have c0:w1.cell? ⟨b,o,none⟩=some (.pointer (some ⟨b,o,none⟩)):=by have:=v1b hbk;rw[HO.o]at this;exact this
 have c1:w1.cell? ⟨b,o+1,none⟩=some v:=by have:=j0t hbk;rw[HO.o]at this;exact this
 clear hbk;go_wp2_with(at_builtin;refine Lib.wpList_append_own_stringF _ rfl _ _ 94 9 rfl B 5 i0 Tryz.underlying94 Tryz.underlying9 hi hz0 hz1 hz2 _ _ _ rfl hown s rfl ?c3 ?c4 ?c5 ?_)
 case c3=>unfold maxLen;omega
 case c4=>omega
 case c5=>have:=hb1.size;omega
 intro v' w2 hown' hgrow hnil;have HZ:Hid (v'=.slice none 0 0↔v=.slice none 0 0/\s.size=0):=(show _↔_ by simpa using hnil);clear hnil;have hlt:b<w1.heap.size:=olt HBK.o
 have hb2:w2.heap[b]?=some (.cells (pre++.pointer (some ⟨b,pre.length,none⟩)::v::R).toArray T (0,0)):=by
  rw[hgrow.block b hlt (fun e=>hne e.symm)];exact HBK.o
 have HB2:Hid (w2.heap[b]?=some (.cells (pre++.pointer (some ⟨b,pre.length,none⟩)::v::R).toArray T (0,0))):=hb2;have d0:w2.cell? ⟨b,o,none⟩=some (.pointer (some ⟨b,o,none⟩)):=by have:=v1b hb2;rw[HO.o]at this;exact this
 have d1:w2.cell? ⟨b,o+1,none⟩=some v:=by have:=j0t hb2;rw[HO.o]at this;exact this
 have f1:w2.frozen? ⟨b,o+1,none⟩=false:=Lib.frozen_of_heap hb2 (o+1);clear hb2
 obtain⟨ao,n',cap,rfl⟩:∃ao n' cap,v'=.slice ao n' cap:=by
  rcases hown'.2 with⟨hv,_⟩|⟨g,cap,cur,fz,hv,_⟩
  ·exact⟨_,_,_,hv⟩
  ·exact⟨_,_,_,hv⟩
 go_wp2;go_ret2;refine⟨rfl,.inr ?_,?_,(hk1.grown hgrow (Lib.ownsRowF_kind hown)).setCell ⟨b,o+1,none⟩ rfl _⟩
 ·rw[<-HO.o];refine OAt.put HB2.o (bs':=bs++Lib.strCells s) (by simpa[Lib.strCells_length]using hown') HT.o (fun h=>?_);obtain⟨h1,h2⟩:=List.append_eq_nil_iff.1 h;refine HZ.o.2 ⟨H0.o h1,?_⟩;rw[<-Lib.strCells_length,h2];rfl
 ·exact(hb1.grown hgrow (by have:=hb1.size;omega) (fun k hk=>(hown.lt k hk).1)).setCell (p:=⟨b,o+1,none⟩) (.inl rfl) _
theorem v1f(T B b o:Nat)(pre:List Value)(l:List UInt8)(R:List Value)(w:World)(ho:pre.length=o)(h:IsO T B b pre (Lib.byteCells l) R w)(h0:l≠[]):
  Calls prog 48 #[.pointer (some ⟨b,o,none⟩)] w fun e w'=>e=.returned (.string ⟨l.toArray⟩)/\Below B w w':=by
 obtain⟨p,hAt⟩:=h.at;obtain⟨v,hbk,hown,hne,_⟩:=hAt;have hl0:l.length≠0:=by simpa using h0
 rw[Lib.byteCells_length]at hown
 obtain⟨g,cap,cur,fz,rfl,hbg,hg,hfz,hnc,hcm,hcs,htake⟩:∃g cap cur fz,v=.slice (some ⟨g,0,none⟩) l.length cap/\B<=g/\w.heap[g]?=some (.cells cur 5 fz)/\fz.2<=l.length*1/\l.length<=cap/\cap<=maxLen/\cur.size=cap*1/\cur.toList.take (l.length*1)=Lib.byteCells l:=by
  rcases hown.2 with⟨_,hz⟩|⟨g,cap,cur,fz,hv,r⟩
  ·exact absurd hz hl0
  ·exact⟨g,cap,cur,fz,hv,r⟩
 have c1:w.drew.cell? ⟨b,o+1,none⟩=some (.slice (some ⟨g,0,none⟩) l.length cap):=by
  have:w.drew.heap[b]?=some (.cells (pre++p::.slice (some ⟨g,0,none⟩) l.length cap::R).toArray T (0,0)):=hbk
  have:=j0t this
  rw[ho]at this;exact this
 have hSD:(Builtin.unsafeSliceData_ #[94] 155 #[.slice (some ⟨g,0,none⟩) l.length cap]).run prog w.drew=.ok (.pointer (some ⟨g,0,none⟩)) w.drew:=
  Lib.run_unsafeSliceData_row _ _ _ _ _ _ (by omega)
 have hUS:(Builtin.unsafeString_ #[155,3] 9 #[.pointer (some ⟨g,0,none⟩),.int .i64 l.length]).run prog w.drew=.ok (.string ⟨l.toArray⟩) (w.drew.freeze ⟨g,0,none⟩ l.length):=by
  refine Lib.run_unsafeString_row w.drew 155 3 9 5 Tryz.underlying155 y3g g cur.size (by have hg':w.drew.heap[g]?=some (.cells cur 5 fz):=hg;simp[World.shape?,hg']) l h0 (by omega) (by unfold maxLen at hcm;omega) ?_;intro j x hx
  have:=hown.cells (g:=g) rfl j (.int .u8 x.toNat) (by simp[Lib.byteCells,hx])
  exact this
 clear hbk;go_in;go_wp2
 go_region
 all_goals (go_wp2;go_ret;exact⟨rfl,Lib.below_freeze (Below.drew (Below.refl B w)) (p:=⟨g,0,none⟩) hbg _⟩)
theorem v1e(T B b o:Nat)(pre R:List Value)(w:World)(ho:pre.length=o)(h:IsO T B b pre [] R w):
  Calls prog 48 #[.pointer (some ⟨b,o,none⟩)] w fun e w'=>e=.returned (.string ⟨#[]⟩)/\Below B w w':=by
 obtain⟨p,hAt⟩:=h.at;obtain⟨v,hbk,hown,hne,hv⟩:=hAt;obtain rfl:=hv rfl;clear hown hne hv;have hUS:∀(W:World)(q:Option Addr),(Builtin.unsafeString_ #[155,3] 9 #[.pointer q,.int .i64 0]).run prog W=.ok (.string .empty) W:=fun W q=>Lib.run_unsafeString_none W _ _ _ q
 have c1:w.drew.cell? ⟨b,o+1,none⟩=some (.slice none 0 0):=by
  have:w.drew.heap[b]?=some (.cells (pre++p::.slice none 0 0::R).toArray T (0,0)):=hbk
  have:=j0t this
  rw[ho]at this;exact this
 have hSD:(Builtin.unsafeSliceData_ #[94] 155 #[.slice none 0 0]).run prog w.drew=.ok (.pointer none) w.drew:=rfl;clear hbk;go_in;go_wp2
 go_region
 all_goals (go_wp2;go_ret;exact⟨rfl,Below.drew (Below.refl B w)⟩)
theorem v8p(T B b o:Nat)(pre:List Value)(l:List UInt8)(R:List Value)(w:World)(ho:pre.length=o)(h:IsO T B b pre (Lib.byteCells l) R w):
  Calls prog 48 #[.pointer (some ⟨b,o,none⟩)] w fun e w'=>e=.returned (.string ⟨l.toArray⟩)/\Below B w w':=by
 by_cases h0:l=[]
 ·subst h0;exact v1e T B b o pre R w ho h
 ·exact v1f T B b o pre l R w ho h h0
def WS(B b:Nat)(pl:List Value)(l:List UInt8)(cv:Value)(w:World):Prop:=IsO 136 B b pl (Lib.byteCells l) [cv] w
abbrev q6v(be bf:Nat)(n cap:Nat)(a:Option Addr):List Value:=[.slice a n cap,.slice (some ⟨be,0,none⟩) n n,.slice (some ⟨bf,0,none⟩) n n]
theorem g6b:j5e 136 6 3:=by unfold j5e;kernel_rfl
section
variable {B b be bf n cap:Nat} {a:Option Addr} {l:List UInt8} {cv:Value} {w w':World}
theorem WS.c0(h:WS B b (q6v be bf n cap a) l cv w):w.cell? ⟨b,0,none⟩=some (.slice a n cap):=IsO.cellP h 0 (by show 0<3;decide)
theorem WS.c1(h:WS B b (q6v be bf n cap a) l cv w):w.cell? ⟨b,1,none⟩=some (.slice (some ⟨be,0,none⟩) n n):=IsO.cellP h 1 (by show 1<3;decide)
theorem WS.c2(h:WS B b (q6v be bf n cap a) l cv w):w.cell? ⟨b,2,none⟩=some (.slice (some ⟨bf,0,none⟩) n n):=IsO.cellP h 2 (by show 2<3;decide)
theorem WS.c5(h:WS B b (q6v be bf n cap a) l cv w):w.cell? ⟨b,5,none⟩=some cv:=IsO.cellR h 0
theorem WS.f5(h:WS B b (q6v be bf n cap a) l cv w):w.frozen? ⟨b,5,none⟩=false:=IsO.frozen h 5
theorem WS.lt{pl:List Value}(h:WS B b pl l cv w):b<w.heap.size:=IsO.lt h
theorem WS.alloc{pl:List Value}(h:WS B b pl l cv w)(o:Obj):WS B b pl l cv (w.alloc o):=IsO.alloc h o
theorem WS.drew{pl:List Value}(h:WS B b pl l cv w):WS B b pl l cv w.drew:=h
theorem WS.W{pl:List Value}(h:WS B b pl l cv w)(hb:Below w w w'):WS B b pl l cv w':=IsO.W h hb
theorem WS.stored(h:WS B b (q6v be bf n cap a) l cv w)(v:Value):WS B b (q6v be bf n cap a) l v (w.setCell ⟨b,5,none⟩ v):=IsO.stored h 0 v
end
theorem g3z{B b be bf n cap:Nat}{a:Option Addr}{l:List UInt8}{cv:Value}{w:World}(h:WS B b (q6v be bf n cap a) l cv w)(hB:B<=b)(s:ByteArray)(hl:l.length+s.size<=2000000000):
  Calls prog 47 #[.pointer (some ⟨b,3,none⟩),.string s] w fun e w'=>(∃z,e=.returned (.tuple #[.int .i64 z,.nilIface]))/\WS B b (q6v be bf n cap a) (l++s.data.toList) cv w'/\Below B w w':=by
 have hlt:=h.lt;refine(k7a 136 B b 3 (q6v be bf n cap a) _ [cv] s w rfl g6b (by decide) h (by rw[Lib.byteCells_length];omega) (by omega)).mono ?_;rintro e w'⟨rfl,h1,h2,_⟩;refine⟨⟨_,rfl⟩,?_,h2.W hB⟩;rw[WS,Lib.byteCells_append];exact h1
structure LC(B s be bf:Nat)(a:Option Addr)(ds:List Nd)(w:World):Prop where
 nd:q0x s w a ds
 kn:q8y w be bf ds 0
theorem LC.W{B s be bf:Nat}{a:Option Addr}{ds:List Nd}{w w':World}(h:LC B s be bf a ds w)(hB:s<B/\be<B/\bf<B)(hb:Below B w w'):LC B s be bf a ds w':=
 ⟨h.nd.kept (hb.block s hB.1),h.kn.kept (hb.block be hB.2.1) (hb.block bf hB.2.2)⟩
def k1p(B b:Nat)(pl:List Value)(res:Except Int (List UInt8 × List Int))(l:List UInt8)(e:Ending)(w':World):Prop:=
 match res with
 | .ok (u,ws')=>e=.returned .nilIface/\∃wa' wc',WS B b pl (l++u) (.slice wa' ws'.length wc') w'/\q2x B w' wa' ws'/\ws'.length<=wc'
 | .error er=>er≠0/\e=.returned (q0s er)
def k5k(fn B b s be bf:Nat)(ds:List Nd)(a:Option Addr)(cap:Nat)(A:List Nd)(f:Nat->List Int->Except Int (List UInt8 × List Int)):Prop:=
 ∀(i:Nat)(r:List Nd)(deep:Nat)(ws:List Int)(wa:Option Addr)(wc:Nat)(l:List UInt8)(w:World),ds.drop i=A++r->LC B s be bf a ds w->q2x B w wa ws->q2k ws->ws.length<=wc->WS B b (q6v be bf ds.length cap a) l (.slice wa ws.length wc) w->
  deep+8*A.length<=3300->l.length+4000*A.length<=1000000000->
  Calls prog fn #[.pointer (some ⟨b,0,none⟩),.int .i64 i,.int .i64 deep] w fun e w'=>k1p B b (q6v be bf ds.length cap a) (f deep ws) l e w'/\Below B w w'
abbrev q3i:=k5k 70
theorem z5r(n:Nat)(hn:n<=4000)(w:World):Calls prog 115 #[.string ⟨#[32]⟩,.int .i64 n] w fun e w'=>e=.returned (.string ⟨(List.replicate n 32).toArray⟩)/\Below w w w':=by
 refine(repeat_any ⟨#[32]⟩ n w (by omega) (by show 1*n<=_;omega)).mono ?_;rintro e w'⟨rfl,hb⟩;refine⟨?_,hb⟩
 have:=Lib.repeatL_replicate 32 1 n
 have e1:Lib.repeatL (ByteArray.mk #[32]).data.toList n=List.replicate n 32:=by simpa using this
 rw[e1]
theorem q0x.part{s o i:Nat}{w:World}{ds A r:List Nd}(h:q0x s w (some ⟨s,o,none⟩) ds)(hd:ds.drop i=A++r):q0x s w (some ⟨s,o+i*3,none⟩) A:=by
 intro j hj;have hl:=congrArg List.length hd;rw[List.length_drop,List.length_append]at hl;have hij:i+j<ds.length:=by omega
 obtain⟨o',e,c1,c2,c3⟩:=h (i+j) hij;simp only[Option.some.injEq,Addr.mk.injEq,and_true,true_and]at e;subst e
 have he:ds[i+j]=A[j]:=by
  have h1:(ds.drop i)[j]?=some A[j]:=by rw[hd,List.getElem?_append_left hj];simp
  rw[List.getElem?_drop]at h1;exact(List.getElem?_eq_some_iff.1 h1).2
 rw[he]at c1 c2 c3;refine⟨o+i*3,rfl,?_,?_,?_⟩
 ·rw[show o+i*3+j*3=o+(i+j)*3 by omega];exact c1
 ·rw[show o+i*3+j*3+1=o+(i+j)*3+1 by omega];exact c2
 ·rw[show o+i*3+j*3+2=o+(i+j)*3+2 by omega];exact c3
theorem y0p(B b s be bf:Nat)(ds:List Nd)(a:Option Addr)(cap:Nat)(i:Nat)(t:Tr)(r:List Nd)(l:List UInt8)(cv:Value)(w:World)(ht:t.Wf)(hd:ds.drop i=t.N++r)(hC:LC B s be bf a ds w)(hW:WS B b (q6v be bf ds.length cap a) l cv w)(hf:t.isFlat=false):
  Calls prog 185 #[.pointer (some ⟨b,0,none⟩),.int .i64 i] w fun e w'=>e=.returned (q0s 4)/\Below B w w':=by
 have hi:=q9g hd;have c2:=hW.c2;have k2:=(hC.kn i t r (Nat.zero_le _) ht hd).2;rw[hf]at k2;have hiI:(i:Int)<(ds.length:Int):=by omega
 rw[y9z];clear hC hW hd;go_in;go_wp2;go_ret;exact⟨rfl,Below.refl _ _⟩
theorem v3x(B b s be bf:Nat)(hb:s<B/\be<B/\bf<B)(hB:B<=b)(ds:List Nd)(a:Option Addr)(cap:Nat)(hcap:ds.length<=cap)(hl:ds.length<=400)(i:Nat)(t:Tr)(r:List Nd)(l:List UInt8)(cv:Value)(w:World)(ht:t.Wf)(hd:ds.drop i=t.N++r)(hC:LC B s be bf a ds w)(hW:WS B b (q6v be bf ds.length cap a) l cv w)(hf:t.isFlat=true)(hsz:l.length<=1000000000):
  Calls prog 185 #[.pointer (some ⟨b,0,none⟩),.int .i64 i] w fun e w'=>e=.returned .nilIface/\WS B b (q6v be bf ds.length cap a) (l++t.line.data.toList) cv w'/\Below B w w':=by
 have hi:=q9g hd;have c0:=hW.c0;have c1:=hW.c1;have c2:=hW.c2;obtain⟨k1,k2⟩:=hC.kn i t r (Nat.zero_le _) ht hd;rw[hf]at k2;obtain⟨o0,ea,_,_,_⟩:=hC.nd i hi;subst ea;have hlt:=hW.lt;have hbs:B<=w.heap.size:=by omega
 have hiI:(i:Int)<(ds.length:Int):=by omega
 have hlen:i+t.N.length<=ds.length:=by
  have:=congrArg List.length hd
  rw[List.length_drop,List.length_append]at this;omega
 have hp:=t.pos;have hn:q3p w (some ⟨s,o0+i*3,none⟩) t.N:=(hC.nd.part hd).nods (by omega);have hlf:t.line.size<=8000:=by have:=z4z t ht;rw[k2v];omega
 generalize hj:i+t.N.length=j at k1 hlen;have hnl:t.N.length=j-i:=by omega
 have HFL:Hid (∀W:World,Below w w W->Calls prog 216 #[.slice (some ⟨s,o0+i*3,none⟩) (j-i) (cap-i)] W fun e w'=>e=.returned (.tuple #[.string t.line,.bool true,.nilIface])/\Below W W w'):=fun W hW=>by
  have:=j8c t.N t rfl ht (by omega) (some ⟨s,o0+i*3,none⟩) (cap-i) (by omega) W (hn.W hW)
  rw[hf,hnl]at this;exact this
 have h1:(i:Int)<=(j:Int):=by omega
 have hbe:be<w.heap.size:=by omega
 have hp0:(0:Int)<=(i:Int):=by omega
 have hpj:(0:Int)<=(j:Int):=by omega
 have hic:(i:Int)<(cap:Int):=by omega
 have hci:¬(cap-i=0):=by omega
 have hcj:¬(cap=i):=by omega
 have hij:((j:Int)-(i:Int)).toNat=j-i:=by omega
 have hcij:((cap:Int)-(i:Int)).toNat=cap-i:=by omega
 have h2:(j:Int)<=(cap:Int):=by omega
 have h3:(j:Int)<=(ds.length:Int):=by omega
 have HW:Hid (WS B b (q6v be bf ds.length cap (some ⟨s,o0,none⟩)) l cv w):=hW;clear hC hW hd hn hnl;go_in;go_wp2_with fail
 go_region_held3 (fun w'=>w'.cell? ⟨b,0,none⟩=some (.slice (some ⟨s,o0,none⟩) ds.length cap)/\w'.cell? ⟨b,1,none⟩=some (.slice (some ⟨be,0,none⟩) ds.length ds.length)/\w'.cell? ⟨be,i,none⟩=some (.int .i64 (j:Int)))
  (first|exact⟨c0,c1,k1⟩|exact⟨((q1c hb2).1 _ _ hlt).trans c0,((q1c hb2).1 _ _ hlt).trans c1,((q1c hb2).1 _ _ hbe).trans k1⟩)
  (first|(go_at_call 216;refine(HFL.o _ (Below.drew (Below.refl _ w))).mono ?_;rintro e w2⟨rfl,hb2⟩))
 all_goals
  have HW2:Hid (WS B b (q6v be bf ds.length cap (some ⟨s,o0,none⟩)) l cv w2):=WS.W (WS.drew HW.o) hb2;have HB2:Hid (Below B w w2):=(Below.drew (Below.refl B w)).trans (hb2.mono hbs);clear hb2;go_wp2_with fail;refine(g3z HW2.o hB t.line (by omega)).mono ?_;rintro e w3⟨⟨z,rfl⟩,h3,hb3⟩;go_wp2;go_ret;exact⟨rfl,h3,HB2.o.trans hb3⟩
end Go.Proofs.YthcpdohdppkmkaaGreatDoor
