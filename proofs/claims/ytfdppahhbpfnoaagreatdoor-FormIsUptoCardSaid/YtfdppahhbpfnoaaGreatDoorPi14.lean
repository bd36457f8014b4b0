import Derived.Test.YtfdppahhbpfnoaaGreatDoorPi10
open Go.Proofs.Tryz
namespace Go.Proofs.YtfdppahhbpfnoaaGreatDoor
open Go Go.RowKit
set_option maxRecDepth 100000
set_option maxHeartbeats 16000000
instance cellInt{w:World}{p:Addr}{v:Int}(h:w.cell? p=some (.int .i64 v)):CoeDep (w.cell? p=some (.int .i64 v)) h Int:=⟨v⟩
theorem z1n(op:Int)(ho:op=2\/op=3\/op=4)(bp g n wd i c:Nat)(tx:ByteArray)(nn en:Int)(nx dp:Nat)(lg:Int)(ch:Nat)(w:World)(hi:(i:Int)<n)(hw:wd<=100)(hk:dp<=20000)
  (c0:w.cell? ⟨bp,0,none⟩=some (.slice (some ⟨g,0,none⟩) n n)) (c1:w.cell? ⟨bp,1,none⟩=some (.int .i64 wd))
  (d0:w.cell? ⟨g,i*7,none⟩=some (.int .i64 op)) (d1:w.cell? ⟨g,i*7+1,none⟩=some (.string tx)) (d2:w.cell? ⟨g,i*7+2,none⟩=some (.int .i64 nn)) (d3:w.cell? ⟨g,i*7+3,none⟩=some (.int .i64 en)) (d4:w.cell? ⟨g,i*7+4,none⟩=some (.int .i64 nx)) (d5:w.cell? ⟨g,i*7+5,none⟩=some (.int .i64 dp)) (d6:w.cell? ⟨g,i*7+6,none⟩=some (.int .i64 lg)):
  Calls prog 217 #[.pointer (some ⟨bp,0,none⟩),.agg #[.int .i64 i,.int .i64 c],.int .i64 ch] w fun e w'=>e=.returned (.tuple #[.agg #[.int .i64 nx,.int .i64 ((min dp wd:Nat):Int)],.agg #[.int .i64 ((dp-wd:Nat):Int),.int .i64 1]])/\Below w w w':=by
 have Aa:(0:Int)<=(i:Int):=by omega
 have z:=World.block_lt_of_cell? w ⟨bp,0,none⟩ c0;have l:=World.block_lt_of_cell? w ⟨g,i*7,none⟩ d0;have I:∀O2 O3,(((w.alloc (.cells #[.int .i64 i,.int .i64 c] 172)).alloc O2).alloc O3).cell? ⟨w,0,none⟩=some (.int .i64 i):=fun O2 O3=>by simp[go_sem]
 have K:∀O2 O3 O4,((((w.alloc (.cells #[.int .i64 i,.int .i64 c] 172)).alloc O2).alloc O3).alloc O4).cell? ⟨w,0,none⟩=some (.int .i64 i):=fun O2 O3 O4=>ka (I O2 O3) O4
 rcases ho with rfl|rfl|rfl
 all_goals
  go_in;go_wp2_with fail
  go_region_held3 (fun w'=>w'.cell? ⟨bp,0,none⟩=some (.slice (some ⟨g,0,none⟩) n n)/\w'.cell? ⟨w,0,none⟩=some (.int .i64 i)/\w'.cell? ⟨g,i*7,none⟩=some (.int .i64 (d0:Int))/\w'.cell? ⟨g,i*7+1,none⟩=some (.string tx)/\w'.cell? ⟨g,i*7+2,none⟩=some (.int .i64 nn)/\w'.cell? ⟨g,i*7+3,none⟩=some (.int .i64 en)/\w'.cell? ⟨g,i*7+4,none⟩=some (.int .i64 nx)/\w'.cell? ⟨g,i*7+5,none⟩=some (.int .i64 dp)/\w'.cell? ⟨g,i*7+6,none⟩=some (.int .i64 lg))
   (first|exact⟨k3 c0 _ _ _,I _ _,k3 d0 _ _ _,k3 d1 _ _ _,k3 d2 _ _ _,k3 d3 _ _ _,k3 d4 _ _ _,k3 d5 _ _ _,k3 d6 _ _ _⟩|exact⟨k4 c0 _ _ _ _,K _ _ _,k4 d0 _ _ _ _,k4 d1 _ _ _ _,k4 d2 _ _ _ _,k4 d3 _ _ _ _,k4 d4 _ _ _ _,k4 d5 _ _ _ _,k4 d6 _ _ _ _⟩) (fail)
  all_goals
   go_wp2_with fail;refine(k3d bp wd nx dp _ hw hk (k4d c1 _ _ _ _)).mono ?_;rintro e A⟨rfl,D⟩;obtain⟨B,C⟩:=q1y D;have Ab:w.heap.size+1+1+1+1<=A.heap.size:=by have:=D.size;simpa using this
   have V:A.cell? ⟨w.heap.size+1,0,none⟩=some (.int .i64 0):=(B _ _ (by simp)).trans (by simp[go_sem]);have W:A.cell? ⟨w.heap.size+1,1,none⟩=some (.int .i64 0):=(B _ _ (by simp)).trans (by simp[go_sem]);have X:A.cell? ⟨w.heap.size+1+1,0,none⟩=some (.int .i64 0):=(B _ _ (by simp)).trans (by simp[go_sem]);have Y:A.cell? ⟨w.heap.size+1+1,1,none⟩=some (.int .i64 0):=(B _ _ (by simp)).trans (by simp[go_sem]);have Z:A.frozen? ⟨w.heap.size+1,0,none⟩=false:=(C _ _ (by simp)).trans (by simp[go_sem]);have a:A.frozen? ⟨w.heap.size+1,1,none⟩=false:=(C _ _ (by simp)).trans (by simp[go_sem]);have b:A.frozen? ⟨w.heap.size+1+1,0,none⟩=false:=(C _ _ (by simp)).trans (by simp[go_sem]);have d:A.frozen? ⟨w.heap.size+1+1,1,none⟩=false:=(C _ _ (by simp)).trans (by simp[go_sem]);have y:Below w w A:=(v6u w _ _ _ _).drew.trans (D.mono (by simp;omega));clear B C D;have m:=fun O1 O2=>ka (ka V O1) O2
   have o:=fun O1 O2=>ka (ka W O1) O2
   have q:=fun O1 O2=>ka (ka X O1) O2
   have r:=fun O1 O2=>ka (ka Y O1) O2
   have f:∀O1 O2,((A.alloc O1).alloc O2).frozen? ⟨w.heap.size+1,0,none⟩=false:=fun O1 O2=>kaf (by simp;omega) (kaf (by omega) Z O1) O2
   have h:∀O1 O2,((A.alloc O1).alloc O2).frozen? ⟨w.heap.size+1,1,none⟩=false:=fun O1 O2=>kaf (by simp;omega) (kaf (by omega) a O1) O2
   have j:∀O1 O2,((A.alloc O1).alloc O2).frozen? ⟨w.heap.size+1+1,0,none⟩=false:=fun O1 O2=>kaf (by simp;omega) (kaf (by omega) b O1) O2
   have k:∀O1 O2,((A.alloc O1).alloc O2).frozen? ⟨w.heap.size+1+1,1,none⟩=false:=fun O1 O2=>kaf (by simp;omega) (kaf (by omega) d O1) O2
   have E:∀O1 O2,Below w w ((A.alloc O1).alloc O2):=fun O1 O2=>(y.alloc (by omega) O1).alloc (by simp;omega) O2
   generalize G:((min dp wd:Nat):Int)=m1 at *;generalize H:((dp-wd:Nat):Int)=m2 at *;have U:Hid (((min dp wd:Nat):Int)=m1/\((dp-wd:Nat):Int)=m2):=⟨G,H⟩;clear G H;have P:((A.alloc (.cells #[.int .i64 nx,.int .i64 m1] 172)).alloc (.cells #[.int .i64 m2,.int .i64 1] 54)).cell? ⟨A,0,none⟩=some (.int .i64 nx):=by simp[go_sem]
   have Q:((A.alloc (.cells #[.int .i64 nx,.int .i64 m1] 172)).alloc (.cells #[.int .i64 m2,.int .i64 1] 54)).cell? ⟨A,1,none⟩=some (.int .i64 m1):=by simp[go_sem]
   have R:((A.alloc (.cells #[.int .i64 nx,.int .i64 m1] 172)).alloc (.cells #[.int .i64 m2,.int .i64 1] 54)).cell? ⟨A.heap.size+1,0,none⟩=some (.int .i64 m2):=by simp[go_sem]
   have S:((A.alloc (.cells #[.int .i64 nx,.int .i64 m1] 172)).alloc (.cells #[.int .i64 m2,.int .i64 1] 54)).cell? ⟨A.heap.size+1,1,none⟩=some (.int .i64 1):=by simp[go_sem]
   have L:=m (.cells #[.int .i64 nx,.int .i64 m1] 172) (.cells #[.int .i64 m2,.int .i64 1] 54);have M:=o (.cells #[.int .i64 nx,.int .i64 m1] 172) (.cells #[.int .i64 m2,.int .i64 1] 54);have N:=q (.cells #[.int .i64 nx,.int .i64 m1] 172) (.cells #[.int .i64 m2,.int .i64 1] 54);have O:=r (.cells #[.int .i64 nx,.int .i64 m1] 172) (.cells #[.int .i64 m2,.int .i64 1] 54);have s:=f (.cells #[.int .i64 nx,.int .i64 m1] 172) (.cells #[.int .i64 m2,.int .i64 1] 54);have t:=h (.cells #[.int .i64 nx,.int .i64 m1] 172) (.cells #[.int .i64 m2,.int .i64 1] 54);have u:=j (.cells #[.int .i64 nx,.int .i64 m1] 172) (.cells #[.int .i64 m2,.int .i64 1] 54);have x:=k (.cells #[.int .i64 nx,.int .i64 m1] 172) (.cells #[.int .i64 m2,.int .i64 1] 54);have J:=E (.cells #[.int .i64 nx,.int .i64 m1] 172) (.cells #[.int .i64 m2,.int .i64 1] 54);clear E m o q r f h j k V W X Y Z a b d;go_wp2_with fail
   generalize(A.alloc (.cells #[.int .i64 nx,.int .i64 m1] 172)).alloc (.cells #[.int .i64 m2,.int .i64 1] 54)=w3 at *
   go_region_held3 (fun w'=>w'.cell? ⟨A,0,none⟩=some (.int .i64 nx)/\w'.cell? ⟨A,1,none⟩=some (.int .i64 m1)/\w'.cell? ⟨A.heap.size+1,0,none⟩=some (.int .i64 m2)/\w'.cell? ⟨A.heap.size+1,1,none⟩=some (.int .i64 1))
    (first|exact⟨P,Q,R,S⟩|exact⟨(cso (by omega)).trans ((cso (by omega)).trans P),(cso (by omega)).trans ((cso (by omega)).trans Q),(cso (by omega)).trans ((cso (by omega)).trans R),(cso (by omega)).trans ((cso (by omega)).trans S)⟩|exact⟨(cso (by omega)).trans ((cso (by omega)).trans ((cso (by omega)).trans ((cso (by omega)).trans P))),(cso (by omega)).trans ((cso (by omega)).trans ((cso (by omega)).trans ((cso (by omega)).trans Q))),(cso (by omega)).trans ((cso (by omega)).trans ((cso (by omega)).trans ((cso (by omega)).trans R))),(cso (by omega)).trans ((cso (by omega)).trans ((cso (by omega)).trans ((cso (by omega)).trans S)))⟩) (fail)
   all_goals
    go_wp2;exact bodyPost_ret (v:=.tuple #[.agg #[.int .i64 nx,.int .i64 m1],.agg #[.int .i64 m2,.int .i64 1]]) (by simp[results,Tryz.results217,go_sem,L,M,N,O]) rfl ⟨by rw[U.o.1,U.o.2],((((J.setCell (p:=⟨w.heap.size+1,0,none⟩) (by simp) _).setCell (p:=⟨w.heap.size+1,1,none⟩) (by simp) _).setCell (p:=⟨w.heap.size+1+1,0,none⟩) (by simp;omega) _).setCell (p:=⟨w.heap.size+1+1,1,none⟩) (by simp;omega) _).drew⟩
end Go.Proofs.YtfdppahhbpfnoaaGreatDoor
