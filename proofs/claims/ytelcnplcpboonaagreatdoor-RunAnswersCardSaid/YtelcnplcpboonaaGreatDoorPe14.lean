import Derived.Test.YtelcnplcpboonaaGreatDoorPe09
open Go.Proofs.Tryz
open Go.Value renaming int->À
open Go.IntKind renaming i64->Á
open Go.Obj renaming cells->Â
open Option renaming none->Ã,some->Ä
namespace Go.Proofs.YtelcnplcpboonaaGreatDoor
open Go Go.RowKit
set_option maxRecDepth 100000
set_option maxHeartbeats 16000000
instance cellInt{w:World}{p:Addr}{v:Int}(h:w.cell? p=Ä (À Á v)):CoeDep (w.cell? p=Ä (À Á v)) h Int:=⟨v⟩
theorem xw(op)(ho:op=2\/op=3\/op=4)(bp g n wd i c:Nat)(tx nn en)(nx dp:Nat)(lg)(ch:Nat)(w:World)(hi:(i:Int)<n)(hw:wd<=100)(hk:dp<=20000)
  (c0:w.cell? ⟨bp,0,Ã⟩=Ä (.slice (Ä ⟨g,0,Ã⟩) n n)) (c1:w.cell? ⟨bp,1,Ã⟩=Ä (À Á wd))
  (d0:w.cell? ⟨g,i*7,Ã⟩=Ä (À Á op)) (d1:w.cell? ⟨g,i*7+1,Ã⟩=Ä (.string tx)) (d2:w.cell? ⟨g,i*7+2,Ã⟩=Ä (À Á nn)) (d3:w.cell? ⟨g,i*7+3,Ã⟩=Ä (À Á en)) (d4:w.cell? ⟨g,i*7+4,Ã⟩=Ä (À Á nx)) (d5:w.cell? ⟨g,i*7+5,Ã⟩=Ä (À Á dp)) (d6:w.cell? ⟨g,i*7+6,Ã⟩=Ä (À Á lg)):
  Cb 274 #[.pointer (Ä ⟨bp,0,Ã⟩),.agg #[À Á i,À Á c],À Á ch] w (.tuple #[.agg #[À Á nx,À Á ((min dp wd:Nat):Int)],.agg #[À Á ((dp-wd:Nat):Int),À Á 1]]):=by
 unfold Cb;have Aa:(0:Int)<=(i:Int):=by omega
 have z:=World.block_lt_of_cell? w ⟨bp,0,Ã⟩ c0;have l:=World.block_lt_of_cell? w ⟨g,i*7,Ã⟩ d0;have I:∀a b,(((w.alloc (Â #[À Á i,À Á c] 280)).alloc a).alloc b).cell? ⟨w,0,Ã⟩=Ä (À Á i):=λO2 O3=>by simp[go_sem]
 have K:∀a b d,((((w.alloc (Â #[À Á i,À Á c] 280)).alloc a).alloc b).alloc d).cell? ⟨w,0,Ã⟩=Ä (À Á i):=λO2 O3 O4=>ka (I O2 O3) O4
 rcases ho with rfl|rfl|rfl
 all_goals
  go_in;go_wp2_with fail
  go_region_held3 (λa=>a.cell? ⟨bp,0,Ã⟩=Ä (.slice (Ä ⟨g,0,Ã⟩) n n)/\a.cell? ⟨w,0,Ã⟩=Ä (À Á i)/\a.cell? ⟨g,i*7,Ã⟩=Ä (À Á (d0:Int))/\a.cell? ⟨g,i*7+1,Ã⟩=Ä (.string tx)/\a.cell? ⟨g,i*7+2,Ã⟩=Ä (À Á nn)/\a.cell? ⟨g,i*7+3,Ã⟩=Ä (À Á en)/\a.cell? ⟨g,i*7+4,Ã⟩=Ä (À Á nx)/\a.cell? ⟨g,i*7+5,Ã⟩=Ä (À Á dp)/\a.cell? ⟨g,i*7+6,Ã⟩=Ä (À Á lg))
   (first|exact⟨k3 c0 _ _ _,I _ _,k3 d0 _ _ _,k3 d1 _ _ _,k3 d2 _ _ _,k3 d3 _ _ _,k3 d4 _ _ _,k3 d5 _ _ _,k3 d6 _ _ _⟩|exact⟨k4 c0 _ _ _ _,K _ _ _,k4 d0 _ _ _ _,k4 d1 _ _ _ _,k4 d2 _ _ _ _,k4 d3 _ _ _ _,k4 d4 _ _ _ _,k4 d5 _ _ _ _,k4 d6 _ _ _ _⟩) (fail)
  all_goals
   go_wp2_with fail;refine(Pj bp wd nx dp _ hw hk (vy c1 _ _ _ _)).mono ?_;rintro e A⟨rfl,D⟩;obtain⟨B,C⟩:=a9 D;have Ab:w.heap.size+1+1+1+1<=A.heap.size:=by have:=D.size;simpa using this
   have V:A.cell? ⟨w.heap.size+1,0,Ã⟩=Ä (À Á 0):=(B _ _ (by simp)).trans (by simp[go_sem]);have W:A.cell? ⟨w.heap.size+1,1,Ã⟩=Ä (À Á 0):=(B _ _ (by simp)).trans (by simp[go_sem]);have X:A.cell? ⟨w.heap.size+1+1,0,Ã⟩=Ä (À Á 0):=(B _ _ (by simp)).trans (by simp[go_sem]);have Y:A.cell? ⟨w.heap.size+1+1,1,Ã⟩=Ä (À Á 0):=(B _ _ (by simp)).trans (by simp[go_sem]);have Z:A.frozen? ⟨w.heap.size+1,0,Ã⟩=false:=(C _ _ (by simp)).trans (by simp[go_sem]);have a:A.frozen? ⟨w.heap.size+1,1,Ã⟩=false:=(C _ _ (by simp)).trans (by simp[go_sem]);have b:A.frozen? ⟨w.heap.size+1+1,0,Ã⟩=false:=(C _ _ (by simp)).trans (by simp[go_sem]);have d:A.frozen? ⟨w.heap.size+1+1,1,Ã⟩=false:=(C _ _ (by simp)).trans (by simp[go_sem]);have y:Below w w A:=(lS w _ _ _ _).drew.trans (D.mono (by simp;omega));clear B C D;have m:=λO1 O2=>ka (ka V O1) O2
   have o:=λO1 O2=>ka (ka W O1) O2
   have q:=λO1 O2=>ka (ka X O1) O2
   have r:=λO1 O2=>ka (ka Y O1) O2
   have f:∀a b,((A.alloc a).alloc b).frozen? ⟨w.heap.size+1,0,Ã⟩=false:=λO1 O2=>ij (by simp;omega) (ij (by omega) Z O1) O2
   have h:∀a b,((A.alloc a).alloc b).frozen? ⟨w.heap.size+1,1,Ã⟩=false:=λO1 O2=>ij (by simp;omega) (ij (by omega) a O1) O2
   have j:∀a b,((A.alloc a).alloc b).frozen? ⟨w.heap.size+1+1,0,Ã⟩=false:=λO1 O2=>ij (by simp;omega) (ij (by omega) b O1) O2
   have k:∀a b,((A.alloc a).alloc b).frozen? ⟨w.heap.size+1+1,1,Ã⟩=false:=λO1 O2=>ij (by simp;omega) (ij (by omega) d O1) O2
   have E:∀a b,Below w w ((A.alloc a).alloc b):=λO1 O2=>(y.alloc (by omega) O1).alloc (by simp;omega) O2
   generalize G:((min dp wd:Nat):Int)=m1 at *;generalize H:((dp-wd:Nat):Int)=m2 at *;have U:Hid (((min dp wd:Nat):Int)=m1/\((dp-wd:Nat):Int)=m2):=⟨G,H⟩;clear G H;have P:((A.alloc (Â #[À Á nx,À Á m1] 280)).alloc (Â #[À Á m2,À Á 1] 120)).cell? ⟨A,0,Ã⟩=Ä (À Á nx):=by simp[go_sem]
   have Q:((A.alloc (Â #[À Á nx,À Á m1] 280)).alloc (Â #[À Á m2,À Á 1] 120)).cell? ⟨A,1,Ã⟩=Ä (À Á m1):=by simp[go_sem]
   have R:((A.alloc (Â #[À Á nx,À Á m1] 280)).alloc (Â #[À Á m2,À Á 1] 120)).cell? ⟨A.heap.size+1,0,Ã⟩=Ä (À Á m2):=by simp[go_sem]
   have S:((A.alloc (Â #[À Á nx,À Á m1] 280)).alloc (Â #[À Á m2,À Á 1] 120)).cell? ⟨A.heap.size+1,1,Ã⟩=Ä (À Á 1):=by simp[go_sem]
   have L:=m (Â #[À Á nx,À Á m1] 280) (Â #[À Á m2,À Á 1] 120);have M:=o (Â #[À Á nx,À Á m1] 280) (Â #[À Á m2,À Á 1] 120);have N:=q (Â #[À Á nx,À Á m1] 280) (Â #[À Á m2,À Á 1] 120);have O:=r (Â #[À Á nx,À Á m1] 280) (Â #[À Á m2,À Á 1] 120);have s:=f (Â #[À Á nx,À Á m1] 280) (Â #[À Á m2,À Á 1] 120);have t:=h (Â #[À Á nx,À Á m1] 280) (Â #[À Á m2,À Á 1] 120);have u:=j (Â #[À Á nx,À Á m1] 280) (Â #[À Á m2,À Á 1] 120);have x:=k (Â #[À Á nx,À Á m1] 280) (Â #[À Á m2,À Á 1] 120);have J:=E (Â #[À Á nx,À Á m1] 280) (Â #[À Á m2,À Á 1] 120);clear E m o q r f h j k V W X Y Z a b d;go_wp2_with fail
   generalize(A.alloc (Â #[À Á nx,À Á m1] 280)).alloc (Â #[À Á m2,À Á 1] 120)=w3 at *
   go_region_held3 (λa=>a.cell? ⟨A,0,Ã⟩=Ä (À Á nx)/\a.cell? ⟨A,1,Ã⟩=Ä (À Á m1)/\a.cell? ⟨A.heap.size+1,0,Ã⟩=Ä (À Á m2)/\a.cell? ⟨A.heap.size+1,1,Ã⟩=Ä (À Á 1))
    (first|exact⟨P,Q,R,S⟩|exact⟨(af (by omega)).trans ((af (by omega)).trans P),(af (by omega)).trans ((af (by omega)).trans Q),(af (by omega)).trans ((af (by omega)).trans R),(af (by omega)).trans ((af (by omega)).trans S)⟩|exact⟨(af (by omega)).trans ((af (by omega)).trans ((af (by omega)).trans ((af (by omega)).trans P))),(af (by omega)).trans ((af (by omega)).trans ((af (by omega)).trans ((af (by omega)).trans Q))),(af (by omega)).trans ((af (by omega)).trans ((af (by omega)).trans ((af (by omega)).trans R))),(af (by omega)).trans ((af (by omega)).trans ((af (by omega)).trans ((af (by omega)).trans S)))⟩) (fail)
   all_goals
    go_wp2;exact bodyPost_ret (v:=.tuple #[.agg #[À Á nx,À Á m1],.agg #[À Á m2,À Á 1]]) (by simp[results,Tryz.results274,go_sem,L,M,N,O]) rfl ⟨by rw[U.o.1,U.o.2],((((J.setCell (p:=⟨w.heap.size+1,0,Ã⟩) (by simp) _).setCell (p:=⟨w.heap.size+1,1,Ã⟩) (by simp) _).setCell (p:=⟨w.heap.size+1+1,0,Ã⟩) (by simp;omega) _).setCell (p:=⟨w.heap.size+1+1,1,Ã⟩) (by simp;omega) _).drew⟩
