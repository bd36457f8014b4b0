/- Texts as one: Pm6, Pm7, Mp0, Sk0, Sk1. -/
import Derived.Test.YthjapabokcajhaaGreatDoorPi11
import Derived.Maps.OwnSet
import Derived.DeepKeys4
open Go.Proofs.Tryz
namespace Go.Proofs.YthjapabokcajhaaGreatDoor
open Go Go.RowKit
set_option maxRecDepth 100000
set_option maxHeartbeats 16000000
instance cellInt{w:World}{p:Addr}{v:Int}(h:w.cell? p=some (.int .i64 v)):CoeDep (w.cell? p=some (.int .i64 v)) h Int:=⟨v⟩
theorem z1m(op:Int)(ho:op=2\/op=3\/op=4)(bp g n wd i c:Nat)(tx:ByteArray)(nn en:Int)(nx dp:Nat)(lg:Int)(ch:Nat)(w:World)(hi:(i:Int)<n)(hw:wd<=100)(hk:dp<=20000)
  (c0:w.cell? ⟨bp,0,none⟩=some (.slice (some ⟨g,0,none⟩) n n)) (c1:w.cell? ⟨bp,1,none⟩=some (.int .i64 wd))
  (d0:w.cell? ⟨g,i*7,none⟩=some (.int .i64 op)) (d1:w.cell? ⟨g,i*7+1,none⟩=some (.string tx)) (d2:w.cell? ⟨g,i*7+2,none⟩=some (.int .i64 nn)) (d3:w.cell? ⟨g,i*7+3,none⟩=some (.int .i64 en)) (d4:w.cell? ⟨g,i*7+4,none⟩=some (.int .i64 nx)) (d5:w.cell? ⟨g,i*7+5,none⟩=some (.int .i64 dp)) (d6:w.cell? ⟨g,i*7+6,none⟩=some (.int .i64 lg)):
  Calls prog 217 #[.pointer (some ⟨bp,0,none⟩),.agg #[.int .i64 i,.int .i64 c],.int .i64 ch] w fun e w'=>e=.returned (.tuple #[.agg #[.int .i64 nx,.int .i64 ((min dp wd:Nat):Int)],.agg #[.int .i64 ((dp-wd:Nat):Int),.int .i64 1]])/\Below w w w':=by
 have hp0:(0:Int)<=(i:Int):=by omega
 have hlt:=World.block_lt_of_cell? w ⟨bp,0,none⟩ c0;have hltg:=World.block_lt_of_cell? w ⟨g,i*7,none⟩ d0;have hx0:∀O2 O3,(((w.alloc (.cells #[.int .i64 i,.int .i64 c] 172)).alloc O2).alloc O3).cell? ⟨w.heap.size,0,none⟩=some (.int .i64 i):=fun O2 O3=>by simp[go_sem]
 have hx4:∀O2 O3 O4,((((w.alloc (.cells #[.int .i64 i,.int .i64 c] 172)).alloc O2).alloc O3).alloc O4).cell? ⟨w.heap.size,0,none⟩=some (.int .i64 i):=fun O2 O3 O4=>ka (hx0 O2 O3) O4
 rcases ho with rfl|rfl|rfl
 all_goals
  go_in;go_wp2_with fail
  go_region_held3 (fun w'=>w'.cell? ⟨bp,0,none⟩=some (.slice (some ⟨g,0,none⟩) n n)/\w'.cell? ⟨w.heap.size,0,none⟩=some (.int .i64 i)/\w'.cell? ⟨g,i*7,none⟩=some (.int .i64 (d0:Int))/\w'.cell? ⟨g,i*7+1,none⟩=some (.string tx)/\w'.cell? ⟨g,i*7+2,none⟩=some (.int .i64 nn)/\w'.cell? ⟨g,i*7+3,none⟩=some (.int .i64 en)/\w'.cell? ⟨g,i*7+4,none⟩=some (.int .i64 nx)/\w'.cell? ⟨g,i*7+5,none⟩=some (.int .i64 dp)/\w'.cell? ⟨g,i*7+6,none⟩=some (.int .i64 lg))
   (first|exact⟨k3 c0 _ _ _,hx0 _ _,k3 d0 _ _ _,k3 d1 _ _ _,k3 d2 _ _ _,k3 d3 _ _ _,k3 d4 _ _ _,k3 d5 _ _ _,k3 d6 _ _ _⟩|exact⟨k4 c0 _ _ _ _,hx4 _ _ _,k4 d0 _ _ _ _,k4 d1 _ _ _ _,k4 d2 _ _ _ _,k4 d3 _ _ _ _,k4 d4 _ _ _ _,k4 d5 _ _ _ _,k4 d6 _ _ _ _⟩) (fail)
  all_goals
   go_wp2_with fail;refine(k3e bp wd nx dp _ hw hk (k4d c1 _ _ _ _)).mono ?_;rintro e w2⟨rfl,hb2⟩;obtain⟨hcl,hfr⟩:=q1v hb2;have hs2:w.heap.size+1+1+1+1<=w2.heap.size:=by have:=hb2.size;simpa using this
   have a0:w2.cell? ⟨w.heap.size+1,0,none⟩=some (.int .i64 0):=(hcl _ _ (by simp)).trans (by simp[go_sem]);have a1:w2.cell? ⟨w.heap.size+1,1,none⟩=some (.int .i64 0):=(hcl _ _ (by simp)).trans (by simp[go_sem]);have b0:w2.cell? ⟨w.heap.size+1+1,0,none⟩=some (.int .i64 0):=(hcl _ _ (by simp)).trans (by simp[go_sem]);have b1:w2.cell? ⟨w.heap.size+1+1,1,none⟩=some (.int .i64 0):=(hcl _ _ (by simp)).trans (by simp[go_sem]);have f0:w2.frozen? ⟨w.heap.size+1,0,none⟩=false:=(hfr _ _ (by simp)).trans (by simp[go_sem]);have f1:w2.frozen? ⟨w.heap.size+1,1,none⟩=false:=(hfr _ _ (by simp)).trans (by simp[go_sem]);have f2:w2.frozen? ⟨w.heap.size+1+1,0,none⟩=false:=(hfr _ _ (by simp)).trans (by simp[go_sem]);have f3:w2.frozen? ⟨w.heap.size+1+1,1,none⟩=false:=(hfr _ _ (by simp)).trans (by simp[go_sem]);have hB:Below w w w2:=(v1e w _ _ _ _).drew.trans (hb2.mono (by simp;omega));clear hcl hfr hb2;have q0:=fun O1 O2=>ka (ka a0 O1) O2
   have q1:=fun O1 O2=>ka (ka a1 O1) O2
   have q2:=fun O1 O2=>ka (ka b0 O1) O2
   have q3:=fun O1 O2=>ka (ka b1 O1) O2
   have g0:∀O1 O2,((w2.alloc O1).alloc O2).frozen? ⟨w.heap.size+1,0,none⟩=false:=fun O1 O2=>kaf (by simp;omega) (kaf (by omega) f0 O1) O2
   have g1:∀O1 O2,((w2.alloc O1).alloc O2).frozen? ⟨w.heap.size+1,1,none⟩=false:=fun O1 O2=>kaf (by simp;omega) (kaf (by omega) f1 O1) O2
   have g2:∀O1 O2,((w2.alloc O1).alloc O2).frozen? ⟨w.heap.size+1+1,0,none⟩=false:=fun O1 O2=>kaf (by simp;omega) (kaf (by omega) f2 O1) O2
   have g3:∀O1 O2,((w2.alloc O1).alloc O2).frozen? ⟨w.heap.size+1+1,1,none⟩=false:=fun O1 O2=>kaf (by simp;omega) (kaf (by omega) f3 O1) O2
   have hbb:∀O1 O2,Below w w ((w2.alloc O1).alloc O2):=fun O1 O2=>(hB.alloc (by omega) O1).alloc (by simp;omega) O2
   generalize hm1:((min dp wd:Nat):Int)=m1 at *;generalize hm2:((dp-wd:Nat):Int)=m2 at *;have HM:Hid (((min dp wd:Nat):Int)=m1/\((dp-wd:Nat):Int)=m2):=⟨hm1,hm2⟩;clear hm1 hm2;have s0:((w2.alloc (.cells #[.int .i64 nx,.int .i64 m1] 172)).alloc (.cells #[.int .i64 m2,.int .i64 1] 54)).cell? ⟨w2.heap.size,0,none⟩=some (.int .i64 nx):=by simp[go_sem]
   have s1:((w2.alloc (.cells #[.int .i64 nx,.int .i64 m1] 172)).alloc (.cells #[.int .i64 m2,.int .i64 1] 54)).cell? ⟨w2.heap.size,1,none⟩=some (.int .i64 m1):=by simp[go_sem]
   have s2:((w2.alloc (.cells #[.int .i64 nx,.int .i64 m1] 172)).alloc (.cells #[.int .i64 m2,.int .i64 1] 54)).cell? ⟨w2.heap.size+1,0,none⟩=some (.int .i64 m2):=by simp[go_sem]
   have s3:((w2.alloc (.cells #[.int .i64 nx,.int .i64 m1] 172)).alloc (.cells #[.int .i64 m2,.int .i64 1] 54)).cell? ⟨w2.heap.size+1,1,none⟩=some (.int .i64 1):=by simp[go_sem]
   have q0':=q0 (.cells #[.int .i64 nx,.int .i64 m1] 172) (.cells #[.int .i64 m2,.int .i64 1] 54);have q1':=q1 (.cells #[.int .i64 nx,.int .i64 m1] 172) (.cells #[.int .i64 m2,.int .i64 1] 54);have q2':=q2 (.cells #[.int .i64 nx,.int .i64 m1] 172) (.cells #[.int .i64 m2,.int .i64 1] 54);have q3':=q3 (.cells #[.int .i64 nx,.int .i64 m1] 172) (.cells #[.int .i64 m2,.int .i64 1] 54);have g0':=g0 (.cells #[.int .i64 nx,.int .i64 m1] 172) (.cells #[.int .i64 m2,.int .i64 1] 54);have g1':=g1 (.cells #[.int .i64 nx,.int .i64 m1] 172) (.cells #[.int .i64 m2,.int .i64 1] 54);have g2':=g2 (.cells #[.int .i64 nx,.int .i64 m1] 172) (.cells #[.int .i64 m2,.int .i64 1] 54);have g3':=g3 (.cells #[.int .i64 nx,.int .i64 m1] 172) (.cells #[.int .i64 m2,.int .i64 1] 54);have hB3:=hbb (.cells #[.int .i64 nx,.int .i64 m1] 172) (.cells #[.int .i64 m2,.int .i64 1] 54);clear hbb q0 q1 q2 q3 g0 g1 g2 g3 a0 a1 b0 b1 f0 f1 f2 f3;go_wp2_with fail
   generalize(w2.alloc (.cells #[.int .i64 nx,.int .i64 m1] 172)).alloc (.cells #[.int .i64 m2,.int .i64 1] 54)=w3 at *
   go_region_held3 (fun w'=>w'.cell? ⟨w2.heap.size,0,none⟩=some (.int .i64 nx)/\w'.cell? ⟨w2.heap.size,1,none⟩=some (.int .i64 m1)/\w'.cell? ⟨w2.heap.size+1,0,none⟩=some (.int .i64 m2)/\w'.cell? ⟨w2.heap.size+1,1,none⟩=some (.int .i64 1))
    (first|exact⟨s0,s1,s2,s3⟩|exact⟨(cso (by omega)).trans ((cso (by omega)).trans s0),(cso (by omega)).trans ((cso (by omega)).trans s1),(cso (by omega)).trans ((cso (by omega)).trans s2),(cso (by omega)).trans ((cso (by omega)).trans s3)⟩|exact⟨(cso (by omega)).trans ((cso (by omega)).trans ((cso (by omega)).trans ((cso (by omega)).trans s0))),(cso (by omega)).trans ((cso (by omega)).trans ((cso (by omega)).trans ((cso (by omega)).trans s1))),(cso (by omega)).trans ((cso (by omega)).trans ((cso (by omega)).trans ((cso (by omega)).trans s2))),(cso (by omega)).trans ((cso (by omega)).trans ((cso (by omega)).trans ((cso (by omega)).trans s3)))⟩) (fail)
   all_goals
    go_wp2;exact bodyPost_ret (v:=.tuple #[.agg #[.int .i64 nx,.int .i64 m1],.agg #[.int .i64 m2,.int .i64 1]]) (by simp[results,Tryz.results217,go_sem,q0',q1',q2',q3']) rfl ⟨by rw[HM.o.1,HM.o.2],((((hB3.setCell (p:=⟨w.heap.size+1,0,none⟩) (by simp) _).setCell (p:=⟨w.heap.size+1,1,none⟩) (by simp) _).setCell (p:=⟨w.heap.size+1+1,0,none⟩) (by simp;omega) _).setCell (p:=⟨w.heap.size+1+1,1,none⟩) (by simp;omega) _).drew⟩
structure q5y(w:World)(bp g wd:Nat)(R:List Pl):Prop where
 c0:w.cell? ⟨bp,0,none⟩=some (.slice (some ⟨g,0,none⟩) R.length R.length)
 c1:w.cell? ⟨bp,1,none⟩=some (.int .i64 wd)
 pr:PwR w g R.length (fun j=>q2 (q1o R j))
theorem q5y.kept{w w':World}{bp g wd:Nat}{R:List Pl}(h:q5y w bp g wd R)(h1:w'.heap[bp]?=w.heap[bp]?)(h2:w'.heap[g]?=w.heap[g]?):q5y w' bp g wd R:=
 ⟨(World.cell?_of_block (w:=w) (a:=⟨bp,0,none⟩) h1).trans h.c0,(World.cell?_of_block (w:=w) (a:=⟨bp,1,none⟩) h1).trans h.c1,h.pr.kept h2⟩
theorem q5y.ltB{w:World}{bp g wd:Nat}{R:List Pl}(h:q5y w bp g wd R):bp<w.heap.size:=World.block_lt_of_cell? w ⟨bp,0,none⟩ h.c0
theorem q5y.ltG{w:World}{bp g wd:Nat}{R:List Pl}(h:q5y w bp g wd R):g<w.heap.size:=h.pr.row.lt
theorem q5y.alloc{w:World}{bp g wd:Nat}{R:List Pl}(h:q5y w bp g wd R)(O:Obj):q5y (w.alloc O) bp g wd R:=h.kept (Below.heap_alloc _ _ _ h.ltB) (Below.heap_alloc _ _ _ h.ltG)
theorem j2e{R:List Pl}{L M i nx dp wd c ch:Nat}{ks:List (Nat × Tr)}{t:Tr}(bp g:Nat)(w:World)(hR:R.length<=400)(h:Sp R L M i t nx dp ks)(hc:c<=wd)(hw:wd<=100)(hL:L<=400)(hM:M<=3200)(hch:ch=0\/ch=1)(hh:t.lg=-1->ch=1)(hP:q5y w bp g wd R):
  Calls prog 217 #[.pointer (some ⟨bp,0,none⟩),.agg #[.int .i64 i,.int .i64 c],.int .i64 ch] w fun e w'=>e=.returned (.tuple #[.agg #[.int .i64 (q3h R wd i c ch).np,.int .i64 (q3h R wd i c ch).nc],.agg #[.int .i64 (q3h R wd i c ch).o,.int .i64 (q3h R wd i c ch).l]])/\Below w w w':=by
 have hi:(i:Int)<(R.length:Nat):=by have:=h.lt;omega
 have d:=hP.pr.get i h.lt;have hbd:=h.bd;have hbl:=h.bl;rw[h.at]at d;have hc':c<=100:=by omega
 cases t with
 | leaf x=>
  have hn:=q1x h.wf.1;have d0:w.cell? ⟨g,i*7,none⟩=some (.int .i64 x.op):=d.c0;rcases q3w h.wf.1 h.wf.2 with e|e|e|e|e
  ·rw[q5d h,z8x e];rw[e]at d0;refine(k8h bp g R.length wd i c x.tx _ _ nx dp 0 ch w hi hw hc' (by have:=q3y (hn.2.2.2.2.1 e);omega) hP.c0 hP.c1 d0 d.c1 d.c2 d.c3 d.c4 d.c5 d.c6).mono ?_;rintro e w2⟨rfl,hb⟩;exact⟨rfl,hb⟩
  ·rw[q5d h,z0j (.inl e)];rw[e]at d0;refine(z1m 2 (.inl rfl) bp g R.length wd i c x.tx _ _ nx dp 0 ch w hi hw (by omega) hP.c0 hP.c1 d0 d.c1 d.c2 d.c3 d.c4 d.c5 d.c6).mono ?_;rintro e w2⟨rfl,hb⟩;exact⟨rfl,hb⟩
  ·rw[q5d h,z0j (.inr (.inl e))];rw[e]at d0;refine(z1m 3 (.inr (.inl rfl)) bp g R.length wd i c x.tx _ _ nx dp 0 ch w hi hw (by omega) hP.c0 hP.c1 d0 d.c1 d.c2 d.c3 d.c4 d.c5 d.c6).mono ?_;rintro e w2⟨rfl,hb⟩;exact⟨rfl,hb⟩
  ·rw[q5d h,z0j (.inr (.inr e))];rw[e]at d0;refine(z1m 4 (.inr (.inr rfl)) bp g R.length wd i c x.tx _ _ nx dp 0 ch w hi hw (by omega) hP.c0 hP.c1 d0 d.c1 d.c2 d.c3 d.c4 d.c5 d.c6).mono ?_;rintro e w2⟨rfl,hb⟩;exact⟨rfl,hb⟩
  ·rw[q5d h,z8y e];rw[e]at d0;refine(k8i bp g R.length i c x.tx _ _ nx dp 0 ch w hi hP.c0 d0 d.c1 d.c2 d.c3 d.c4 d.c5 d.c6).mono ?_;rintro e w2⟨rfl,hb⟩;exact⟨rfl,hb⟩
 | one x a=>
  have d0:w.cell? ⟨g,i*7,none⟩=some (.int .i64 x.op):=d.c0;have d6:w.cell? ⟨g,i*7+6,none⟩=some (.int .i64 (Tr.lg (.one x a))):=d.c6;rcases q7z h.wf.2.1 with e|e
  ·rw[q6u h,z0i (.inr (.inl e))];rw[e]at d0;have e6:Tr.lg (.one x a)=((0:Nat):Int):=by simp[Tr.lg,e]
   rw[e6]at d6;refine(k3d bp g R.length i c _ _ _ nx dp 0 ch w hR hi hP.c0 d0 d.c1 d.c2 d.c3 d.c4 d.c5 d6).mono ?_;rintro e w2⟨rfl,hb⟩;exact⟨rfl,hb⟩
  ·have e6:Tr.lg (.one x a)=lgF a.flat:=by simp[Tr.lg,e]
   rw[e]at d0;rcases hch with rfl|rfl
   ·have hf:∃s,a.flat=some s:=by
     cases hf:a.flat with
     | some s=>exact⟨s,rfl⟩
     | none=>exact absurd (hh (by rw[e6,hf];rfl)) (by omega)
    obtain⟨s,hf⟩:=hf;have hs:=q9h a s h.wf.2.2 hf;have e7:Tr.lg (.one x a)=((s.length:Nat):Int):=by rw[e6,hf];rfl
    rw[q6u h,z8w e rfl,e7,Int.toNat_natCast];rw[e7]at d6;refine(k8f bp g R.length wd i c _ _ _ nx dp s.length w hi hw hc' (by simp only[Tr.lf]at hbl;omega) hP.c0 hP.c1 d0 d.c1 d.c2 d.c3 d.c4 d.c5 d6).mono ?_;rintro e w2⟨rfl,hb⟩;exact⟨rfl,hb⟩
   ·rw[q6u h,z0i (by omega)];cases hf:a.flat with
    | some s=>
     have e7:Tr.lg (.one x a)=((s.length:Nat):Int):=by rw[e6,hf];rfl
     rw[e7]at d6;refine(z3n bp g R.length i c _ _ _ nx dp _ w hR hi hP.c0 d0 d.c1 d.c2 d.c3 d.c4 d.c5 d6).mono ?_;rintro e w2⟨rfl,hb⟩;exact⟨rfl,hb⟩
    | none=>
     have e7:Tr.lg (.one x a)=-1:=by rw[e6,hf];rfl
     rw[e7]at d6;refine(z3n bp g R.length i c _ _ _ nx dp _ w hR hi hP.c0 d0 d.c1 d.c2 d.c3 d.c4 d.c5 d6).mono ?_;rintro e w2⟨rfl,hb⟩;exact⟨rfl,hb⟩
 | two x a b=>
  have d0:w.cell? ⟨g,i*7,none⟩=some (.int .i64 x.op):=d.c0;obtain⟨nx',ks',hs⟩:=h.two1;have hi1:(i:Int)+1<(R.length:Nat):=by have:=hs.lt;omega
  rcases q7m h.wf.2.1 with e|e
  ·rw[q8p h,z0i (.inl e)];rw[e]at d0;refine(j2f bp g R.length i c _ _ _ nx dp 0 ch w hR hi hP.c0 d0 d.c1 d.c2 d.c3 d.c4 d.c5 d.c6).mono ?_;rintro e w2⟨rfl,hb⟩;exact⟨rfl,hb⟩
  ·rw[e]at d0;rcases hch with rfl|rfl
   ·rw[q8p h,z0i (by omega)];refine(k8g bp g R.length i c _ _ _ nx dp 0 w hR hi hP.c0 d0 d.c1 d.c2 d.c3 d.c4 d.c5 d.c6).mono ?_;rintro e w2⟨rfl,hb⟩;exact⟨rfl,hb⟩
   ·have k:=hP.pr.get (i+1) hs.lt;rw[hs.at]at k;have k3:w.cell? ⟨g,(i+1)*7+3,none⟩=some (.int .i64 ((i+1+a.sz:Nat):Int)):=k.c3;rw[q8p h,z1y e rfl];refine(k0h bp g R.length i c _ _ _ nx dp 0 _ w hR hi hi1 k3 hP.c0 d0 d.c1 d.c2 d.c3 d.c4 d.c5 d.c6).mono ?_;rintro e w2⟨rfl,hb⟩;exact⟨rfl,hb⟩
end Go.Proofs.YthjapabokcajhaaGreatDoor
namespace Go.Proofs.YthjapabokcajhaaGreatDoor
open Go Go.RowKit Go.Maps
theorem v3j:laidOutB prog=true:=by kernel_rfl
theorem y9f:(172:TypeId)<prog.types.size:=of_decide_eq_true (by kernel_rfl)
theorem mkt:prog.keyTypeAt 3 172=true:=by kernel_rfl
theorem y2t:Keyed prog 172:=Keyed.of_law (deep_law_laid v3j (m:=3) (by omega) y9f mkt (by rw[Tryz.underlying172]))
theorem y8g:prog.keyType 172=true:=by kernel_rfl
theorem v6z:prog.cellsOf 172=2:=by kernel_rfl
theorem y1c:prog.cellsOf 3=1:=by kernel_rfl
theorem y8f:∃d,prog.types.size=d+1:=⟨371-1,by kernel_rfl⟩
theorem y4o(w:World):(zeroValue 174).run prog w=.ok (.agg #[.int .i64 0,.int .i64 0,.int .i64 0,.int .i64 0,.int .i64 0]) w:=by kernel_rfl
theorem y9b{n:Nat}(h:n<=1000000):(Lit.int .i64 (n:Int)).wf=true:=WalkArith.wf_i64 (by omega)
theorem y8e{p c:Nat}(hp:p<=1000000)(hc:c<=1000000):∃kl,keyOf prog 172 (.agg #[.int .i64 (p:Int),.int .i64 (c:Int)])=some kl:=by
 obtain⟨d,hd⟩:=y8f;have h1:=y9b hp;have h2:=y9b hc
 have hf:(Value.agg #[.int .i64 (p:Int),.int .i64 (c:Int)]).formed prog 172=true:=by
  simp[Value.formed,Tryz.underlying172,v6z]
 refine⟨.string (keyBytes [.int .i64 p,.int .i64 c]),?_⟩;unfold keyOf;rw[Tryz.underlying172];simp only[y8g,hf,Bool.and_self,if_true,hd];simp[Program.keyLits,Tryz.underlying172,Tryz.underlying3,v6z,y1c,Value.cells,h1,h2]
def cvV(k:Cv):Value:=.agg #[.int .i64 k.o,.int .i64 k.l,.int .i64 k.ch,.int .i64 k.np,.int .i64 k.nc]
def zCv:Cv:=⟨0,0,0,0,0⟩
def cvR(v:Value):Option (DataW Value × List MemPlace):=some (.held v,[])
def y6v(S:Nat->Nat->Bool):Nat:=(List.range 40501).countP fun k=>S (k / 101) (k % 101)
theorem v9g(S:Nat->Nat->Bool):y6v S<=40501:=by
 have:=List.countP_le_length (p:=fun k=>S (k / 101) (k % 101)) (l:=List.range 40501)
 rw[List.length_range]at this;exact this
def z9u(S:Nat->Nat->Bool)(p c:Nat):Nat->Nat->Bool:=fun p' c'=>S p' c'||(decide (p'=p)&&decide (c'=c))
theorem z6e{f g:Nat->Bool}(k:Nat):∀(l:List Nat),k∈l->(∀x,f x=true->g x=true)->f k=false->g k=true->l.countP f+1<=l.countP g
 | [],h,_,_,_=>by simp at h
 | a::l,h,h1,h2,h3=>by
  have hm:l.countP f<=l.countP g:=List.countP_mono_left fun x _=>h1 x
  rw[List.countP_cons,List.countP_cons];by_cases e:a=k
  ·subst e;rw[h2,h3];simp;omega
  ·have h4:=z6e k l (by rcases List.mem_cons.1 h with h|h;exact absurd h.symm e;exact h) h1 h2 h3;cases hf:f a with
   | true=>rw[h1 a hf];omega
   | false=>simp only[Bool.false_eq_true,if_false,Nat.add_zero];exact Nat.le_trans h4 (Nat.le_add_right _ _)
theorem v1q{S:Nat->Nat->Bool}{p c:Nat}(hp:p<=400)(hc:c<=100)(h:S p c=false):y6v S+1<=y6v (z9u S p c):=by
 have e1:(p*101+c) / 101=p:=by omega
 have e2:(p*101+c) % 101=c:=by omega
 refine z6e (p*101+c) _ (List.mem_range.2 (by omega)) (fun x hx=>?_) ?_ ?_
 ·simp only[z9u,hx,Bool.true_or]
 ·rw[e1,e2];exact h
 ·simp[z9u,e1,e2]
def Mem(w:World)(b:Nat)(C:Nat->Nat->Cv)(S:Nat->Nat->Bool):Prop:=
 ∃D n,w.ownsMap prog 172 cvR b n D/\n<=y6v S/\∀p c:Nat,p<=400->c<=100->∀kl,keyOf prog 172 (.agg #[.int .i64 (p:Int),.int .i64 (c:Int)])=some kl->
  Maps.has D kl=S p c/\D.atKey kl (.held (cvV zCv))=.held (cvV (if S p c=true then C p c else zCv))
section
variable {w w':World} {b:Nat} {C:Nat→Nat→Cv} {S:Nat→Nat→Bool} {p c:Nat}
theorem Mem.lt(h:Mem w b C S):b<w.heap.size:=by
 obtain⟨D,n,h,_⟩:=h;exact h.lt
theorem Mem.kept(h:Mem w b C S)(hb:w'.heap[b]?=w.heap[b]?):Mem w' b C S:=by
 obtain⟨D,n,⟨es,clock,h1,h2⟩,h3⟩:=h;exact⟨D,n,⟨es,clock,hb.trans h1,h2⟩,h3⟩
theorem Mem.look(h:Mem w b C S)(hp:p<=400)(hc:c<=100):(Instr.lookup 168 (.map (some b)) (.agg #[.int .i64 (p:Int),.int .i64 (c:Int)]) false).run prog w=.ok (cvV (if S p c=true then C p c else zCv)) w:=by
 obtain⟨D,n,h,_,h2⟩:=h;obtain⟨kl,hk⟩:=y8e (p:=p) (c:=c) (by omega) (by omega);obtain⟨v,ps,hrun,hv⟩:=h.lookup y2t Tryz.underlying168 (y4o w) (zd:=.held (cvV zCv)) (zp:=[]) rfl hk;rw[(h2 p c hp hc kl hk).2]at hv;simp only[cvR,Option.some.injEq,Prod.mk.injEq,DataW.held.injEq]at hv;rw[hrun,hv.1]
theorem Mem.look_ok(h:Mem w b C S)(hp:p<=400)(hc:c<=100):(Instr.lookup 168 (.map (some b)) (.agg #[.int .i64 (p:Int),.int .i64 (c:Int)]) true).run prog w=.ok (.tuple #[cvV (if S p c=true then C p c else zCv),.bool (S p c)]) w:=by
 obtain⟨D,n,h,_,h2⟩:=h;obtain⟨kl,hk⟩:=y8e (p:=p) (c:=c) (by omega) (by omega);obtain⟨v,ps,hrun,hv⟩:=h.look_ok y2t Tryz.underlying168 (y4o w) (zd:=.held (cvV zCv)) (zp:=[]) rfl hk;rw[(h2 p c hp hc kl hk).2]at hv;simp only[cvR,Option.some.injEq,Prod.mk.injEq,DataW.held.injEq]at hv;rw[hrun,hv.1,(h2 p c hp hc kl hk).1]
theorem Mem.store(h:Mem w b C S)(hp:p<=400)(hc:c<=100)(hs:S p c=false):
  ∃w',(Instr.mapUpdate 168 (.map (some b)) (.agg #[.int .i64 (p:Int),.int .i64 (c:Int)]) (cvV (C p c))).run prog w=.ok () w'/\Mem w' b C (z9u S p c)/\w.grownBy w' (some b):=by
 obtain⟨D,n,h,hn,h2⟩:=h;obtain⟨kl,hk⟩:=y8e (p:=p) (c:=c) (by omega) (by omega);obtain⟨w1,hrun,hown,hg⟩:=h.update y2t Tryz.underlying168 (by have:=v9g S;unfold maxLen;omega) hk (d:=.held (cvV (C p c))) (ps:=[]) (val:=cvV (C p c)) rfl;refine⟨w1,hrun,⟨_,_,hown,Nat.le_trans (Nat.add_le_add_right hn 1) (v1q hp hc hs),fun p' c' hp' hc' kl' hk'=>?_⟩,hg⟩;by_cases e:p'=p/\c'=c
 ·obtain⟨rfl,rfl⟩:=e;have ek:kl'=kl:=by rw[hk]at hk';exact(Option.some.inj hk').symm
  subst ek;have ea:z9u S p' c' p' c'=true:=by simp[z9u]
  rw[ea,if_pos rfl];exact⟨has_put_same h.isMap (y2t.key hk) _,atKey_put_same h.isMap (y2t.key hk) _ _⟩
 ·have ne:kl'≠kl:=by
   intro ek;subst ek
   have:=y2t.inj hk' hk
   simp at this;omega
  have ea:z9u S p c p' c'=S p' c':=by
   simp only[z9u];by_cases e1:p'=p
   ·have e2:¬c'=c:=fun e2=>e ⟨e1,e2⟩
    simp[e2]
   ·simp[e1]
  rw[ea,has_put_other ne,atKey_put_other ne];exact h2 p' c' hp' hc' kl' hk'
end
theorem Mem.made(w:World)(C:Nat->Nat->Cv):Mem (w.alloc (.map #[] 0)) w.heap.size C (fun _ _=>false):=
 ⟨.map [],0,World.ownsMap_made _ _ _ _,Nat.zero_le _,fun _ _ _ _ _ _=>⟨rfl,rfl⟩⟩
end Go.Proofs.YthjapabokcajhaaGreatDoor
namespace Go.Proofs.YthjapabokcajhaaGreatDoor
open Go Go.RowKit
structure Inv(sb g mb wd:Nat)(R:List Pl)(w:World)(S:Nat->Nat->Bool):Prop where
 pl:q5y w sb g wd R
 c2:w.cell? ⟨sb,2,none⟩=some (.map (some mb))
 me:Mem w mb (crs R wd) S
 cl:∀p c,S p c=true->p<R.length/\c<=wd/\((crs R wd p c).np<R.length->S (crs R wd p c).np (crs R wd p c).nc=true)
theorem k3f{w:World}{b o:Nat}{v:Value}{es:Array MapEntry}{cl:Nat}(h:w.cell? ⟨b,o,none⟩=some v)(h2:w.heap[b]?=some (.map es cl)):False:=by
 simp[World.cell?,h2]at h
section
variable {sb g mb wd:Nat} {R:List Pl} {w w':World} {S:Nat→Nat→Bool}
theorem Inv.nb(h:Inv sb g mb wd R w S):sb≠mb:=by
 intro e;subst e;obtain⟨D,n,⟨es,cl,h1,_⟩,_⟩:=h.me;exact k3f h.c2 h1
theorem Inv.ng(h:Inv sb g mb wd R w S):g≠mb:=by
 intro e;subst e;obtain⟨D,n,⟨es,cl,h1,_⟩,_⟩:=h.me;obtain⟨cs,T,h2⟩:=h.pl.pr.row;rw[h1]at h2;cases h2
theorem Inv.lt(h:Inv sb g mb wd R w S):sb<w.heap.size/\g<w.heap.size/\mb<w.heap.size:=⟨h.pl.ltB,h.pl.ltG,h.me.lt⟩
theorem Inv.kept(h:Inv sb g mb wd R w S)(hb:∀k,k<w.heap.size->w'.heap[k]?=w.heap[k]?):Inv sb g mb wd R w' S:=
 ⟨h.pl.kept (hb _ h.lt.1) (hb _ h.lt.2.1),(World.cell?_of_block (w:=w) (a:=⟨sb,2,none⟩) (hb _ h.lt.1)).trans h.c2,h.me.kept (hb _ h.lt.2.2),h.cl⟩
theorem Inv.kept3(h:Inv sb g mb wd R w S)(h1:w'.heap[sb]?=w.heap[sb]?)(h2:w'.heap[g]?=w.heap[g]?)(h3:w'.heap[mb]?=w.heap[mb]?):Inv sb g mb wd R w' S:=
 ⟨h.pl.kept h1 h2,(World.cell?_of_block (w:=w) (a:=⟨sb,2,none⟩) h1).trans h.c2,h.me.kept h3,h.cl⟩
theorem v9v{wr:World}{b k:Nat}(hk:k≠b)(v0 v1 v2 v3 v4:Value):(((((wr.setCell ⟨b,0,none⟩ v0).setCell ⟨b,1,none⟩ v1).setCell ⟨b,2,none⟩ v2).setCell ⟨b,3,none⟩ v3).setCell ⟨b,4,none⟩ v4).heap[k]?=wr.heap[k]?:=
 (Below.heap_setCell _ _ _ _ hk).trans ((Below.heap_setCell _ _ _ _ hk).trans ((Below.heap_setCell _ _ _ _ hk).trans ((Below.heap_setCell _ _ _ _ hk).trans (Below.heap_setCell _ _ _ _ hk))))
theorem Inv.set5{b:Nat}(h:Inv sb g mb wd R w S)(h1:sb≠b)(h2:g≠b)(h3:mb≠b)(v0 v1 v2 v3 v4:Value):Inv sb g mb wd R (((((w.setCell ⟨b,0,none⟩ v0).setCell ⟨b,1,none⟩ v1).setCell ⟨b,2,none⟩ v2).setCell ⟨b,3,none⟩ v3).setCell ⟨b,4,none⟩ v4) S:=
 h.kept3 (v9v h1 _ _ _ _ _) (v9v h2 _ _ _ _ _) (v9v h3 _ _ _ _ _)
theorem Inv.below(h:Inv sb g mb wd R w S)(hb:Below w w w'):Inv sb g mb wd R w' S:=h.kept fun k hk=>hb.block k hk
theorem Inv.alloc(h:Inv sb g mb wd R w S)(O:Obj):Inv sb g mb wd R (w.alloc O) S:=h.kept fun _ hk=>Below.heap_alloc _ _ _ hk
theorem Inv.more{p c:Nat}(h:Inv sb g mb wd R w S)(hg:w.grownBy w' (some mb))(hm:Mem w' mb (crs R wd) (z9u S p c))(hp:p<R.length)(hc:c<=wd)(hn:(crs R wd p c).np<R.length->S (crs R wd p c).np (crs R wd p c).nc=true):Inv sb g mb wd R w' (z9u S p c) where
 pl:=h.pl.kept (hg.block _ h.lt.1 (by intro e;exact h.nb (Option.some.inj e))) (hg.block _ h.lt.2.1 (by intro e;exact h.ng (Option.some.inj e)))
 c2:=(World.cell?_of_block (w:=w) (a:=⟨sb,2,none⟩) (hg.block _ h.lt.1 (by intro e;exact h.nb (Option.some.inj e)))).trans h.c2
 me:=hm
 cl p' c' hs:=by
  have hor:∀a b,S a b=true->z9u S p c a b=true:=fun a b hab=>by simp[z9u,hab]
  by_cases e:p'=p/\c'=c
  ·obtain⟨rfl,rfl⟩:=e;exact⟨hp,hc,fun hl=>hor _ _ (hn hl)⟩
  ·have hs':S p' c'=true:=by
    simp only[z9u,Bool.or_eq_true,Bool.and_eq_true,decide_eq_true_eq]at hs;rcases hs with hs|hs
    ·exact hs
    ·exact absurd hs e
   obtain⟨h1,h2,h3⟩:=h.cl p' c' hs';exact⟨h1,h2,fun hl=>hor _ _ (h3 hl)⟩
def Left(sb g mb wd:Nat)(R:List Pl)(S:Nat->Nat->Bool)(lo p c:Nat)(w w':World):Prop:=
 q0u w mb w w'/\∃S',Inv sb g mb wd R w' S'/\(∀a b,S a b=true->S' a b=true)/\(∀a b,S' a b=true->S a b=true\/lo<=a)/\(p<R.length->S' p c=true)
theorem z6s{lo p c:Nat}(h:Inv sb g mb wd R w S)(hb:Below w w w')(hp:p<R.length->S p c=true):Left sb g mb wd R S lo p c w w':=
 ⟨q0u.of hb,S,h.below hb,fun _ _ h=>h,fun _ _ h=>.inl h,hp⟩
theorem v6l{n b:Nat}{wr:World}(h:Below n w wr)(hb:n<=b)(v0 v1 v2 v3 v4:Value):Below n w (((((wr.setCell ⟨b,0,none⟩ v0).setCell ⟨b,1,none⟩ v1).setCell ⟨b,2,none⟩ v2).setCell ⟨b,3,none⟩ v3).setCell ⟨b,4,none⟩ v4):=
 ((((h.setCell (p:=⟨b,0,none⟩) hb _).setCell (p:=⟨b,1,none⟩) hb _).setCell (p:=⟨b,2,none⟩) hb _).setCell (p:=⟨b,3,none⟩) hb _).setCell (p:=⟨b,4,none⟩) hb _
theorem k3c{n b m:Nat}{wr:World}(h:q0u n m w wr)(hb:n<=b)(v0 v1 v2 v3 v4:Value):q0u n m w (((((wr.setCell ⟨b,0,none⟩ v0).setCell ⟨b,1,none⟩ v1).setCell ⟨b,2,none⟩ v2).setCell ⟨b,3,none⟩ v3).setCell ⟨b,4,none⟩ v4):=
 ((((h.setCell (p:=⟨b,0,none⟩) (.inr hb) _).setCell (p:=⟨b,1,none⟩) (.inr hb) _).setCell (p:=⟨b,2,none⟩) (.inr hb) _).setCell (p:=⟨b,3,none⟩) (.inr hb) _).setCell (p:=⟨b,4,none⟩) (.inr hb) _
def j1g(sb g mb wd:Nat)(R:List Pl)(i c:Nat):Prop:=∀w S,Inv sb g mb wd R w S->
 Calls prog 109 #[.pointer (some ⟨sb,0,none⟩),.agg #[.int .i64 i,.int .i64 c]] w fun e w'=>e=.returned (cvV (if i<R.length then crs R wd i c else zCv))/\Left sb g mb wd R S i i c w w'
def z5u(sb g mb wd:Nat)(R:List Pl)(i c ch:Nat):Prop:=∀w S,Inv sb g mb wd R w S->
 Calls prog 195 #[.pointer (some ⟨sb,0,none⟩),.agg #[.int .i64 i,.int .i64 c],.int .i64 ch] w fun e w'=>e=.returned (cvV (tkC R wd i c ch))/\Left sb g mb wd R S (i+1) (q3h R wd i c ch).np (q3h R wd i c ch).nc w w'
def k2w(sb g mb wd:Nat)(R:List Pl)(i c:Nat):Prop:=∀w S,Inv sb g mb wd R w S->
 Calls prog 163 #[.pointer (some ⟨sb,0,none⟩),.agg #[.int .i64 i,.int .i64 c]] w fun e w'=>e=.returned (cvV (crs R wd i c))/\Left sb g mb wd R S (i+1) (crs R wd i c).np (crs R wd i c).nc w w'
end
end Go.Proofs.YthjapabokcajhaaGreatDoor
namespace Go.Proofs.YthjapabokcajhaaGreatDoor
open Go Go.RowKit
set_option maxRecDepth 100000
set_option maxHeartbeats 4000000
theorem k0f{w wr:World}(h:Below w w wr)(O:Obj):Below w w (wr.alloc O):=h.alloc h.size O
theorem k5p{B:Nat}{w wr:World}(h:Below B w wr)(n:Nat):Below B w (wr.drewN n):=h.trans ⟨rfl,rfl,rfl,Nat.le_refl _,fun _ _=>rfl⟩
theorem k7j(sb g mb wd i c:Nat)(R:List Pl)(hi:i=R.length):j1g sb g mb wd R i c:=by
 intro w S h;have c0:=h.pl.c0;have H:Hid (Inv sb g mb wd R w S):=h;have hlt:=h.lt.1;have heq:((i:Int)==(R.length:Int))=true:=by rw[hi];simp
 have hz:(if i<R.length then crs R wd i c else zCv)=zCv:=if_neg (by omega);rw[hz,cvV,zCv];have c0':∀O1 O2,((w.alloc O1).alloc O2).cell? ⟨sb,0,none⟩=some (.slice (some ⟨g,0,none⟩) R.length R.length):=fun O1 O2=>ka (ka c0 O1) O2
 have HB:Hid (∀O1 O2,Below w w ((w.alloc O1).alloc O2)):=fun O1 O2=>((Below.refl _ w).alloc Zl O1).alloc (by simp) O2
 have HI:Hid (i=R.length):=hi;clear h c0 hz hi;go_in;go_wp2_with fail
 go_quiet (fail)
 go_wp2;refine bodyPost_ret (v:=.agg #[.int .i64 0,.int .i64 0,.int .i64 0,.int .i64 0,.int .i64 0]) (by simp[results,Tryz.results109,go_sem]) rfl ?_;exact⟨rfl,z6s H.o (v6l (k5p (HB.o _ _) nq) (by omega) _ _ _ _ _) (fun h=>absurd h (by rw[HI.o];omega))⟩
structure Sk1(sb g mb wd i c:Nat)(R:List Pl)(S:Nat->Nat->Bool)(w w1:World):Prop where
 inv:Inv sb g mb wd R w1 S
 sz:w1.heap.size=w.heap.size+1+1
 a0:w1.cell? ⟨w.heap.size,0,none⟩=some (.int .i64 i)
 a1:w1.cell? ⟨w.heap.size,1,none⟩=some (.int .i64 c)
 r0:w1.cell? ⟨w.heap.size+1,0,none⟩=some (.int .i64 0)
 r1:w1.cell? ⟨w.heap.size+1,1,none⟩=some (.int .i64 0)
 r2:w1.cell? ⟨w.heap.size+1,2,none⟩=some (.int .i64 0)
 r3:w1.cell? ⟨w.heap.size+1,3,none⟩=some (.int .i64 0)
 r4:w1.cell? ⟨w.heap.size+1,4,none⟩=some (.int .i64 0)
 fr:q7p w1 (w.heap.size+1)
 bw:Below w w w1
theorem z7e{sb g mb wd i c nq:Nat}{R:List Pl}{S:Nat->Nat->Bool}{w:World}(h:Inv sb g mb wd R w S):
  Sk1 sb g mb wd i c R S w (((w.alloc (.cells #[.int .i64 i,.int .i64 c] 172)).alloc (.cells #[.int .i64 0,.int .i64 0,.int .i64 0,.int .i64 0,.int .i64 0] 174)).drewN nq):=by
 have hb:Below w w (((w.alloc (.cells #[.int .i64 i,.int .i64 c] 172)).alloc (.cells #[.int .i64 0,.int .i64 0,.int .i64 0,.int .i64 0,.int .i64 0] 174)).drewN nq):=
  (((Below.refl _ w).alloc Zl _).alloc (by simp) _).trans ⟨rfl,rfl,rfl,Nat.le_refl _,fun _ _=>rfl⟩
 have n1:=heap_alloc_new (w.alloc (.cells #[.int .i64 i,.int .i64 c] 172)) (.cells #[.int .i64 0,.int .i64 0,.int .i64 0,.int .i64 0,.int .i64 0] 174);have s1:(w.alloc (.cells #[.int .i64 i,.int .i64 c] 172)).heap.size=w.heap.size+1:=by simp
 rw[s1]at n1;exact⟨h.below hb,by simp,by simp[go_sem],by simp[go_sem],by simp[go_sem],by simp[go_sem],by simp[go_sem],by simp[go_sem],by simp[go_sem],⟨_,_,n1⟩,hb⟩
theorem k9z(sb g mb wd i c:Nat)(R:List Pl)(hi:i<R.length)(hR:R.length<=400)(hc:c<=100)(w:World)(S:Nat->Nat->Bool)(h:Inv sb g mb wd R w S)(hS:S i c=true):
  Calls prog 109 #[.pointer (some ⟨sb,0,none⟩),.agg #[.int .i64 i,.int .i64 c]] w fun e w'=>e=.returned (cvV (crs R wd i c))/\Left sb g mb wd R S i i c w w':=by
 have c0:=h.pl.c0;have H:Hid (Inv sb g mb wd R w S):=h;have hlt:=h.lt.1;have hne:((i:Int)==(R.length:Int))=false:=beq_eq_false_iff_ne.2 (by omega);have c0':∀O1 O2,((w.alloc O1).alloc O2).cell? ⟨sb,0,none⟩=some (.slice (some ⟨g,0,none⟩) R.length R.length):=fun O1 O2=>ka (ka c0 O1) O2
 have HS:Hid (S i c=true):=hS
 have HLK:Hid (∀W,Mem W mb (crs R wd) S->(Instr.lookup 168 (.map (some mb)) (.agg #[.int .i64 (i:Int),.int .i64 (c:Int)]) true).run prog W=.ok (.tuple #[.agg #[.int .i64 (crs R wd i c).o,.int .i64 (crs R wd i c).l,.int .i64 (crs R wd i c).ch,.int .i64 (crs R wd i c).np,.int .i64 (crs R wd i c).nc],.bool true]) W):=fun W hW=>by
  have:=hW.look_ok (p:=i) (c:=c) (by omega) hc
  rw[HS.o,if_pos rfl]at this;exact this
 rw[cvV];clear h c0 hS;generalize crs R wd i c=k at *;go_in;go_wp2_with fail
 go_quiet (fail)
 go_wp2_with fail;have hsk:=z7e (i:=i) (c:=c) (nq:=nq) H.o
 generalize((w.alloc (.cells #[.int .i64 i,.int .i64 c] 172)).alloc (.cells #[.int .i64 0,.int .i64 0,.int .i64 0,.int .i64 0,.int .i64 0] 174)).drewN nq=w1 at *
 have HK:Hid (Sk1 sb g mb wd i c R S w w1):=hsk;have c2:=hsk.inv.c2;obtain⟨_,hsz,a0,a1,r0,r1,r2,r3,r4,fr,_⟩:=hsk;have hL0:=HLK.o w1.drew (HK.o.inv.me.kept rfl);have hL1:=fun O=>HLK.o (w1.alloc O).drew ((HK.o.inv.alloc O).me.kept rfl)
 have q0:=fun O=>ka r0 O
 have q1:=fun O=>ka r1 O
 have q2:=fun O=>ka r2 O
 have q3:=fun O=>ka r3 O
 have q4:=fun O=>ka r4 O
 have z0:=fun O=>kaf (o:=0) (O:=O) fr.lt fr.frozen
 have z1:=fun O=>kaf (o:=1) (O:=O) fr.lt fr.frozen
 have z2:=fun O=>kaf (o:=2) (O:=O) fr.lt fr.frozen
 have z3:=fun O=>kaf (o:=3) (O:=O) fr.lt fr.frozen
 have z4:=fun O=>kaf (o:=4) (O:=O) fr.lt fr.frozen
 have y0:w1.frozen? ⟨w.heap.size+1,0,none⟩=false:=fr.frozen;have y1:w1.frozen? ⟨w.heap.size+1,1,none⟩=false:=fr.frozen;have y2:w1.frozen? ⟨w.heap.size+1,2,none⟩=false:=fr.frozen;have y3:w1.frozen? ⟨w.heap.size+1,3,none⟩=false:=fr.frozen;have y4:w1.frozen? ⟨w.heap.size+1,4,none⟩=false:=fr.frozen;clear fr c0'
 go_region_held3 (fun w'=>w'.cell? ⟨sb,2,none⟩=some (.map (some mb))/\w'.cell? ⟨w.heap.size,0,none⟩=some (.int .i64 i)/\w'.cell? ⟨w.heap.size,1,none⟩=some (.int .i64 c)/\(Instr.lookup 168 (.map (some mb)) (.agg #[.int .i64 (i:Int),.int .i64 (c:Int)]) true).run prog w'=.ok (.tuple #[.agg #[.int .i64 k.o,.int .i64 k.l,.int .i64 k.ch,.int .i64 k.np,.int .i64 k.nc],.bool true]) w')
  (first|exact⟨c2,a0,a1,hL0⟩|exact⟨ka c2 _,ka a0 _,ka a1 _,hL1 _⟩) (fail)
 all_goals
  go_wp2;exact bodyPost_ret (v:=.agg #[.int .i64 k.o,.int .i64 k.l,.int .i64 k.ch,.int .i64 k.np,.int .i64 k.nc]) (by simp[results,Tryz.results109,go_sem,hsz,r0,r1,r2,r3,r4]) rfl ⟨rfl,z6s H.o (Below.drew (k0f (v6l HK.o.bw (by omega) _ _ _ _ _) _)) (fun _=>HS.o)⟩
end Go.Proofs.YthjapabokcajhaaGreatDoor
