/- Texts as one: Add, Pm2, Pm3, SelT. -/
import Derived.Test.YtchdplceopegoaaGreatDoorPs16
namespace Go.Proofs.YtchdplceopegoaaGreatDoor
open Go Go.RowKit
set_option maxRecDepth 100000
set_option maxHeartbeats 1000000
theorem y0c {w w1:World} {A B C D:Obj} (hb:Below ((((w.alloc A).alloc B).alloc C).alloc D).heap.size ((((w.alloc A).alloc B).alloc C).alloc D) w1):Below w.heap.size w w1:=
 (((((Below.refl _ _).alloc (Nat.le_refl _) _).alloc (by simp) _).alloc (by simp;omega) _).alloc (by simp;omega) _).trans (hb.mono (by simp;omega))
theorem v2i {n:Nat} {w w1 w2:World} {A B:Obj} (h1:Below n w w1) (hn:n≤w.heap.size) (hb:Below ((w1.alloc A).alloc B).heap.size ((w1.alloc A).alloc B) w2):Below n w w2:=
 have h2:=h1.size
 ((h1.alloc (by omega) _).alloc (by simp;omega) _).trans (hb.mono (by simp;omega))
theorem v3p {a:Int × Int} (h:okC a=true):(0≤a.1∧a.1≤1000000)∧(0≤a.2∧a.2≤1000000):=by
 simp only [okC,Bool.and_eq_true] at h
 exact ⟨z3b h.1,z3b h.2⟩
abbrev y4f (a b:Int × Int):Int × Int:=(a.1+b.1,a.2+b.2)
theorem v9z (a b:Int × Int) (w:World) (ha:okC a=true) (hb:okC b=true) (hn:okC (y4f a b)=true) :
  Calls Tryz.prog 244 #[j8a a,j8a b] w fun e w'=>e = .returned (.tuple #[.agg #[.int .i64 (a.1+b.1),.int .i64 (a.2+b.2)],.nilIface])∧Below w.heap.size w w':=by
 obtain ⟨⟨p1,p2⟩,⟨p3,p4⟩⟩:=v3p ha
 obtain ⟨⟨q1,q2⟩,⟨q3,q4⟩⟩:=v3p hb
 have HA:Hid (okC a=true):=ha
 have HB:Hid (okC b=true):=hb
 have HN:Hid (okC (y4f a b)=true):=hn
 clear hn ha hb
 go_enter Tryz.func244,Tryz.ntmps244
 go_wp2_with fail
 refine (z2v a b (w.heap.size+1+1+1) _ (by simp) HA.out HB.out (by simp [go_sem]) (by simp [go_sem]) (by simp [go_sem]) (by simp [go_sem])).mono ?_
 rintro e w1 ⟨rfl,hb1⟩
 have hbw:=y0c hb1
 obtain ⟨hc,hf⟩:=q0w hb1
 have hz:w.heap.size+1+1+1<w1.heap.size:=by have:=hb1.size;simp at this;omega
 clear hb1
 have r0:w1.cell? ⟨w.heap.size+1+1,0,none⟩=some (.int .i64 0):=(hc _ _ (by simp only [World.size_alloc];omega)).trans (by simp [go_sem])
 have r1:w1.cell? ⟨w.heap.size+1+1,1,none⟩=some (.int .i64 0):=(hc _ _ (by simp only [World.size_alloc];omega)).trans (by simp [go_sem])
 have f0:w1.frozen? ⟨w.heap.size+1+1,0,none⟩=false:=(hf _ _ (by simp only [World.size_alloc];omega)).trans (by simp [go_sem])
 have f1:w1.frozen? ⟨w.heap.size+1+1,1,none⟩=false:=(hf _ _ (by simp only [World.size_alloc];omega)).trans (by simp [go_sem])
 have u0:w1.cell? ⟨w.heap.size,0,none⟩=some (.int .i64 a.1):=(hc _ _ (by simp only [World.size_alloc];omega)).trans (by simp [go_sem])
 have u1:w1.cell? ⟨w.heap.size,1,none⟩=some (.int .i64 a.2):=(hc _ _ (by simp only [World.size_alloc];omega)).trans (by simp [go_sem])
 have v0:w1.cell? ⟨w.heap.size+1,0,none⟩=some (.int .i64 b.1):=(hc _ _ (by simp only [World.size_alloc];omega)).trans (by simp [go_sem])
 have v1:w1.cell? ⟨w.heap.size+1,1,none⟩=some (.int .i64 b.2):=(hc _ _ (by simp only [World.size_alloc];omega)).trans (by simp [go_sem])
 clear hc hf
 go_wp2_with fail
 refine (k9o (y4f a b) (w1.heap.size+1) _ (by simp) HN.out (by simp [go_sem]) (by simp [go_sem])).mono ?_
 rintro e w2 ⟨rfl,hb2⟩
 have hbw2:=v2i hbw (Nat.le_refl _) hb2
 have hbx:=v2i (Below.refl w1.heap.size w1) (Nat.le_refl _) hb2
 obtain ⟨hc2,_⟩:=q0w hb2
 clear hb2
 have r0':w2.cell? ⟨w.heap.size+1+1,0,none⟩=some (.int .i64 0):=(hbx.cell (p:=⟨w.heap.size+1+1,0,none⟩) (show w.heap.size+1+1<w1.heap.size by omega)).trans r0
 have r1':w2.cell? ⟨w.heap.size+1+1,1,none⟩=some (.int .i64 0):=(hbx.cell (p:=⟨w.heap.size+1+1,1,none⟩) (show w.heap.size+1+1<w1.heap.size by omega)).trans r1
 have f0':w2.frozen? ⟨w.heap.size+1+1,0,none⟩=false:=(hbx.frozen (p:=⟨w.heap.size+1+1,0,none⟩) (show w.heap.size+1+1<w1.heap.size by omega)).trans f0
 have f1':w2.frozen? ⟨w.heap.size+1+1,1,none⟩=false:=(hbx.frozen (p:=⟨w.heap.size+1+1,1,none⟩) (show w.heap.size+1+1<w1.heap.size by omega)).trans f1
 have s0:w2.cell? ⟨w1.heap.size,0,none⟩=some (.int .i64 (a.1+b.1)):=(hc2 _ _ (by simp only [World.size_alloc];omega)).trans (by simp [go_sem])
 have s1:w2.cell? ⟨w1.heap.size,1,none⟩=some (.int .i64 (a.2+b.2)):=(hc2 _ _ (by simp only [World.size_alloc];omega)).trans (by simp [go_sem])
 clear hc2 hbw hbx r0 r1 f0 f1 u0 u1 v0 v1
 go_wp2
 exact bodyPost_ret (v:=.tuple #[.agg #[.int .i64 (a.1+b.1),.int .i64 (a.2+b.2)],.nilIface]) (by simp [results,Tryz.results244,go_sem,r0',r1']) rfl ⟨rfl,(hbw2.setCell (p:=⟨w.heap.size+1+1,0,none⟩) (by simp;omega) _).setCell (p:=⟨w.heap.size+1+1,1,none⟩) (by simp;omega) _⟩
set_option maxHeartbeats 4000000
theorem y4r (w:World) (O1 O2 O3:Obj):Below w.heap.size w (((w.alloc O1).alloc O2).alloc O3):=(((Below.refl _ w).alloc (Nat.le_refl _) _).alloc (by simp) _).alloc (by simp;omega) _
theorem z0l (bp wd p c k:Nat) (w:World) (hw:wd≤100) (hc:c≤100) (hk:k≤20000)
  (c1:w.cell? ⟨bp,1,none⟩=some (.int .i64 wd)) :
  Calls Tryz.prog 243 #[.pointer (some ⟨bp,0,none⟩),.agg #[.int .i64 p,.int .i64 c],.int .i64 k] w fun e w'=>e = .returned (.tuple #[.agg #[.int .i64 p,.int .i64 ((min (c+k) wd:Nat):Int)],.agg #[.int .i64 ((c+k - wd:Nat):Int),.int .i64 0]])∧Below w.heap.size w w':=by
 have hw1:IntKind.i64.wrap ((c:Int)+(k:Int))=(c:Int)+(k:Int):=by rw [IntKind.wrap_i64];omega
 have hw2:IntKind.i64.wrap ((c:Int)+(k:Int) - (wd:Int))=(c:Int)+(k:Int) - (wd:Int):=by rw [IntKind.wrap_i64];omega
 have hlt:=World.block_lt_of_cell? w ⟨bp,1,none⟩ c1
 have hb3:=fun O1 O2 O3=>y4r w O1 O2 O3
 have hk3:∀ O1 O2 O3,(((w.alloc O1).alloc O2).alloc O3).cell? ⟨bp,1,none⟩=some (.int .i64 wd):=fun O1 O2 O3=>((hb3 O1 O2 O3).cell (p:=⟨bp,1,none⟩) hlt).trans c1
 have hk0:∀ O2 O3,(((w.alloc (.cells #[.int .i64 p,.int .i64 c] 216)).alloc O2).alloc O3).cell? ⟨w.heap.size,0,none⟩=some (.int .i64 p):=fun O2 O3=>by simp [go_sem]
 have e1:((min (c+k) wd:Nat):Int)=min ((c:Int)+k) wd:=by omega
 have e2:((c+k - wd:Nat):Int)=max ((c:Int)+k - wd) 0:=by omega
 rw [e1,e2]
 clear e1 e2
 go_enter Tryz.func243,Tryz.ntmps243
 go_wp2_with fail
 go_region_held3 (fun w'=>w'.cell? ⟨bp,1,none⟩=some (.int .i64 wd)∧w'.cell? ⟨w.heap.size,0,none⟩=some (.int .i64 p)) (exact ⟨hk3 _ _ _,hk0 _ _⟩) (fail)
 all_goals
  go_wp2
  exact bodyPost_ret (v:=.tuple #[.agg #[.int .i64 p,.int .i64 (min ((c:Int)+k) wd)],.agg #[.int .i64 (max ((c:Int)+k - wd) 0),.int .i64 0]]) (by simp [results,Tryz.results243,go_sem]) rfl ⟨rfl,(hb3 _ _ _).drew⟩
theorem k0y (bp wd p k:Nat) (w:World) (hw:wd≤100) (hk:k≤20000) (c1:w.cell? ⟨bp,1,none⟩=some (.int .i64 wd)) :
  Calls Tryz.prog 243 #[.pointer (some ⟨bp,0,none⟩),.agg #[.int .i64 p,.int .i64 0],.int .i64 k] w fun e w'=>e = .returned (.tuple #[.agg #[.int .i64 p,.int .i64 ((min k wd:Nat):Int)],.agg #[.int .i64 ((k - wd:Nat):Int),.int .i64 0]])∧Below w.heap.size w w':=by
 have h:=z0l bp wd p 0 k w hw (by omega) hk c1
 rw [Nat.zero_add] at h
 exact h
theorem q8w (op:Int) (tx:ByteArray) (a b c d e:Int) (w:World) :
  Calls Tryz.prog 165 #[.agg #[.int .i64 op,.string tx,.int .i64 a,.int .i64 b,.int .i64 c,.int .i64 d,.int .i64 e]] w fun e w'=>e = .returned (.bool (z0u op))∧Below w.heap.size w w':=by
 cases h8:(op == 8) with
 | true=>
  have e0:z0u op=true:=by simp [z0u,beq_iff_eq.1 h8]
  rw [e0]
  go_enter Tryz.func165,Tryz.ntmps165
  go_wp2
  go_ret
  exact ⟨rfl,(Below.refl _ _).alloc (Nat.le_refl _) _⟩
 | false=>
  cases h9:(op == 9) with
  | true=>
   have e0:z0u op=true:=by simp [z0u,beq_iff_eq.1 h9]
   rw [e0]
   go_enter Tryz.func165,Tryz.ntmps165
   go_wp2
   go_ret
   exact ⟨rfl,(Below.refl _ _).alloc (Nat.le_refl _) _⟩
  | false=>
   have e0:z0u op=false:=by simp [z0u,beq_eq_false_iff_ne.1 h8,beq_eq_false_iff_ne.1 h9]
   rw [e0]
   go_enter Tryz.func165,Tryz.ntmps165
   go_wp2
   go_ret
   exact ⟨rfl,(Below.refl _ _).alloc (Nat.le_refl _) _⟩
theorem z9q {a b:Nat} (ha:a≤1000000) (hb:b≤1000000):okC ((a:Int),(b:Int))=true:=by
 simp [okC,j0u]
 omega
theorem k8z (a b c d:Nat) (ha:a≤1000000) (hb:b≤1000000) (hc:c≤1000000) (hd:d≤1000000) (w:World) :
  Calls Tryz.prog 195 #[.agg #[.int .i64 a,.int .i64 b],.agg #[.int .i64 c,.int .i64 d]] w fun e w'=>e = .returned (.bool (decide (q3b (a,b) (c,d))))∧Below w.heap.size w w':=by
 have e0:decide (q3b (a,b) (c,d))=z6o ((a:Int),(b:Int)) ((c:Int),(d:Int)):=by
  rw [Bool.eq_iff_iff,decide_eq_true_eq]
  unfold z6o q3b
  dsimp only
  split
  ·rw [decide_eq_true_eq];omega
  ·rw [decide_eq_true_eq];omega
 rw [e0]
 have HL:Hid (∀ w,Calls Tryz.prog 224 #[.agg #[.int .i64 a,.int .i64 b],.agg #[.int .i64 c,.int .i64 d]] w fun e w'=>e = .returned (.tuple #[.bool (z6o ((a:Int),(b:Int)) ((c:Int),(d:Int))),.nilIface])∧Below w.heap.size w w'):=fun w=>
  v6p ((a:Int),(b:Int)) ((c:Int),(d:Int)) w (z9q ha hb) (z9q hc hd)
 clear e0
 generalize z6o ((a:Int),(b:Int)) ((c:Int),(d:Int))=v at *
 go_enter Tryz.func195,Tryz.ntmps195
 go_wp2_with fail
 refine (HL.out _).mono ?_
 rintro e w2 ⟨rfl,hb2⟩
 go_wp2
 go_ret
 exact ⟨rfl,(((Below.refl _ w).alloc (Nat.le_refl _) _).alloc (by simp) _).trans (hb2.mono (by simp;omega))⟩
theorem j7t (a b c d:Nat) (ha:a≤400000) (hb:b≤400000) (hc:c≤400000) (hd:d≤400000) (w:World) :
  Calls Tryz.prog 223 #[.agg #[.int .i64 a,.int .i64 b],.agg #[.int .i64 c,.int .i64 d]] w fun e w'=>e = .returned (.agg #[.int .i64 ((a+c:Nat):Int),.int .i64 ((b+d:Nat):Int)])∧Below w.heap.size w w':=by
 have e1:((a+c:Nat):Int)=(a:Int)+c:=by omega
 have e2:((b+d:Nat):Int)=(b:Int)+d:=by omega
 have hs:okC (y4f ((a:Int),(b:Int)) ((c:Int),(d:Int)))=true:=by
  have:=z9q (a:=a+c) (b:=b+d) (by omega) (by omega)
  rw [e1,e2] at this
  exact this
 rw [e1,e2]
 have HL:Hid (∀ w,Calls Tryz.prog 244 #[.agg #[.int .i64 a,.int .i64 b],.agg #[.int .i64 c,.int .i64 d]] w fun e w'=>e = .returned (.tuple #[.agg #[.int .i64 ((a:Int)+c),.int .i64 ((b:Int)+d)],.nilIface])∧Below w.heap.size w w'):=fun w=>
  v9z ((a:Int),(b:Int)) ((c:Int),(d:Int)) w (z9q (by omega) (by omega)) (z9q (by omega) (by omega)) hs
 clear e1 e2 hs
 generalize (a:Int)+c=v1 at *
 generalize (b:Int)+d=v2 at *
 go_enter Tryz.func223,Tryz.ntmps223
 go_wp2_with fail
 refine (HL.out _).mono ?_
 rintro e w2 ⟨rfl,hb2⟩
 obtain ⟨hcl,hfr⟩:=q0w hb2
 have hs2:w.heap.size+1+1+1≤w2.heap.size:=by have:=hb2.size;simpa using this
 have k0:∀ O,(w2.alloc O).cell? ⟨w.heap.size+1+1,0,none⟩=some (.int .i64 0):=fun O=>(((Below.refl _ w2).alloc (Nat.le_refl _) O).cell (p:=⟨w.heap.size+1+1,0,none⟩) (by simp;omega)).trans ((hcl _ _ (by simp)).trans (by simp [go_sem]))
 have k1:∀ O,(w2.alloc O).cell? ⟨w.heap.size+1+1,1,none⟩=some (.int .i64 0):=fun O=>(((Below.refl _ w2).alloc (Nat.le_refl _) O).cell (p:=⟨w.heap.size+1+1,1,none⟩) (by simp;omega)).trans ((hcl _ _ (by simp)).trans (by simp [go_sem]))
 have f0:∀ O,(w2.alloc O).frozen? ⟨w.heap.size+1+1,0,none⟩=false:=fun O=>(((Below.refl _ w2).alloc (Nat.le_refl _) O).frozen (p:=⟨w.heap.size+1+1,0,none⟩) (by simp;omega)).trans ((hfr _ _ (by simp)).trans (by simp [go_sem]))
 have f1:∀ O,(w2.alloc O).frozen? ⟨w.heap.size+1+1,1,none⟩=false:=fun O=>(((Below.refl _ w2).alloc (Nat.le_refl _) O).frozen (p:=⟨w.heap.size+1+1,1,none⟩) (by simp;omega)).trans ((hfr _ _ (by simp)).trans (by simp [go_sem]))
 have hB:Below w.heap.size w w2:=(y4r w _ _ _).trans (hb2.mono (by simp;omega))
 clear hcl hfr hb2
 go_wp2
 exact bodyPost_ret (v:=.agg #[.int .i64 v1,.int .i64 v2]) (by simp [results,Tryz.results223,go_sem,k0,k1]) rfl ⟨rfl,((hB.alloc (by omega) _).setCell (p:=⟨w.heap.size+1+1,0,none⟩) (by simp;omega) _).setCell (p:=⟨w.heap.size+1+1,1,none⟩) (by simp;omega) _⟩
theorem v2l (w:World) (O1 O2 O3 O4:Obj):Below w.heap.size w ((((w.alloc O1).alloc O2).alloc O3).alloc O4):=(y4r w O1 O2 O3).alloc (by simp;omega) _
theorem k3 {w:World} {b o:Nat} {v:Value} (h:w.cell? ⟨b,o,none⟩=some v) (O1 O2 O3:Obj):(((w.alloc O1).alloc O2).alloc O3).cell? ⟨b,o,none⟩=some v:=ka (ka (ka h _) _) _
theorem k4 {w:World} {b o:Nat} {v:Value} (h:w.cell? ⟨b,o,none⟩=some v) (O1 O2 O3 O4:Obj):((((w.alloc O1).alloc O2).alloc O3).alloc O4).cell? ⟨b,o,none⟩=some v:=ka (k3 h _ _ _) _
theorem k4d {w:World} {b o:Nat} {v:Value} (h:w.cell? ⟨b,o,none⟩=some v) (O1 O2 O3 O4:Obj):((((w.alloc O1).alloc O2).alloc O3).alloc O4).drew.cell? ⟨b,o,none⟩=some v:=k4 h _ _ _ _
theorem k5w (bp g n wd i c:Nat) (tx:ByteArray) (nn en:Int) (nx dp:Nat) (lg:Int) (ch:Nat) (w:World) (hi:(i:Int)<n) (hw:wd≤100) (hc:c≤100) (hk:tx.size≤20000)
  (c0:w.cell? ⟨bp,0,none⟩=some (.slice (some ⟨g,0,none⟩) n n)) (c1:w.cell? ⟨bp,1,none⟩=some (.int .i64 wd))
  (d0:w.cell? ⟨g,i*7,none⟩=some (.int .i64 1)) (d1:w.cell? ⟨g,i*7+1,none⟩=some (.string tx)) (d2:w.cell? ⟨g,i*7+2,none⟩=some (.int .i64 nn)) (d3:w.cell? ⟨g,i*7+3,none⟩=some (.int .i64 en)) (d4:w.cell? ⟨g,i*7+4,none⟩=some (.int .i64 nx)) (d5:w.cell? ⟨g,i*7+5,none⟩=some (.int .i64 dp)) (d6:w.cell? ⟨g,i*7+6,none⟩=some (.int .i64 lg)) :
  Calls Tryz.prog 222 #[.pointer (some ⟨bp,0,none⟩),.agg #[.int .i64 i,.int .i64 c],.int .i64 ch] w fun e w'=>e = .returned (.tuple #[.agg #[.int .i64 nx,.int .i64 ((min (c+tx.size) wd:Nat):Int)],.agg #[.int .i64 ((c+tx.size - wd:Nat):Int),.int .i64 0]])∧Below w.heap.size w w':=by
 have hp0:(0:Int)≤(i:Int):=by omega
 have hlt:=World.block_lt_of_cell? w ⟨bp,0,none⟩ c0
 have hltg:=World.block_lt_of_cell? w ⟨g,i*7,none⟩ d0
 have hx0:∀ O2 O3,(((w.alloc (.cells #[.int .i64 i,.int .i64 c] 216)).alloc O2).alloc O3).cell? ⟨w.heap.size,0,none⟩=some (.int .i64 i):=fun O2 O3=>by simp [go_sem]
 have hx4:∀ O2 O3 O4,((((w.alloc (.cells #[.int .i64 i,.int .i64 c] 216)).alloc O2).alloc O3).alloc O4).cell? ⟨w.heap.size,0,none⟩=some (.int .i64 i):=fun O2 O3 O4=>ka (hx0 O2 O3) O4
 go_enter Tryz.func222,Tryz.ntmps222
 go_wp2_with fail
 go_region_held3 (fun w'=>w'.cell? ⟨bp,0,none⟩=some (.slice (some ⟨g,0,none⟩) n n)∧w'.cell? ⟨w.heap.size,0,none⟩=some (.int .i64 i)∧w'.cell? ⟨g,i*7,none⟩=some (.int .i64 1)∧w'.cell? ⟨g,i*7+1,none⟩=some (.string tx)∧w'.cell? ⟨g,i*7+2,none⟩=some (.int .i64 nn)∧w'.cell? ⟨g,i*7+3,none⟩=some (.int .i64 en)∧w'.cell? ⟨g,i*7+4,none⟩=some (.int .i64 nx)∧w'.cell? ⟨g,i*7+5,none⟩=some (.int .i64 dp)∧w'.cell? ⟨g,i*7+6,none⟩=some (.int .i64 lg))
  (first | exact ⟨k3 c0 _ _ _,hx0 _ _,k3 d0 _ _ _,k3 d1 _ _ _,k3 d2 _ _ _,k3 d3 _ _ _,k3 d4 _ _ _,k3 d5 _ _ _,k3 d6 _ _ _⟩ | exact ⟨k4 c0 _ _ _ _,hx4 _ _ _,k4 d0 _ _ _ _,k4 d1 _ _ _ _,k4 d2 _ _ _ _,k4 d3 _ _ _ _,k4 d4 _ _ _ _,k4 d5 _ _ _ _,k4 d6 _ _ _ _⟩) (fail)
 all_goals
  go_wp2_with fail
  refine (z0l bp wd nx c tx.size _ hw hc hk (k4d c1 _ _ _ _)).mono ?_
  rintro e w2 ⟨rfl,hb2⟩
  obtain ⟨hcl,hfr⟩:=q0w hb2
  have hs2:w.heap.size+1+1+1+1≤w2.heap.size:=by have:=hb2.size;simpa using this
  have a0:w2.cell? ⟨w.heap.size+1,0,none⟩=some (.int .i64 0):=(hcl _ _ (by simp)).trans (by simp [go_sem])
  have a1:w2.cell? ⟨w.heap.size+1,1,none⟩=some (.int .i64 0):=(hcl _ _ (by simp)).trans (by simp [go_sem])
  have b0:w2.cell? ⟨w.heap.size+1+1,0,none⟩=some (.int .i64 0):=(hcl _ _ (by simp)).trans (by simp [go_sem])
  have b1:w2.cell? ⟨w.heap.size+1+1,1,none⟩=some (.int .i64 0):=(hcl _ _ (by simp)).trans (by simp [go_sem])
  have f0:w2.frozen? ⟨w.heap.size+1,0,none⟩=false:=(hfr _ _ (by simp)).trans (by simp [go_sem])
  have f1:w2.frozen? ⟨w.heap.size+1,1,none⟩=false:=(hfr _ _ (by simp)).trans (by simp [go_sem])
  have f2:w2.frozen? ⟨w.heap.size+1+1,0,none⟩=false:=(hfr _ _ (by simp)).trans (by simp [go_sem])
  have f3:w2.frozen? ⟨w.heap.size+1+1,1,none⟩=false:=(hfr _ _ (by simp)).trans (by simp [go_sem])
  have hB:Below w.heap.size w w2:=(v2l w _ _ _ _).drew.trans (hb2.mono (by simp;omega))
  clear hcl hfr hb2
  go_wp2
  exact bodyPost_ret (v:=.tuple #[.agg #[.int .i64 nx,.int .i64 ((min (c+tx.size) wd:Nat):Int)],.agg #[.int .i64 ((c+tx.size - wd:Nat):Int),.int .i64 0]]) (by simp [results,Tryz.results222,go_sem,a0,a1,b0,b1]) rfl ⟨rfl,(((hB.setCell (p:=⟨w.heap.size+1,0,none⟩) (by simp) _).setCell (p:=⟨w.heap.size+1,1,none⟩) (by simp) _).setCell (p:=⟨w.heap.size+1+1,0,none⟩) (by simp;omega) _).setCell (p:=⟨w.heap.size+1+1,1,none⟩) (by simp;omega) _⟩
theorem k5u (bp g n wd i c:Nat) (tx:ByteArray) (nn en:Int) (nx dp:Nat) (lg:Nat) (w:World) (hi:(i:Int)<n) (hw:wd≤100) (hc:c≤100) (hk:lg≤20000)
  (c0:w.cell? ⟨bp,0,none⟩=some (.slice (some ⟨g,0,none⟩) n n)) (c1:w.cell? ⟨bp,1,none⟩=some (.int .i64 wd))
  (d0:w.cell? ⟨g,i*7,none⟩=some (.int .i64 8)) (d1:w.cell? ⟨g,i*7+1,none⟩=some (.string tx)) (d2:w.cell? ⟨g,i*7+2,none⟩=some (.int .i64 nn)) (d3:w.cell? ⟨g,i*7+3,none⟩=some (.int .i64 en)) (d4:w.cell? ⟨g,i*7+4,none⟩=some (.int .i64 nx)) (d5:w.cell? ⟨g,i*7+5,none⟩=some (.int .i64 dp)) (d6:w.cell? ⟨g,i*7+6,none⟩=some (.int .i64 lg)) :
  Calls Tryz.prog 222 #[.pointer (some ⟨bp,0,none⟩),.agg #[.int .i64 i,.int .i64 c],.int .i64 0] w fun e w'=>e = .returned (.tuple #[.agg #[.int .i64 nx,.int .i64 ((min (c+lg) wd:Nat):Int)],.agg #[.int .i64 ((c+lg - wd:Nat):Int),.int .i64 0]])∧Below w.heap.size w w':=by
 have hp0:(0:Int)≤(i:Int):=by omega
 have hlt:=World.block_lt_of_cell? w ⟨bp,0,none⟩ c0
 have hltg:=World.block_lt_of_cell? w ⟨g,i*7,none⟩ d0
 have hx0:∀ O2 O3,(((w.alloc (.cells #[.int .i64 i,.int .i64 c] 216)).alloc O2).alloc O3).cell? ⟨w.heap.size,0,none⟩=some (.int .i64 i):=fun O2 O3=>by simp [go_sem]
 have hx4:∀ O2 O3 O4,((((w.alloc (.cells #[.int .i64 i,.int .i64 c] 216)).alloc O2).alloc O3).alloc O4).cell? ⟨w.heap.size,0,none⟩=some (.int .i64 i):=fun O2 O3 O4=>ka (hx0 O2 O3) O4
 go_enter Tryz.func222,Tryz.ntmps222
 go_wp2_with fail
 go_region_held3 (fun w'=>w'.cell? ⟨bp,0,none⟩=some (.slice (some ⟨g,0,none⟩) n n)∧w'.cell? ⟨w.heap.size,0,none⟩=some (.int .i64 i)∧w'.cell? ⟨g,i*7,none⟩=some (.int .i64 8)∧w'.cell? ⟨g,i*7+1,none⟩=some (.string tx)∧w'.cell? ⟨g,i*7+2,none⟩=some (.int .i64 nn)∧w'.cell? ⟨g,i*7+3,none⟩=some (.int .i64 en)∧w'.cell? ⟨g,i*7+4,none⟩=some (.int .i64 nx)∧w'.cell? ⟨g,i*7+5,none⟩=some (.int .i64 dp)∧w'.cell? ⟨g,i*7+6,none⟩=some (.int .i64 lg))
  (first | exact ⟨k3 c0 _ _ _,hx0 _ _,k3 d0 _ _ _,k3 d1 _ _ _,k3 d2 _ _ _,k3 d3 _ _ _,k3 d4 _ _ _,k3 d5 _ _ _,k3 d6 _ _ _⟩ | exact ⟨k4 c0 _ _ _ _,hx4 _ _ _,k4 d0 _ _ _ _,k4 d1 _ _ _ _,k4 d2 _ _ _ _,k4 d3 _ _ _ _,k4 d4 _ _ _ _,k4 d5 _ _ _ _,k4 d6 _ _ _ _⟩) (fail)
 all_goals
  go_wp2_with fail
  refine (z0l bp wd nx c lg _ hw hc hk (k4d c1 _ _ _ _)).mono ?_
  rintro e w2 ⟨rfl,hb2⟩
  obtain ⟨hcl,hfr⟩:=q0w hb2
  have hs2:w.heap.size+1+1+1+1≤w2.heap.size:=by have:=hb2.size;simpa using this
  have a0:w2.cell? ⟨w.heap.size+1,0,none⟩=some (.int .i64 0):=(hcl _ _ (by simp)).trans (by simp [go_sem])
  have a1:w2.cell? ⟨w.heap.size+1,1,none⟩=some (.int .i64 0):=(hcl _ _ (by simp)).trans (by simp [go_sem])
  have b0:w2.cell? ⟨w.heap.size+1+1,0,none⟩=some (.int .i64 0):=(hcl _ _ (by simp)).trans (by simp [go_sem])
  have b1:w2.cell? ⟨w.heap.size+1+1,1,none⟩=some (.int .i64 0):=(hcl _ _ (by simp)).trans (by simp [go_sem])
  have f0:w2.frozen? ⟨w.heap.size+1,0,none⟩=false:=(hfr _ _ (by simp)).trans (by simp [go_sem])
  have f1:w2.frozen? ⟨w.heap.size+1,1,none⟩=false:=(hfr _ _ (by simp)).trans (by simp [go_sem])
  have f2:w2.frozen? ⟨w.heap.size+1+1,0,none⟩=false:=(hfr _ _ (by simp)).trans (by simp [go_sem])
  have f3:w2.frozen? ⟨w.heap.size+1+1,1,none⟩=false:=(hfr _ _ (by simp)).trans (by simp [go_sem])
  have hB:Below w.heap.size w w2:=(v2l w _ _ _ _).drew.trans (hb2.mono (by simp;omega))
  clear hcl hfr hb2
  go_wp2
  exact bodyPost_ret (v:=.tuple #[.agg #[.int .i64 nx,.int .i64 ((min (c+lg) wd:Nat):Int)],.agg #[.int .i64 ((c+lg - wd:Nat):Int),.int .i64 0]]) (by simp [results,Tryz.results222,go_sem,a0,a1,b0,b1]) rfl ⟨rfl,(((hB.setCell (p:=⟨w.heap.size+1,0,none⟩) (by simp) _).setCell (p:=⟨w.heap.size+1,1,none⟩) (by simp) _).setCell (p:=⟨w.heap.size+1+1,0,none⟩) (by simp;omega) _).setCell (p:=⟨w.heap.size+1+1,1,none⟩) (by simp;omega) _⟩
inductive Tag (k:Nat):Type
 | mk
inductive Sel {α:Type} (k:Nat) (a b:α):Type
 | mk
def sel {α:Type} {k:Nat} (_:Tag k) (a b:α):Sel k a b:=.mk
def z1x {k:Nat} (_:Tag k) (a b:Nat):Sel k a b:=.mk
instance {α:Type} (a b:α) (s:Sel 0 a b):CoeDep (Sel 0 a b) s α:=⟨a⟩
instance {α:Type} (a b:α) (s:Sel 1 a b):CoeDep (Sel 1 a b) s α:=⟨b⟩
inductive v9y (o:Int):Type
 | mk
instance (o:Int) (t:v9y o):CoeDep (v9y o) t Int:=⟨o⟩
end Go.Proofs.YtchdplceopegoaaGreatDoor
