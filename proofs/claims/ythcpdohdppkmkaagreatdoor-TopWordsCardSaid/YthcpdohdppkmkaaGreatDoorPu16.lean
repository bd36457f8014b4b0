import Derived.Test.YthcpdohdppkmkaaGreatDoorPu15
open Go.Proofs.Tryz
namespace Go.Proofs.YthcpdohdppkmkaaGreatDoor
open Go Go.RowKit
set_option maxRecDepth 100000
set_option maxHeartbeats 1000000
def j5a(n:Int):Bool:=decide (0<=n)&&decide (n<=1000000)
def okC(c:Int × Int):Bool:=j5a c.1&&j5a c.2
theorem z4w{n:Int}(h:j5a n=true):0<=n/\n<=1000000:=by simpa[j5a]using h
theorem j2w{n:Int}(h:j5a n=false):n<0\/(0<=n/\1000000<n):=by
 simp[j5a]at h;omega
theorem z9d(n:Int)(w:World):Calls prog 117 #[.int .i64 n] w fun e w'=>e=.returned (.bool (j5a n))/\w=w':=by
 cases h:j5a n with
 | true=>
  obtain⟨h1,h2⟩:=z4w h;clear h;go_in;go_wp2;go_ret;exact⟨rfl,rfl⟩
 | false=>
  rcases j2w h with h1|⟨h1,h2⟩
  ·have h1':¬0<=n:=by omega
   clear h;go_in;go_wp2;go_ret;exact⟨rfl,rfl⟩
  ·have h2':¬n<=1000000:=by omega
   clear h;go_in;go_wp2;go_ret;exact⟨rfl,rfl⟩
theorem z4q(cs:List (Int × Int))(B:Nat)(w:World)(hB:B<w.heap.size)(hlen:cs.length<=2)
  (hc:∀j(h:j<cs.length),w.cell? ⟨B,j*2,none⟩=some (.int .i64 cs[j].1)/\w.cell? ⟨B,j*2+1,none⟩=some (.int .i64 cs[j].2)):
  Calls prog 71 #[.slice (some ⟨B,0,none⟩) cs.length cs.length] w fun e w'=>((∃c∈cs,okC c=false)/\e=.returned (.iface 22 (.int .i64 1))\/(∀c∈cs,okC c=true)/\e=.returned .nilIface)/\Below w w w':=by
 go_in;go_wp2
 go_loopw [7] (fun i wr=>∃k:Nat,k<=cs.length/\i=.int .i64 k/\(∀c∈cs.take k,okC c=true)/\Below w w wr) (fun i _=>cs.length-(intOf i).toNat)
 case atStart=>exact⟨0,Nat.zero_le _,rfl,by simp,Below.refl _ _⟩
 case round=>
  obtain⟨k,hk,rfl,hall,hb⟩:=hrel;by_cases hlt:k<cs.length
  ·have c1:=(hc k hlt).1;have c2:=(hc k hlt).2;have d1:wr.cell? ⟨B,k*2,none⟩=some (.int .i64 cs[k].1):=(hb.cell (p:=⟨B,k*2,none⟩) hB).trans c1;have d2:wr.cell? ⟨B,k*2+1,none⟩=some (.int .i64 cs[k].2):=(hb.cell (p:=⟨B,k*2+1,none⟩) hB).trans c2;clear c1 c2 hc;have hbw:w.heap.size<=wr.heap.size:=hb.size;have hbx:Below w w (wr.alloc (.cells #[.int .i64 cs[k].1,.int .i64 cs[k].2] 57)):=hb.alloc hbw _;cases f1:j5a cs[k].1 with
   | false=>
    go_wp2_with(go_at_call 117;refine(z9d _ _).mono ?_;rintro e w'⟨rfl,rfl⟩);go_ret;exact⟨.inl ⟨⟨cs[k],List.getElem_mem hlt,by simp[okC,f1]⟩,rfl⟩,hbx⟩
   | true=>
    cases f2:j5a cs[k].2 with
    | false=>
     go_wp2_with(go_at_call 117;refine(z9d _ _).mono ?_;rintro e w'⟨rfl,rfl⟩);go_ret;exact⟨.inl ⟨⟨cs[k],List.getElem_mem hlt,by simp[okC,f2]⟩,rfl⟩,hbx⟩
    | true=>
     go_wp2_with(go_at_call 117;refine(z9d _ _).mono ?_;rintro e w'⟨rfl,rfl⟩)
     go_roundw
     case rel=>
      refine⟨k+1,by omega,by go_num,?_,hbx⟩;intro c hcm;rw[List.take_succ_eq_append_getElem hlt]at hcm;rcases List.mem_append.1 hcm with h|h
      ·exact hall c h
      ·simp at h;subst h;simp[okC,f1,f2]
     case measure=>simp[intOf];omega
  ·go_wp2;go_ret;exact⟨.inr ⟨fun c hcm=>hall c (by rw[List.take_of_length_le (by omega)];exact hcm),rfl⟩,hb⟩
theorem z4p(a b:Int × Int)(B:Nat)(w:World)(hB:B<w.heap.size)(ha:okC a=true)(hb:okC b=true)
  (h0:w.cell? ⟨B,0,none⟩=some (.int .i64 a.1)) (h1:w.cell? ⟨B,1,none⟩=some (.int .i64 a.2)) (h2:w.cell? ⟨B,2,none⟩=some (.int .i64 b.1)) (h3:w.cell? ⟨B,3,none⟩=some (.int .i64 b.2)):
  Calls prog 71 #[.slice (some ⟨B,0,none⟩) 2 2] w fun e w'=>e=.returned .nilIface/\Below w w w':=by
 refine(z4q [a,b] B w hB (by simp) ?_).mono ?_
 ·intro j hj
  match j,hj with
  | 0,_=>exact⟨h0,h1⟩
  | 1,_=>exact⟨h2,h3⟩
 ·rintro e w'⟨⟨⟨c,hc,hf⟩,he⟩|⟨_,he⟩,hB⟩
  ·simp at hc;rcases hc with rfl|rfl
   ·rw[ha]at hf;cases hf
   ·rw[hb]at hf;cases hf
  ·exact⟨he,hB⟩
theorem j6r(a b:Int × Int)(B:Nat)(w:World)(hB:B<w.heap.size)(hn:(okC a&&okC b)=false)
  (h0:w.cell? ⟨B,0,none⟩=some (.int .i64 a.1)) (h1:w.cell? ⟨B,1,none⟩=some (.int .i64 a.2)) (h2:w.cell? ⟨B,2,none⟩=some (.int .i64 b.1)) (h3:w.cell? ⟨B,3,none⟩=some (.int .i64 b.2)):
  Calls prog 71 #[.slice (some ⟨B,0,none⟩) 2 2] w fun e w'=>e=.returned (.iface 22 (.int .i64 1))/\Below w w w':=by
 refine(z4q [a,b] B w hB (by simp) ?_).mono ?_
 ·intro j hj
  match j,hj with
  | 0,_=>exact⟨h0,h1⟩
  | 1,_=>exact⟨h2,h3⟩
 ·rintro e w'⟨⟨_,he⟩|⟨hall,he⟩,hB⟩
  ·exact⟨he,hB⟩
  ·rw[hall a (by simp),hall b (by simp)]at hn;cases hn
theorem j6q(a:Int × Int)(B:Nat)(w:World)(hB:B<w.heap.size)(ha:okC a=true)
  (h0:w.cell? ⟨B,0,none⟩=some (.int .i64 a.1)) (h1:w.cell? ⟨B,1,none⟩=some (.int .i64 a.2)):
  Calls prog 71 #[.slice (some ⟨B,0,none⟩) 1 1] w fun e w'=>e=.returned .nilIface/\Below w w w':=by
 refine(z4q [a] B w hB (by simp) ?_).mono ?_
 ·intro j hj
  match j,hj with
  | 0,_=>exact⟨h0,h1⟩
 ·rintro e w'⟨⟨⟨c,hc,hf⟩,he⟩|⟨_,he⟩,hB⟩
  ·simp at hc;subst hc;rw[ha]at hf;cases hf
  ·exact⟨he,hB⟩
abbrev k2a(a:Int × Int):Value:=.agg #[.int .i64 a.1,.int .i64 a.2]
def z3m(a b:Int × Int):Bool:=if a.1=b.1 then decide (a.2<b.2)else decide (a.1<b.1)
theorem j5t{w w1:World}{A B C:Obj}(hb:Below (((w.alloc A).alloc B).alloc C).heap.size (((w.alloc A).alloc B).alloc C) w1):Below w w w1:=
 (((Zb.alloc Zl _).alloc (by simp) _).alloc (by simp;omega) _).trans (hb.mono (by simp;omega))
theorem y5u(a b:Int × Int)(w:World)(hn:(okC a&&okC b)=false):
  Calls prog 27 #[k2a a,k2a b] w fun e w'=>e=.returned (.tuple #[.bool false,.iface 22 (.int .i64 1)])/\Below w w w':=by
 have HN:Hid ((okC a&&okC b)=false):=hn;clear hn;go_in;go_wp2_with fail;refine(j6r a b (w.heap.size+1+1) _ (by simp) HN.o (by simp[go_sem]) (by simp[go_sem]) (by simp[go_sem]) (by simp[go_sem])).mono ?_;rintro e w1⟨rfl,hb1⟩;have hbw:=j5t hb1;clear hb1;go_wp2;go_ret2;exact⟨rfl,hbw⟩
theorem j9k(a b:Int × Int)(w:World)(ha:okC a=true)(hb:okC b=true):
  Calls prog 27 #[k2a a,k2a b] w fun e w'=>e=.returned (.tuple #[.bool (z3m a b),.nilIface])/\Below w w w':=by
 have HA:Hid (okC a=true):=ha;have HB:Hid (okC b=true):=hb;clear ha hb;by_cases h:a.1=b.1
 ·have hl:z3m a b=decide (a.2<b.2):=by simp[z3m,h]
  rw[hl];have h':(a.1 != b.1)=false:=by simp[h]
  clear h hl;go_in;go_wp2_with fail;refine(z4p a b (w.heap.size+1+1) _ (by simp) HA.o HB.o (by simp[go_sem]) (by simp[go_sem]) (by simp[go_sem]) (by simp[go_sem])).mono ?_;rintro e w1⟨rfl,hb1⟩;have hbw:=j5t hb1;obtain⟨hc,_⟩:=q1c hb1;clear hb1;go_wp2;go_ret2;exact⟨rfl,hbw⟩
 ·have hl:z3m a b=decide (a.1<b.1):=by simp[z3m,h]
  rw[hl];have h':(a.1 != b.1)=true:=by simp[h]
  clear h hl;go_in;go_wp2_with fail;refine(z4p a b (w.heap.size+1+1) _ (by simp) HA.o HB.o (by simp[go_sem]) (by simp[go_sem]) (by simp[go_sem]) (by simp[go_sem])).mono ?_;rintro e w1⟨rfl,hb1⟩;have hbw:=j5t hb1;obtain⟨hc,_⟩:=q1c hb1;clear hb1;go_wp2;go_ret2;exact⟨rfl,hbw⟩
theorem y9n{w w1:World}{A B C D:Obj}(hb:Below ((((w.alloc A).alloc B).alloc C).alloc D).heap.size ((((w.alloc A).alloc B).alloc C).alloc D) w1):Below w w w1:=
 ((((Zb.alloc Zl _).alloc (by simp) _).alloc (by simp;omega) _).alloc (by simp;omega) _).trans (hb.mono (by simp;omega))
theorem y1d{n:Nat}{w w1 w2:World}{A B:Obj}(h1:Below n w w1)(hn:n<=w.heap.size)(hb:Below ((w1.alloc A).alloc B).heap.size ((w1.alloc A).alloc B) w2):Below n w w2:=
 have h2:=h1.size
 ((h1.alloc (by omega) _).alloc (by simp;omega) _).trans (hb.mono (by simp;omega))
theorem y2m{a:Int × Int}(h:okC a=true):(0<=a.1/\a.1<=1000000)/\(0<=a.2/\a.2<=1000000):=by
 simp only[okC,Bool.and_eq_true]at h;exact⟨z4w h.1,z4w h.2⟩
abbrev g4i(a b:Int × Int):Int × Int:=(a.1+b.1,a.2+b.2)
theorem y9i(a b:Int × Int)(w:World)(ha:okC a=true)(hb:okC b=true)(hn:okC (g4i a b)=true):
  Calls prog 247 #[k2a a,k2a b] w fun e w'=>e=.returned (.tuple #[.agg #[.int .i64 (a.1+b.1),.int .i64 (a.2+b.2)],.nilIface])/\Below w w w':=by
 obtain⟨⟨p1,p2⟩,⟨p3,p4⟩⟩:=y2m ha;obtain⟨⟨q1,q2⟩,⟨q3,q4⟩⟩:=y2m hb;have HA:Hid (okC a=true):=ha;have HB:Hid (okC b=true):=hb;have HN:Hid (okC (g4i a b)=true):=hn;clear hn ha hb;go_in;go_wp2_with fail;refine(z4p a b (w.heap.size+1+1+1) _ (by simp) HA.o HB.o (by simp[go_sem]) (by simp[go_sem]) (by simp[go_sem]) (by simp[go_sem])).mono ?_;rintro e w1⟨rfl,hb1⟩;have hbw:=y9n hb1;obtain⟨hc,hf⟩:=q1c hb1;have hz:w.heap.size+1+1+1<w1.heap.size:=by have:=hb1.size;simp at this;omega
 clear hb1;have r0:w1.cell? ⟨w.heap.size+1+1,0,none⟩=some (.int .i64 0):=(hc _ _ (by simp only[World.size_alloc];omega)).trans (by simp[go_sem]);have r1:w1.cell? ⟨w.heap.size+1+1,1,none⟩=some (.int .i64 0):=(hc _ _ (by simp only[World.size_alloc];omega)).trans (by simp[go_sem]);have f0:w1.frozen? ⟨w.heap.size+1+1,0,none⟩=false:=(hf _ _ (by simp only[World.size_alloc];omega)).trans (by simp[go_sem]);have f1:w1.frozen? ⟨w.heap.size+1+1,1,none⟩=false:=(hf _ _ (by simp only[World.size_alloc];omega)).trans (by simp[go_sem]);have u0:w1.cell? ⟨w,0,none⟩=some (.int .i64 a.1):=(hc _ _ (by simp only[World.size_alloc];omega)).trans (by simp[go_sem]);have u1:w1.cell? ⟨w,1,none⟩=some (.int .i64 a.2):=(hc _ _ (by simp only[World.size_alloc];omega)).trans (by simp[go_sem]);have v0:w1.cell? ⟨w.heap.size+1,0,none⟩=some (.int .i64 b.1):=(hc _ _ (by simp only[World.size_alloc];omega)).trans (by simp[go_sem]);have v1:w1.cell? ⟨w.heap.size+1,1,none⟩=some (.int .i64 b.2):=(hc _ _ (by simp only[World.size_alloc];omega)).trans (by simp[go_sem]);clear hc hf;go_wp2_with fail;refine(j6q (g4i a b) (w1.heap.size+1) _ (by simp) HN.o (by simp[go_sem]) (by simp[go_sem])).mono ?_;rintro e w2⟨rfl,hb2⟩;have hbw2:=y1d hbw Zl hb2;have hbx:=y1d (Below.refl w1.heap.size w1) Zl hb2;obtain⟨hc2,_⟩:=q1c hb2;clear hb2;have r0':w2.cell? ⟨w.heap.size+1+1,0,none⟩=some (.int .i64 0):=(hbx.cell (p:=⟨w.heap.size+1+1,0,none⟩) (show w.heap.size+1+1<w1.heap.size by omega)).trans r0;have r1':w2.cell? ⟨w.heap.size+1+1,1,none⟩=some (.int .i64 0):=(hbx.cell (p:=⟨w.heap.size+1+1,1,none⟩) (show w.heap.size+1+1<w1.heap.size by omega)).trans r1;have f0':w2.frozen? ⟨w.heap.size+1+1,0,none⟩=false:=(hbx.frozen (p:=⟨w.heap.size+1+1,0,none⟩) (show w.heap.size+1+1<w1.heap.size by omega)).trans f0;have f1':w2.frozen? ⟨w.heap.size+1+1,1,none⟩=false:=(hbx.frozen (p:=⟨w.heap.size+1+1,1,none⟩) (show w.heap.size+1+1<w1.heap.size by omega)).trans f1;have s0:w2.cell? ⟨w1,0,none⟩=some (.int .i64 (a.1+b.1)):=(hc2 _ _ (by simp only[World.size_alloc];omega)).trans (by simp[go_sem]);have s1:w2.cell? ⟨w1,1,none⟩=some (.int .i64 (a.2+b.2)):=(hc2 _ _ (by simp only[World.size_alloc];omega)).trans (by simp[go_sem]);clear hc2 hbw hbx r0 r1 f0 f1 u0 u1 v0 v1;go_wp2;exact bodyPost_ret (v:=.tuple #[.agg #[.int .i64 (a.1+b.1),.int .i64 (a.2+b.2)],.nilIface]) (by simp[results,Tryz.results247,go_sem,r0',r1']) rfl ⟨rfl,(hbw2.setCell (p:=⟨w.heap.size+1+1,0,none⟩) (by simp;omega) _).setCell (p:=⟨w.heap.size+1+1,1,none⟩) (by simp;omega) _⟩
set_option maxHeartbeats 4000000
theorem g4u(w:World)(O1 O2 O3:Obj):Below w w (((w.alloc O1).alloc O2).alloc O3):=(((Below.refl _ w).alloc Zl _).alloc (by simp) _).alloc (by simp;omega) _
theorem z2a(bp wd p c k:Nat)(w:World)(hw:wd<=100)(hc:c<=100)(hk:k<=20000)
  (c1:w.cell? ⟨bp,1,none⟩=some (.int .i64 wd)):
  Calls prog 246 #[.pointer (some ⟨bp,0,none⟩),.agg #[.int .i64 p,.int .i64 c],.int .i64 k] w fun e w'=>e=.returned (.tuple #[.agg #[.int .i64 p,.int .i64 ((min (c+k) wd:Nat):Int)],.agg #[.int .i64 ((c+k-wd:Nat):Int),.int .i64 0]])/\Below w w w':=by
 have hw1:IntKind.i64.wrap ((c:Int)+(k:Int))=(c:Int)+(k:Int):=by rw[IntKind.wrap_i64];omega
 have hw2:IntKind.i64.wrap ((c:Int)+(k:Int)-(wd:Int))=(c:Int)+(k:Int)-(wd:Int):=by rw[IntKind.wrap_i64];omega
 have hlt:=World.block_lt_of_cell? w ⟨bp,1,none⟩ c1;have hb3:=fun O1 O2 O3=>g4u w O1 O2 O3
 have hk3:∀O1 O2 O3,(((w.alloc O1).alloc O2).alloc O3).cell? ⟨bp,1,none⟩=some (.int .i64 wd):=fun O1 O2 O3=>((hb3 O1 O2 O3).cell (p:=⟨bp,1,none⟩) hlt).trans c1
 have hk0:∀O2 O3,(((w.alloc (.cells #[.int .i64 p,.int .i64 c] 121)).alloc O2).alloc O3).cell? ⟨w,0,none⟩=some (.int .i64 p):=fun O2 O3=>by simp[go_sem]
 have e1:((min (c+k) wd:Nat):Int)=min ((c:Int)+k) wd:=by omega
 have e2:((c+k-wd:Nat):Int)=max ((c:Int)+k-wd) 0:=by omega
 rw[e1,e2];clear e1 e2;go_in;go_wp2_with fail
 go_region_held3 (fun w'=>w'.cell? ⟨bp,1,none⟩=some (.int .i64 wd)/\w'.cell? ⟨w,0,none⟩=some (.int .i64 p)) (exact⟨hk3 _ _ _,hk0 _ _⟩) (fail)
 all_goals
  go_wp2;exact bodyPost_ret (v:=.tuple #[.agg #[.int .i64 p,.int .i64 (min ((c:Int)+k) wd)],.agg #[.int .i64 (max ((c:Int)+k-wd) 0),.int .i64 0]]) (by simp[results,Tryz.results246,go_sem]) rfl ⟨rfl,(hb3 _ _ _).drew⟩
theorem k5n(bp wd p k:Nat)(w:World)(hw:wd<=100)(hk:k<=20000)(c1:w.cell? ⟨bp,1,none⟩=some (.int .i64 wd)):
  Calls prog 246 #[.pointer (some ⟨bp,0,none⟩),.agg #[.int .i64 p,.int .i64 0],.int .i64 k] w fun e w'=>e=.returned (.tuple #[.agg #[.int .i64 p,.int .i64 ((min k wd:Nat):Int)],.agg #[.int .i64 ((k-wd:Nat):Int),.int .i64 0]])/\Below w w w':=by
 have h:=z2a bp wd p 0 k w hw (by omega) hk c1;rw[Nat.zero_add]at h;exact h
theorem q9z(op:Int)(tx:ByteArray)(a b c d e:Int)(w:World):
  Calls prog 111 #[.agg #[.int .i64 op,.string tx,.int .i64 a,.int .i64 b,.int .i64 c,.int .i64 d,.int .i64 e]] w fun e w'=>e=.returned (.bool (z2j op))/\Below w w w':=by
 cases h8:(op==8)with
 | true=>
  have e0:z2j op=true:=by simp[z2j,beq_iff_eq.1 h8]
  rw[e0];go_in;go_wp2;go_ret;exact⟨rfl,Zb.alloc Zl _⟩
 | false=>
  cases h9:(op==9)with
  | true=>
   have e0:z2j op=true:=by simp[z2j,beq_iff_eq.1 h9]
   rw[e0];go_in;go_wp2;go_ret;exact⟨rfl,Zb.alloc Zl _⟩
  | false=>
   have e0:z2j op=false:=by simp[z2j,beq_eq_false_iff_ne.1 h8,beq_eq_false_iff_ne.1 h9]
   rw[e0];go_in;go_wp2;go_ret;exact⟨rfl,Zb.alloc Zl _⟩
theorem k3r{a b:Nat}(ha:a<=1000000)(hb:b<=1000000):okC ((a:Int),(b:Int))=true:=by
 simp[okC,j5a];omega
theorem j5z(a b c d:Nat)(ha:a<=1000000)(hb:b<=1000000)(hc:c<=1000000)(hd:d<=1000000)(w:World):
  Calls prog 181 #[.agg #[.int .i64 a,.int .i64 b],.agg #[.int .i64 c,.int .i64 d]] w fun e w'=>e=.returned (.bool (decide (q1q (a,b) (c,d))))/\Below w w w':=by
 have e0:decide (q1q (a,b) (c,d))=z3m ((a:Int),(b:Int)) ((c:Int),(d:Int)):=by
  rw[Bool.eq_iff_iff,decide_eq_true_eq];unfold z3m q1q;dsimp only
  split
  ·rw[decide_eq_true_eq];omega
  ·rw[decide_eq_true_eq];omega
 rw[e0]
 have HL:Hid (∀w,Calls prog 27 #[.agg #[.int .i64 a,.int .i64 b],.agg #[.int .i64 c,.int .i64 d]] w fun e w'=>e=.returned (.tuple #[.bool (z3m ((a:Int),(b:Int)) ((c:Int),(d:Int))),.nilIface])/\Below w w w'):=fun w=>
  j9k ((a:Int),(b:Int)) ((c:Int),(d:Int)) w (k3r ha hb) (k3r hc hd)
 clear e0;generalize z3m ((a:Int),(b:Int)) ((c:Int),(d:Int))=v at *;go_in;go_wp2_with fail;refine(HL.o _).mono ?_;rintro e w2⟨rfl,hb2⟩;go_wp2;go_ret;exact⟨rfl,(((Below.refl _ w).alloc Zl _).alloc (by simp) _).trans (hb2.mono (by simp;omega))⟩
theorem v5o(a b c d:Nat)(ha:a<=400000)(hb:b<=400000)(hc:c<=400000)(hd:d<=400000)(w:World):
  Calls prog 218 #[.agg #[.int .i64 a,.int .i64 b],.agg #[.int .i64 c,.int .i64 d]] w fun e w'=>e=.returned (.agg #[.int .i64 ((a+c:Nat):Int),.int .i64 ((b+d:Nat):Int)])/\Below w w w':=by
 have e1:((a+c:Nat):Int)=(a:Int)+c:=by omega
 have e2:((b+d:Nat):Int)=(b:Int)+d:=by omega
 have hs:okC (g4i ((a:Int),(b:Int)) ((c:Int),(d:Int)))=true:=by
  have:=k3r (a:=a+c) (b:=b+d) (by omega) (by omega)
  rw[e1,e2]at this;exact this
 rw[e1,e2]
 have HL:Hid (∀w,Calls prog 247 #[.agg #[.int .i64 a,.int .i64 b],.agg #[.int .i64 c,.int .i64 d]] w fun e w'=>e=.returned (.tuple #[.agg #[.int .i64 ((a:Int)+c),.int .i64 ((b:Int)+d)],.nilIface])/\Below w w w'):=fun w=>
  y9i ((a:Int),(b:Int)) ((c:Int),(d:Int)) w (k3r (by omega) (by omega)) (k3r (by omega) (by omega)) hs
 clear e1 e2 hs
 generalize(a:Int)+c=v1 at *
 generalize(b:Int)+d=v2 at *
 go_in;go_wp2_with fail;refine(HL.o _).mono ?_;rintro e w2⟨rfl,hb2⟩;obtain⟨hcl,hfr⟩:=q1c hb2;have hs2:w.heap.size+1+1+1<=w2.heap.size:=by have:=hb2.size;simpa using this
 have k0:∀O,(w2.alloc O).cell? ⟨w.heap.size+1+1,0,none⟩=some (.int .i64 0):=fun O=>(((Below.refl _ w2).alloc Zl O).cell (p:=⟨w.heap.size+1+1,0,none⟩) (by simp;omega)).trans ((hcl _ _ (by simp)).trans (by simp[go_sem]))
 have k1:∀O,(w2.alloc O).cell? ⟨w.heap.size+1+1,1,none⟩=some (.int .i64 0):=fun O=>(((Below.refl _ w2).alloc Zl O).cell (p:=⟨w.heap.size+1+1,1,none⟩) (by simp;omega)).trans ((hcl _ _ (by simp)).trans (by simp[go_sem]))
 have f0:∀O,(w2.alloc O).frozen? ⟨w.heap.size+1+1,0,none⟩=false:=fun O=>(((Below.refl _ w2).alloc Zl O).frozen (p:=⟨w.heap.size+1+1,0,none⟩) (by simp;omega)).trans ((hfr _ _ (by simp)).trans (by simp[go_sem]))
 have f1:∀O,(w2.alloc O).frozen? ⟨w.heap.size+1+1,1,none⟩=false:=fun O=>(((Below.refl _ w2).alloc Zl O).frozen (p:=⟨w.heap.size+1+1,1,none⟩) (by simp;omega)).trans ((hfr _ _ (by simp)).trans (by simp[go_sem]))
 have hB:Below w w w2:=(g4u w _ _ _).trans (hb2.mono (by simp;omega));clear hcl hfr hb2;go_wp2;exact bodyPost_ret (v:=.agg #[.int .i64 v1,.int .i64 v2]) (by simp[results,Tryz.results218,go_sem,k0,k1]) rfl ⟨rfl,((hB.alloc (by omega) _).setCell (p:=⟨w.heap.size+1+1,0,none⟩) (by simp;omega) _).setCell (p:=⟨w.heap.size+1+1,1,none⟩) (by simp;omega) _⟩
theorem y1f(w:World)(O1 O2 O3 O4:Obj):Below w w ((((w.alloc O1).alloc O2).alloc O3).alloc O4):=(g4u w O1 O2 O3).alloc (by simp;omega) _
theorem k3{w:World}{b o:Nat}{v:Value}(h:w.cell? ⟨b,o,none⟩=some v)(O1 O2 O3:Obj):(((w.alloc O1).alloc O2).alloc O3).cell? ⟨b,o,none⟩=some v:=ka (ka (ka h _) _) _
theorem k4{w:World}{b o:Nat}{v:Value}(h:w.cell? ⟨b,o,none⟩=some v)(O1 O2 O3 O4:Obj):((((w.alloc O1).alloc O2).alloc O3).alloc O4).cell? ⟨b,o,none⟩=some v:=ka (k3 h _ _ _) _
theorem k4d{w:World}{b o:Nat}{v:Value}(h:w.cell? ⟨b,o,none⟩=some v)(O1 O2 O3 O4:Obj):((((w.alloc O1).alloc O2).alloc O3).alloc O4).drew.cell? ⟨b,o,none⟩=some v:=k4 h _ _ _ _
theorem j2h(bp g n wd i c:Nat)(tx:ByteArray)(nn en:Int)(nx dp:Nat)(lg:Int)(ch:Nat)(w:World)(hi:(i:Int)<n)(hw:wd<=100)(hc:c<=100)(hk:tx.size<=20000)
  (c0:w.cell? ⟨bp,0,none⟩=some (.slice (some ⟨g,0,none⟩) n n)) (c1:w.cell? ⟨bp,1,none⟩=some (.int .i64 wd))
  (d0:w.cell? ⟨g,i*7,none⟩=some (.int .i64 1)) (d1:w.cell? ⟨g,i*7+1,none⟩=some (.string tx)) (d2:w.cell? ⟨g,i*7+2,none⟩=some (.int .i64 nn)) (d3:w.cell? ⟨g,i*7+3,none⟩=some (.int .i64 en)) (d4:w.cell? ⟨g,i*7+4,none⟩=some (.int .i64 nx)) (d5:w.cell? ⟨g,i*7+5,none⟩=some (.int .i64 dp)) (d6:w.cell? ⟨g,i*7+6,none⟩=some (.int .i64 lg)):
  Calls prog 217 #[.pointer (some ⟨bp,0,none⟩),.agg #[.int .i64 i,.int .i64 c],.int .i64 ch] w fun e w'=>e=.returned (.tuple #[.agg #[.int .i64 nx,.int .i64 ((min (c+tx.size) wd:Nat):Int)],.agg #[.int .i64 ((c+tx.size-wd:Nat):Int),.int .i64 0]])/\Below w w w':=by
 have hp0:(0:Int)<=(i:Int):=by omega
 have hlt:=World.block_lt_of_cell? w ⟨bp,0,none⟩ c0;have hltg:=World.block_lt_of_cell? w ⟨g,i*7,none⟩ d0;have hx0:∀O2 O3,(((w.alloc (.cells #[.int .i64 i,.int .i64 c] 121)).alloc O2).alloc O3).cell? ⟨w,0,none⟩=some (.int .i64 i):=fun O2 O3=>by simp[go_sem]
 have hx4:∀O2 O3 O4,((((w.alloc (.cells #[.int .i64 i,.int .i64 c] 121)).alloc O2).alloc O3).alloc O4).cell? ⟨w,0,none⟩=some (.int .i64 i):=fun O2 O3 O4=>ka (hx0 O2 O3) O4
 go_in;go_wp2_with fail
 go_region_held3 (fun w'=>w'.cell? ⟨bp,0,none⟩=some (.slice (some ⟨g,0,none⟩) n n)/\w'.cell? ⟨w,0,none⟩=some (.int .i64 i)/\w'.cell? ⟨g,i*7,none⟩=some (.int .i64 1)/\w'.cell? ⟨g,i*7+1,none⟩=some (.string tx)/\w'.cell? ⟨g,i*7+2,none⟩=some (.int .i64 nn)/\w'.cell? ⟨g,i*7+3,none⟩=some (.int .i64 en)/\w'.cell? ⟨g,i*7+4,none⟩=some (.int .i64 nx)/\w'.cell? ⟨g,i*7+5,none⟩=some (.int .i64 dp)/\w'.cell? ⟨g,i*7+6,none⟩=some (.int .i64 lg))
  (first|exact⟨k3 c0 _ _ _,hx0 _ _,k3 d0 _ _ _,k3 d1 _ _ _,k3 d2 _ _ _,k3 d3 _ _ _,k3 d4 _ _ _,k3 d5 _ _ _,k3 d6 _ _ _⟩|exact⟨k4 c0 _ _ _ _,hx4 _ _ _,k4 d0 _ _ _ _,k4 d1 _ _ _ _,k4 d2 _ _ _ _,k4 d3 _ _ _ _,k4 d4 _ _ _ _,k4 d5 _ _ _ _,k4 d6 _ _ _ _⟩) (fail)
 all_goals
  go_wp2_with fail;refine(z2a bp wd nx c tx.size _ hw hc hk (k4d c1 _ _ _ _)).mono ?_;rintro e w2⟨rfl,hb2⟩;obtain⟨hcl,hfr⟩:=q1c hb2;have hs2:w.heap.size+1+1+1+1<=w2.heap.size:=by have:=hb2.size;simpa using this
  have a0:w2.cell? ⟨w.heap.size+1,0,none⟩=some (.int .i64 0):=(hcl _ _ (by simp)).trans (by simp[go_sem]);have a1:w2.cell? ⟨w.heap.size+1,1,none⟩=some (.int .i64 0):=(hcl _ _ (by simp)).trans (by simp[go_sem]);have b0:w2.cell? ⟨w.heap.size+1+1,0,none⟩=some (.int .i64 0):=(hcl _ _ (by simp)).trans (by simp[go_sem]);have b1:w2.cell? ⟨w.heap.size+1+1,1,none⟩=some (.int .i64 0):=(hcl _ _ (by simp)).trans (by simp[go_sem]);have f0:w2.frozen? ⟨w.heap.size+1,0,none⟩=false:=(hfr _ _ (by simp)).trans (by simp[go_sem]);have f1:w2.frozen? ⟨w.heap.size+1,1,none⟩=false:=(hfr _ _ (by simp)).trans (by simp[go_sem]);have f2:w2.frozen? ⟨w.heap.size+1+1,0,none⟩=false:=(hfr _ _ (by simp)).trans (by simp[go_sem]);have f3:w2.frozen? ⟨w.heap.size+1+1,1,none⟩=false:=(hfr _ _ (by simp)).trans (by simp[go_sem]);have hB:Below w w w2:=(y1f w _ _ _ _).drew.trans (hb2.mono (by simp;omega));clear hcl hfr hb2;go_wp2;exact bodyPost_ret (v:=.tuple #[.agg #[.int .i64 nx,.int .i64 ((min (c+tx.size) wd:Nat):Int)],.agg #[.int .i64 ((c+tx.size-wd:Nat):Int),.int .i64 0]]) (by simp[results,Tryz.results217,go_sem,a0,a1,b0,b1]) rfl ⟨rfl,(((hB.setCell (p:=⟨w.heap.size+1,0,none⟩) (by simp) _).setCell (p:=⟨w.heap.size+1,1,none⟩) (by simp) _).setCell (p:=⟨w.heap.size+1+1,0,none⟩) (by simp;omega) _).setCell (p:=⟨w.heap.size+1+1,1,none⟩) (by simp;omega) _⟩
theorem j2f(bp g n wd i c:Nat)(tx:ByteArray)(nn en:Int)(nx dp:Nat)(lg:Nat)(w:World)(hi:(i:Int)<n)(hw:wd<=100)(hc:c<=100)(hk:lg<=20000)
  (c0:w.cell? ⟨bp,0,none⟩=some (.slice (some ⟨g,0,none⟩) n n)) (c1:w.cell? ⟨bp,1,none⟩=some (.int .i64 wd))
  (d0:w.cell? ⟨g,i*7,none⟩=some (.int .i64 8)) (d1:w.cell? ⟨g,i*7+1,none⟩=some (.string tx)) (d2:w.cell? ⟨g,i*7+2,none⟩=some (.int .i64 nn)) (d3:w.cell? ⟨g,i*7+3,none⟩=some (.int .i64 en)) (d4:w.cell? ⟨g,i*7+4,none⟩=some (.int .i64 nx)) (d5:w.cell? ⟨g,i*7+5,none⟩=some (.int .i64 dp)) (d6:w.cell? ⟨g,i*7+6,none⟩=some (.int .i64 lg)):
  Calls prog 217 #[.pointer (some ⟨bp,0,none⟩),.agg #[.int .i64 i,.int .i64 c],.int .i64 0] w fun e w'=>e=.returned (.tuple #[.agg #[.int .i64 nx,.int .i64 ((min (c+lg) wd:Nat):Int)],.agg #[.int .i64 ((c+lg-wd:Nat):Int),.int .i64 0]])/\Below w w w':=by
 have hp0:(0:Int)<=(i:Int):=by omega
 have hlt:=World.block_lt_of_cell? w ⟨bp,0,none⟩ c0;have hltg:=World.block_lt_of_cell? w ⟨g,i*7,none⟩ d0;have hx0:∀O2 O3,(((w.alloc (.cells #[.int .i64 i,.int .i64 c] 121)).alloc O2).alloc O3).cell? ⟨w,0,none⟩=some (.int .i64 i):=fun O2 O3=>by simp[go_sem]
 have hx4:∀O2 O3 O4,((((w.alloc (.cells #[.int .i64 i,.int .i64 c] 121)).alloc O2).alloc O3).alloc O4).cell? ⟨w,0,none⟩=some (.int .i64 i):=fun O2 O3 O4=>ka (hx0 O2 O3) O4
 go_in;go_wp2_with fail
 go_region_held3 (fun w'=>w'.cell? ⟨bp,0,none⟩=some (.slice (some ⟨g,0,none⟩) n n)/\w'.cell? ⟨w,0,none⟩=some (.int .i64 i)/\w'.cell? ⟨g,i*7,none⟩=some (.int .i64 8)/\w'.cell? ⟨g,i*7+1,none⟩=some (.string tx)/\w'.cell? ⟨g,i*7+2,none⟩=some (.int .i64 nn)/\w'.cell? ⟨g,i*7+3,none⟩=some (.int .i64 en)/\w'.cell? ⟨g,i*7+4,none⟩=some (.int .i64 nx)/\w'.cell? ⟨g,i*7+5,none⟩=some (.int .i64 dp)/\w'.cell? ⟨g,i*7+6,none⟩=some (.int .i64 lg))
  (first|exact⟨k3 c0 _ _ _,hx0 _ _,k3 d0 _ _ _,k3 d1 _ _ _,k3 d2 _ _ _,k3 d3 _ _ _,k3 d4 _ _ _,k3 d5 _ _ _,k3 d6 _ _ _⟩|exact⟨k4 c0 _ _ _ _,hx4 _ _ _,k4 d0 _ _ _ _,k4 d1 _ _ _ _,k4 d2 _ _ _ _,k4 d3 _ _ _ _,k4 d4 _ _ _ _,k4 d5 _ _ _ _,k4 d6 _ _ _ _⟩) (fail)
 all_goals
  go_wp2_with fail;refine(z2a bp wd nx c lg _ hw hc hk (k4d c1 _ _ _ _)).mono ?_;rintro e w2⟨rfl,hb2⟩;obtain⟨hcl,hfr⟩:=q1c hb2;have hs2:w.heap.size+1+1+1+1<=w2.heap.size:=by have:=hb2.size;simpa using this
  have a0:w2.cell? ⟨w.heap.size+1,0,none⟩=some (.int .i64 0):=(hcl _ _ (by simp)).trans (by simp[go_sem]);have a1:w2.cell? ⟨w.heap.size+1,1,none⟩=some (.int .i64 0):=(hcl _ _ (by simp)).trans (by simp[go_sem]);have b0:w2.cell? ⟨w.heap.size+1+1,0,none⟩=some (.int .i64 0):=(hcl _ _ (by simp)).trans (by simp[go_sem]);have b1:w2.cell? ⟨w.heap.size+1+1,1,none⟩=some (.int .i64 0):=(hcl _ _ (by simp)).trans (by simp[go_sem]);have f0:w2.frozen? ⟨w.heap.size+1,0,none⟩=false:=(hfr _ _ (by simp)).trans (by simp[go_sem]);have f1:w2.frozen? ⟨w.heap.size+1,1,none⟩=false:=(hfr _ _ (by simp)).trans (by simp[go_sem]);have f2:w2.frozen? ⟨w.heap.size+1+1,0,none⟩=false:=(hfr _ _ (by simp)).trans (by simp[go_sem]);have f3:w2.frozen? ⟨w.heap.size+1+1,1,none⟩=false:=(hfr _ _ (by simp)).trans (by simp[go_sem]);have hB:Below w w w2:=(y1f w _ _ _ _).drew.trans (hb2.mono (by simp;omega));clear hcl hfr hb2;go_wp2;exact bodyPost_ret (v:=.tuple #[.agg #[.int .i64 nx,.int .i64 ((min (c+lg) wd:Nat):Int)],.agg #[.int .i64 ((c+lg-wd:Nat):Int),.int .i64 0]]) (by simp[results,Tryz.results217,go_sem,a0,a1,b0,b1]) rfl ⟨rfl,(((hB.setCell (p:=⟨w.heap.size+1,0,none⟩) (by simp) _).setCell (p:=⟨w.heap.size+1,1,none⟩) (by simp) _).setCell (p:=⟨w.heap.size+1+1,0,none⟩) (by simp;omega) _).setCell (p:=⟨w.heap.size+1+1,1,none⟩) (by simp;omega) _⟩
end Go.Proofs.YthcpdohdppkmkaaGreatDoor
