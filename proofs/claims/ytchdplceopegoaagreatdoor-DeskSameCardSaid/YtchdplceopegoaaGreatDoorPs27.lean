/- Texts as one: WLayF, Pn4, Pn5. -/
import Derived.Test.YtchdplceopegoaaGreatDoorPs26
import Derived.Test.YtchdplceopegoaaGreatDoorPs25
namespace Go.Proofs.YtchdplceopegoaaGreatDoor
open Go Go.RowKit
set_option maxRecDepth 100000
set_option maxHeartbeats 4000000
theorem q0v.part {s o i:Nat} {w:World} {ds A r:List Nd} (h:q0v s w (some ⟨s,o,none⟩) ds) (hd:ds.drop i=A++r):q0v s w (some ⟨s,o+i*3,none⟩) A:=by
 intro j hj
 have hl:=congrArg List.length hd
 rw [List.length_drop,List.length_append] at hl
 have hij:i+j<ds.length:=by omega
 obtain ⟨o',e,c1,c2,c3⟩:=h (i+j) hij
 simp only [Option.some.injEq,Addr.mk.injEq,and_true,true_and] at e
 subst e
 have he:ds[i+j]=A[j]:=by
  have h1:(ds.drop i)[j]? = some A[j]:=by rw [hd,List.getElem?_append_left hj];simp
  rw [List.getElem?_drop] at h1
  exact (List.getElem?_eq_some_iff.1 h1).2
 rw [he] at c1 c2 c3
 refine ⟨o+i*3,rfl,?_,?_,?_⟩
 ·rw [show o+i*3+j*3=o+(i+j)*3 by omega];exact c1
 ·rw [show o+i*3+j*3+1=o+(i+j)*3+1 by omega];exact c2
 ·rw [show o+i*3+j*3+2=o+(i+j)*3+2 by omega];exact c3
theorem v1t (B b s be bf:Nat) (ds:List Nd) (a:Option Addr) (cap:Nat) (i:Nat) (t:Tr) (r:List Nd) (l:List UInt8) (cv:Value) (w:World) (ht:t.Wf) (hd:ds.drop i=t.nodes++r) (hC:LC B s be bf a ds w) (hW:WS B b (q5r be bf ds.length cap a) l cv w) (hf:t.isFlat=false) :
  Calls Tryz.prog 248 #[.pointer (some ⟨b,0,none⟩),.int .i64 i] w fun e w'=>e = .returned (q1f 4)∧Below B w w':=by
 have hi:=q8d hd
 have c2:=hW.c2
 have k2:=(hC.kn i t r (Nat.zero_le _) ht hd).2
 rw [hf] at k2
 have hiI:(i:Int)<(ds.length:Int):=by omega
 rw [y0k]
 clear hC hW hd
 go_enter Tryz.func248,Tryz.ntmps248
 go_wp2
 go_ret
 exact ⟨rfl,Below.refl _ _⟩
theorem j6d (B b s be bf:Nat) (hb:s<B∧be<B∧bf<B) (hB:B≤b) (ds:List Nd) (a:Option Addr) (cap:Nat) (hcap:ds.length≤cap) (hl:ds.length≤400) (i:Nat) (t:Tr) (r:List Nd) (l:List UInt8) (cv:Value) (w:World) (ht:t.Wf) (hd:ds.drop i=t.nodes++r) (hC:LC B s be bf a ds w) (hW:WS B b (q5r be bf ds.length cap a) l cv w) (hf:t.isFlat=true) (hsz:l.length≤1000000000) :
  Calls Tryz.prog 248 #[.pointer (some ⟨b,0,none⟩),.int .i64 i] w fun e w'=>e = .returned .nilIface∧WS B b (q5r be bf ds.length cap a) (l++t.line.data.toList) cv w'∧Below B w w':=by
 have hi:=q8d hd
 have c0:=hW.c0
 have c1:=hW.c1
 have c2:=hW.c2
 obtain ⟨k1,k2⟩:=hC.kn i t r (Nat.zero_le _) ht hd
 rw [hf] at k2
 obtain ⟨o0,ea,_,_,_⟩:=hC.nd i hi
 subst ea
 have hlt:=hW.lt
 have hbs:B≤w.heap.size:=by omega
 have hiI:(i:Int)<(ds.length:Int):=by omega
 have hlen:i+t.nodes.length≤ds.length:=by
  have:=congrArg List.length hd
  rw [List.length_drop,List.length_append] at this
  omega
 have hp:=t.pos
 have hn:q2y w (some ⟨s,o0+i*3,none⟩) t.nodes:=(hC.nd.part hd).nods (by omega)
 have hlf:t.line.size≤8000:=by have:=z3e t ht;rw [z9e];omega
 generalize hj:i+t.nodes.length=j at k1 hlen
 have hnl:t.nodes.length=j - i:=by omega
 have HFL:Hid (∀ W:World,Below w.heap.size w W→Calls Tryz.prog 221 #[.slice (some ⟨s,o0+i*3,none⟩) (j - i) (cap - i)] W fun e w'=>e = .returned (.tuple #[.string t.line,.bool true,.nilIface])∧Below W.heap.size W w'):=fun W hW=>by
  have:=j0x t.nodes t rfl ht (by omega) (some ⟨s,o0+i*3,none⟩) (cap - i) (by omega) W (hn.below hW)
  rw [hf,hnl] at this
  exact this
 have h1:(i:Int)≤(j:Int):=by omega
 have hbe:be<w.heap.size:=by omega
 have hp0:(0:Int)≤(i:Int):=by omega
 have hpj:(0:Int)≤(j:Int):=by omega
 have hic:(i:Int)<(cap:Int):=by omega
 have hci:¬ (cap - i=0):=by omega
 have hcj:¬ (cap=i):=by omega
 have hij:((j:Int) - (i:Int)).toNat=j - i:=by omega
 have hcij:((cap:Int) - (i:Int)).toNat=cap - i:=by omega
 have h2:(j:Int)≤(cap:Int):=by omega
 have h3:(j:Int)≤(ds.length:Int):=by omega
 have HW:Hid (WS B b (q5r be bf ds.length cap (some ⟨s,o0,none⟩)) l cv w):=hW
 clear hC hW hd hn hnl
 go_enter Tryz.func248,Tryz.ntmps248
 go_wp2_with fail
 go_region_held3 (fun w'=>w'.cell? ⟨b,0,none⟩=some (.slice (some ⟨s,o0,none⟩) ds.length cap)∧w'.cell? ⟨b,1,none⟩=some (.slice (some ⟨be,0,none⟩) ds.length ds.length)∧w'.cell? ⟨be,i,none⟩=some (.int .i64 (j:Int)))
  (first | exact ⟨c0,c1,k1⟩ | exact ⟨((q0w hb2).1 _ _ hlt).trans c0,((q0w hb2).1 _ _ hlt).trans c1,((q0w hb2).1 _ _ hbe).trans k1⟩)
  (first | (go_at_call 221;refine (HFL.out _ (Below.drew (Below.refl _ w))).mono ?_;rintro e w2 ⟨rfl,hb2⟩))
 all_goals
  have HW2:Hid (WS B b (q5r be bf ds.length cap (some ⟨s,o0,none⟩)) l cv w2):=WS.below (WS.drew HW.out) hb2
  have HB2:Hid (Below B w w2):=(Below.drew (Below.refl B w)).trans (hb2.mono hbs)
  clear hb2
  go_wp2_with fail
  refine (y3w HW2.out hB t.line (by omega)).mono ?_
  rintro e w3 ⟨⟨z,rfl⟩,h3,hb3⟩
  go_wp2
  go_ret
  exact ⟨rfl,h3,HB2.out.trans hb3⟩
abbrev q4q:Array Value:=#[.int .i64 0,.string ⟨#[]⟩,.int .i64 0,.int .i64 0,.int .i64 0,.int .i64 0,.int .i64 0]
theorem j3v:(Tryz.prog.info? 248).map (fun i=>(i.zero,i.size,i.bytes))=some (some (.agg q4q),7,64):=by kernel_rfl
theorem z6u {z:Array Value} {n k:Nat} (h:k<n):(madeCells z n)[k]? = some (z[k % z.size]!):=by
 simp [madeCells,h]
theorem v7f {w:World} {g n:Nat} (h:w.heap[g]? = some (.cells (madeCells q4q (n*7)) 248 (0,0))):PwR w g n (fun _=>q0) where
 get j hj:=by
  have hc:∀ f,f<7→w.cell? ⟨g,j*7+f,none⟩=some (q4q[f]!):=fun f hf=>by
   simp only [World.cell?,h]
   rw [z6u (by omega),show q4q.size=7 from rfl,show (j*7+f) % 7=f by omega]
   rfl
  exact ⟨hc 0 (by omega),hc 1 (by omega),hc 2 (by omega),hc 3 (by omega),hc 4 (by omega),hc 5 (by omega),hc 6 (by omega)⟩
 row:=⟨_,_,h⟩
theorem k9b (n:Nat) (hn:n≤400) (W:World):(Instr.makeSlice 208 (.int .i64 (n:Int)) (.int .i64 (n:Int))).run Tryz.prog W = .ok (.slice (some ⟨W.heap.size,0,none⟩) n n) (W.alloc (.cells (madeCells q4q (n*7)) 248)):=by
 obtain ⟨i,hi,hz,hs,hb⟩:=info_parts j3v
 have:=run_make (P:=Tryz.prog) W 208 248 i _ Tryz.underlying208 hi hz .i64 .i64 n n (by omega) (by omega) (by rw [hb];omega) (by omega)
 rw [hs,Int.toNat_natCast] at this
 exact this
theorem j7j {R:List Pl} {L M i nx dp:Nat} {ks:List (Nat × Tr)} {t:Tr} (bp g:Nat) (F:Nat→Q) (w:World) (hR:R.length≤400) (h:Sp R L M i t nx dp ks) (hop:(F i).op=(q1c R i).nd.op) (hen:∀ j,i<j→j<R.length→(F j).en=(q1c R j).en)
  (c0:w.cell? ⟨bp,0,none⟩=some (.slice (some ⟨g,0,none⟩) R.length R.length)) (hp:PwR w g R.length F) :
  Calls Tryz.prog 161 #[.pointer (some ⟨bp,0,none⟩),.int .i64 i] w fun e w'=>e = .returned (.int .i64 (q1c R i).en)∧∃ q,w'=w.drewN q:=by
 have hi:(i:Int)<(R.length:Nat):=by have:=h.lt;omega
 have d0:=(hp.get i h.lt).c0
 rw [hop] at d0
 have ha:=h.at
 rw [ha] at d0 ⊢
 cases t with
 | leaf x=>
  have hne:∀ k:Int,k=6∨k=9∨k=7∨k=8→(x.op == k)=false:=fun k hk=>beq_eq_false_iff_ne.2 (by
   rcases q4r h.wf.1 h.wf.2 with e | e | e | e | e<;>omega)
  exact k8u bp g R.length i x.op w hR hi c0 d0 (hne 6 (by omega)) (hne 9 (by omega)) (hne 7 (by omega)) (hne 8 (by omega))
 | one x a=>
  have hs:=h.one
  have d3:=(hp.get (i+1) hs.lt).c3
  rw [hen (i+1) (by omega) hs.lt,hs.at] at d3
  have e:(z5e (Tr.one x a) i nx dp ks).en=(z5e a (i+1) nx (dp+x.n.toNat) ks).en:=by
   show i+(Tr.one x a).sz=i+1+a.sz
   rw [k0b];omega
  rw [e]
  exact j7k bp g R.length i x.op _ w hR hi (by have:=hs.lt;omega) c0 d0 d3 (z1n h.wf.2.1)
 | two x a b=>
  obtain ⟨nx',ks',hs⟩:=h.two1
  have hs2:=h.two2
  have d3:=(hp.get (i+1) hs.lt).c3
  rw [hen (i+1) (by omega) hs.lt,hs.at] at d3
  have d4:=(hp.get (i+1+a.sz) hs2.lt).c3
  rw [hen (i+1+a.sz) (by omega) hs2.lt,hs2.at] at d4
  have e:(z5e (Tr.two x a b) i nx dp ks).en=(z5e b (i+1+a.sz) nx dp ks).en:=by
   show i+(Tr.two x a b).sz=i+1+a.sz+b.sz
   rw [z3o];omega
  rw [e]
  exact j7l bp g R.length i (i+1+a.sz) x.op _ w hR hi (by have:=hs.lt;omega) (by have:=hs2.lt;omega) c0 d0 d3 d4 (z0b h.wf.2.1)
structure NP (w0 w:World) (wd n:Nat):Prop where
 c0:w.cell? ⟨w0.heap.size+1+1,0,none⟩=some (.slice (some ⟨w0.heap.size+1,0,none⟩) n n)
 c1:w.cell? ⟨w0.heap.size+1+1,1,none⟩=some (.int .i64 wd)
 r0:w.cell? ⟨w0.heap.size,0,none⟩=some (.slice none 0 0)
 r1:w.cell? ⟨w0.heap.size,1,none⟩=some (.int .i64 0)
 f0:z2o w w0.heap.size
 bw:Below w0.heap.size w0 w
theorem NP.belX {w0 w w':World} {wd n B:Nat} (h:NP w0 w wd n) (hb:q0i B (w0.heap.size+1) w w') (hB:w0.heap.size+1+1+1≤B):NP w0 w' wd n where
 c0:=(hb.cell (p:=⟨w0.heap.size+1+1,0,none⟩) (by simp;omega) (by simp)).trans h.c0
 c1:=(hb.cell (p:=⟨w0.heap.size+1+1,1,none⟩) (by simp;omega) (by simp)).trans h.c1
 r0:=(hb.cell (p:=⟨w0.heap.size,0,none⟩) (by simp;omega) (by simp)).trans h.r0
 r1:=(hb.cell (p:=⟨w0.heap.size,1,none⟩) (by simp;omega) (by simp)).trans h.r1
 f0:=h.f0.kept (hb.block _ (by omega) (by omega))
 bw:=h.bw.trans ((hb.mono (B':=w0.heap.size) (by omega)).below (by omega))
theorem NP.same {w0 w w':World} {wd n:Nat} (h:NP w0 w wd n) (e1:w'.heap=w.heap) (e2:w'.os=w.os) (e3:w'.tape=w.tape) (e4:w'.output=w.output):NP w0 w' wd n:=
 h.belX (B:=w0.heap.size+1+1+1) ⟨e2,e3,e4,by rw [e1];exact Nat.le_refl _,fun k _ _=>by rw [e1]⟩ (by omega)
theorem NP.lt {w0 w:World} {wd n:Nat} (h:NP w0 w wd n):w0.heap.size+1+1<w.heap.size:=World.block_lt_of_cell? w ⟨w0.heap.size+1+1,0,none⟩ h.c0
theorem v0y {t t':Tr} {i nx dp:Nat} {ks:List (Nat × Tr)} {ds:List Nd} (hd:ds=t.nodes) (h:Sp (q0a t) t.lf t.dsum i t' nx dp ks):∃ r,ds.drop i=t'.nodes++r:=by
 obtain ⟨post,e⟩:=h.pl
 refine ⟨post.map (·.nd),?_⟩
 have e1:(q0a t).map (·.nd)=ds:=by rw [hd];exact z1c t _ _ _ _
 rw [←e1,←List.map_drop,e,List.map_append,z1c]
theorem v9t {w:World} {B g o:Nat} {v:Value}:q0i B g w (w.setCell ⟨g,o,none⟩ v):=(q0i.refl B g w).setCell (p:=⟨g,o,none⟩) (.inl rfl) v
theorem j9z (w0:World) (wd n:Nat):NP w0 (((w0.alloc (.cells #[.slice none 0 0,.int .i64 0] 210)).alloc (.cells (madeCells q4q (n*7)) 248)).alloc (.cells #[.slice (some ⟨w0.heap.size+1,0,none⟩) n n,.int .i64 wd] 210)) wd n∧PwR (((w0.alloc (.cells #[.slice none 0 0,.int .i64 0] 210)).alloc (.cells (madeCells q4q (n*7)) 248)).alloc (.cells #[.slice (some ⟨w0.heap.size+1,0,none⟩) n n,.int .i64 wd] 210)) (w0.heap.size+1) n (fun _=>q0):=by
 have n0:=heap_alloc_new w0 (.cells #[.slice none 0 0,.int .i64 0] 210)
 have n1:=heap_alloc_new (w0.alloc (.cells #[.slice none 0 0,.int .i64 0] 210)) (.cells (madeCells q4q (n*7)) 248)
 have s1:(w0.alloc (.cells #[.slice none 0 0,.int .i64 0] 210)).heap.size=w0.heap.size+1:=by simp
 rw [s1] at n1
 have k0:(((w0.alloc (.cells #[.slice none 0 0,.int .i64 0] 210)).alloc (.cells (madeCells q4q (n*7)) 248)).alloc (.cells #[.slice (some ⟨w0.heap.size+1,0,none⟩) n n,.int .i64 wd] 210)).heap[w0.heap.size]? = some (.cells #[.slice none 0 0,.int .i64 0] 210 (0,0)):=
  (Below.heap_alloc _ _ _ (by simp;omega)).trans ((Below.heap_alloc _ _ _ (by simp)).trans n0)
 have k1:(((w0.alloc (.cells #[.slice none 0 0,.int .i64 0] 210)).alloc (.cells (madeCells q4q (n*7)) 248)).alloc (.cells #[.slice (some ⟨w0.heap.size+1,0,none⟩) n n,.int .i64 wd] 210)).heap[w0.heap.size+1]? = some (.cells (madeCells q4q (n*7)) 248 (0,0)):=
  (Below.heap_alloc _ _ _ (by simp)).trans n1
 exact ⟨⟨by simp [go_sem],by simp [go_sem],by simp [World.cell?,k0],by simp [World.cell?,k0],⟨_,_,k0⟩,(((Below.refl _ w0).alloc (Nat.le_refl _) _).alloc (by simp) _).alloc (by simp;omega) _⟩,v7f k1⟩
set_option maxHeartbeats 8000000
theorem z8d (ds:List Nd) (t:Tr) (hd:ds=t.nodes) (ht:t.Wf) (hl:ds.length≤400) (a:Option Addr) (cap s wd:Nat) (hcap:ds.length≤cap) (w:World) (hN:q0v s w a ds) (hs:s<w.heap.size) :
  Calls Tryz.prog 125 #[.slice a ds.length cap,.int .i64 wd] w fun e w'=>e = .returned (.agg #[.slice (some ⟨w.heap.size+1,0,none⟩) ds.length ds.length,.int .i64 wd])∧PwR w' (w.heap.size+1) ds.length (fun j=>q2 (q1c (q0a t) j))∧Below w.heap.size w w':=by
 have hRl:(q0a t).length=ds.length:=by rw [q2f,hd];rfl
 have hpos:0<ds.length:=by rw [hd];exact t.pos
 have hm:∀ W:World,(Instr.makeSlice 208 (.int .i64 (ds.length:Int)) (.int .i64 (ds.length:Int))).run Tryz.prog W = .ok (.slice (some ⟨W.heap.size,0,none⟩) ds.length ds.length) (W.alloc (.cells (madeCells q4q (ds.length*7)) 248)):=k9b ds.length hl
 have HST:Hid (∀ W:World,NP W (((W.alloc (.cells #[.slice none 0 0,.int .i64 0] 210)).alloc (.cells (madeCells q4q (ds.length*7)) 248)).alloc (.cells #[.slice (some ⟨W.heap.size+1,0,none⟩) ds.length ds.length,.int .i64 wd] 210)) wd ds.length∧PwR (((W.alloc (.cells #[.slice none 0 0,.int .i64 0] 210)).alloc (.cells (madeCells q4q (ds.length*7)) 248)).alloc (.cells #[.slice (some ⟨W.heap.size+1,0,none⟩) ds.length ds.length,.int .i64 wd] 210)) (W.heap.size+1) ds.length (fun _=>q0)):=fun W=>j9z W wd ds.length
 have HD:Hid (ds=t.nodes):=hd
 have HN:Hid (q0v s w a ds):=hN
 have HRL:Hid ((q0a t).length=ds.length):=hRl
 clear hd hN hRl
 have ea:∃ o,a=some ⟨s,o,none⟩:=by
  obtain ⟨o,e,_⟩:=HN.out 0 hpos
  exact ⟨o,e⟩
 obtain ⟨o,rfl⟩:=ea
 have HNO:Hid (∀ (W:World) i (h:i<ds.length),Below w.heap.size w W→W.cell? ⟨s,o+i*3,none⟩=some (.int .i64 ds[i].op)∧W.cell? ⟨s,o+i*3+1,none⟩=some (.string ds[i].tx)∧W.cell? ⟨s,o+i*3+2,none⟩=some (.int .i64 ds[i].n)):=fun W i h hW=>by
  obtain ⟨o',e,d⟩:=(HN.out.kept (hW.block s hs)) i h
  simp only [Option.some.injEq,Addr.mk.injEq,and_true,true_and] at e
  subst e
  exact d
 have HAT:Hid (∀ i (h:i<ds.length),(q1c (q0a t) i).nd=ds[i]):=fun i h=>by
  have e1:(q0a t).map (·.nd)=ds:=by rw [HD.out];exact z1c t _ _ _ _
  have hi:i<(q0a t).length:=by rw [HRL.out];exact h
  have e2:((q0a t).map (·.nd))[i]? = some ds[i]:=by rw [e1];exact List.getElem?_eq_getElem h
  rw [List.getElem?_map,List.getElem?_eq_getElem hi] at e2
  rw [q1c,List.getD,List.getElem?_eq_getElem hi]
  simpa using e2
 go_enter Tryz.func125,Tryz.ntmps125
 go_wp2_with fail
 go_loopw [6] (fun i wr=>NP w wr wd ds.length∧∃ k:Nat,k≤ds.length∧i = .int .i64 ((k:Int) - 1)∧PwR wr (w.heap.size+1) ds.length (F1 (q0a t) k)) (fun i _=>(intOf i+1).toNat)
 case atStart=>
  refine ⟨(HST.out w).1,ds.length,Nat.le_refl _,rfl,(HST.out w).2.congr fun j hj=>?_⟩
  simp only [F1]
  rw [if_neg (by omega)]
 case round=>
  obtain ⟨hp,k,hk,rfl,hpr⟩:=hrel
  have HR:Hid (NP w wr wd ds.length):=hp
  have HP:Hid (PwR wr (w.heap.size+1) ds.length (F1 (q0a t) k)):=hpr
  have c0:=hp.c0
  clear hp hpr
  by_cases hk0:k=0
  ·subst hk0
   have hneg:¬ ((0:Int)≤((0:Nat):Int) - 1):=by omega
   have e4:wr.cell? ⟨w.heap.size+1,4,none⟩=some (.int .i64 (F1 (q0a t) 0 0).nx):=by have:=(HP.out.get 0 hpos).c4;simpa using this
   have f4:wr.frozen? ⟨w.heap.size+1,4,none⟩=false:=HP.out.row.frozen
   have hposI:(0:Int)<(ds.length:Int):=by omega
   have HP2:Hid (PwR (wr.setCell ⟨w.heap.size+1,4,none⟩ (.int .i64 (ds.length:Int))) (w.heap.size+1) ds.length (upd (F1 (q0a t) 0) 0 { F1 (q0a t) 0 0 with nx:=(ds.length:Int) })):=by
    have:=HP.out.putNx hpos (ds.length:Int)
    rw [Nat.zero_mul,Nat.zero_add] at this
    exact this
   have HT2:Hid (Tl (q0a t) t.lf t.dsum 0 (upd (F1 (q0a t) 0) 0 { F1 (q0a t) 0 0 with nx:=(ds.length:Int) })):=by
    have:=Tl.start (t:=t)
    rw [←q2f,HRL.out] at this
    exact this
   have HR2:Hid (NP w (wr.setCell ⟨w.heap.size+1,4,none⟩ (.int .i64 (ds.length:Int))) wd ds.length):=HR.out.belX (B:=w.heap.size+1+1+1) v9t (Nat.le_refl _)
   go_wp2_with fail
   generalize wr.setCell ⟨w.heap.size+1,4,none⟩ (.int .i64 (ds.length:Int))=w5 at *
   clear c0 e4 f4 HR HP
   go_loopw [44] (fun i wq=>NP w wq wd ds.length∧∃ k:Nat,k≤ds.length∧i = .int .i64 k∧∃ F,PwR wq (w.heap.size+1) ds.length F∧Tl (q0a t) t.lf t.dsum k F) (fun i _=>ds.length - (intOf i).toNat)
   case atStart=>exact ⟨HR2.out,0,Nat.zero_le _,rfl,_,HP2.out,HT2.out⟩
   case round=>
    clear HR2 HP2 HT2
    obtain ⟨hp,k,hk,rfl,F,hpr,hT⟩:=hrel
    have HR:Hid (NP w wr wd ds.length):=hp
    by_cases hlt:k<ds.length
    ·have hkR:k<(q0a t).length:=by rw [HRL.out];exact hlt
     obtain ⟨t',nx,dp,ks,hsp⟩:=j4r ht hkR
     have h0:k=0∨∃ p,p<k∧k8b (q0a t) t.lf t.dsum p k:=by
      rcases Nat.eq_zero_or_pos k with e | e
      ·exact .inl e
      ·exact .inr (z9v ht e hkR)
     have hM:t.dsum≤3200:=by have:=q8h t;rw [←HD.out] at this;omega
     have hbt:=v5j (w.heap.size+1+1) (w.heap.size+1) F wr (by rw [HRL.out];exact hl) hM hsp hT h0 (by omega) (by rw [HRL.out];exact hp.c0) (by rw [HRL.out];exact hpr)
     rw [HRL.out] at hbt
     obtain ⟨r,hdr⟩:=v0y HD.out hsp
     have HBT:=(show Hid _ from hbt)
     have HSP:Hid (Sp (q0a t) t.lf t.dsum k t' nx dp ks):=hsp
     have HDR:Hid (ds.drop k=t'.nodes++r):=hdr
     clear hp hpr hT hbt h0 hsp hdr hkR
     have hltI:(k:Int)<(ds.length:Int):=by omega
     have hp0:(0:Int)≤(k:Int):=by omega
     go_wp2_with fail
     refine Calls.mono HBT.out ?_
     rintro e w2 ⟨rfl,⟨F',hp2,hT2,hpt⟩,hb2⟩
     have HR2:Hid (NP w w2 wd ds.length):=HR.out.belX hb2 (by have:=HR.out.lt;omega)
     have HP2:Hid (PwR w2 (w.heap.size+1) ds.length F'):=hp2
     have HT2:Hid (Tl (q0a t) t.lf t.dsum k F'):=hT2
     have HPT:Hid (∀ j,j<ds.length→k8b (q0a t) t.lf t.dsum k j→(F' j).nx=(q1c (q0a t) j).nx∧(F' j).dp=(q1c (q0a t) j).dp):=hpt
     clear hp2 hT2 hpt hb2 HR HBT
     have d0:=(HNO.out w2 k hlt HR2.out.bw).1
     have hx:ds[k]=t'.root:=by rw [←HAT.out k hlt,HSP.out.at];rfl
     rw [hx] at d0
     clear hx
     by_cases h8:t'.root.op=8
     ·cases t' with
      | leaf x=>
       have h8':x.op=8:=h8
       rcases q4r HSP.out.wf.1 HSP.out.wf.2 with e | e | e | e | e<;>omega
      | two x a' b'=>
       have h8':x.op=8:=h8
       rcases z0b HSP.out.wf.2.1 with e | e<;>omega
      | one x a'=>
       rw [h8] at d0
       have c0:=HR2.out.c0
       obtain ⟨_,_,_,g3,_,_,g6⟩:=HP2.out.get k hlt
       have z6:w2.frozen? ⟨w.heap.size+1,k*7+6,none⟩=false:=HP2.out.row.frozen
       have hen:(F' k).en=((k+(Tr.one x a').nodes.length:Nat):Int):=by rw [HT2.out.en k (by rw [HRL.out];exact hlt),HSP.out.at];rfl
       rw [hen] at g3
       have hlg:(q1c (q0a t) k).lg=lgF a'.flat:=by
        rw [HSP.out.at]
        show Tr.lg (.one x a')=_
        have h8':x.op=8:=h8
        simp [Tr.lg,h8']
       have hlen:k+(Tr.one x a').nodes.length≤ds.length:=by
        have:=congrArg List.length HDR.out
        rw [List.length_drop,List.length_append] at this
        omega
       have hpp:=(Tr.one x a').pos
       have hnods:q2y w2 (some ⟨s,o+k*3,none⟩) (Tr.one x a').nodes:=((HN.out.kept (HR2.out.bw.block s hs)).part HDR.out).nods (by have:=HR2.out.bw.size;omega)
       generalize hj:k+(Tr.one x a').nodes.length=j at g3 hlen
       have hnl:(Tr.one x a').nodes.length=j - k:=by omega
       have HLG:Hid (Calls Tryz.prog 163 #[.slice (some ⟨s,o+k*3,none⟩) (j - k) (cap - k)] w2.drew fun e w'=>e = .returned (.int .i64 (lgF a'.flat))∧Below w2.drew.heap.size w2.drew w'):=by
        have:=k9a (Tr.one x a').nodes (Tr.one x a') rfl HSP.out.wf (by omega) (some ⟨s,o+k*3,none⟩) (cap - k) (by omega) w2.drew (hnods.below (Below.drew (Below.refl _ w2)))
        rw [hnl] at this
        exact this
       have HLF:Hid ((q1c (q0a t) k).lg=lgF a'.flat):=hlg
       have h1:(k:Int)≤(j:Int):=by omega
       have hpj:(0:Int)≤(j:Int):=by omega
       have hic:(k:Int)<(cap:Int):=by omega
       have hci:¬ (cap - k=0):=by omega
       have hcj:¬ (cap=k):=by omega
       have hij:((j:Int) - (k:Int)).toNat=j - k:=by omega
       have hcij:((cap:Int) - (k:Int)).toNat=cap - k:=by omega
       have h2:(j:Int)≤(cap:Int):=by omega
       have h3:(j:Int)≤(ds.length:Int):=by omega
       clear hnods hnl hen hlg hj
       have hb3:=HR2.out.lt
       have HC0:Hid (∀ w3,Below w2.drew.heap.size w2.drew w3→w3.cell? ⟨w.heap.size+1+1,0,none⟩=some (.slice (some ⟨w.heap.size+1,0,none⟩) ds.length ds.length)):=fun w3 hb=>(hb.cell (p:=⟨w.heap.size+1+1,0,none⟩) hb3).trans c0
       have HG3:Hid (∀ w3,Below w2.drew.heap.size w2.drew w3→w3.cell? ⟨w.heap.size+1,k*7+3,none⟩=some (.int .i64 (j:Int))):=fun w3 hb=>(hb.cell (p:=⟨w.heap.size+1,k*7+3,none⟩) (by show w.heap.size+1<w2.heap.size;omega)).trans g3
       have HG6:Hid (∀ w3,Below w2.drew.heap.size w2.drew w3→PwR w3 (w.heap.size+1) ds.length F'∧NP w w3 wd ds.length):=fun w3 hb=>⟨HP2.out.kept (hb.block _ (by show w.heap.size+1<w2.heap.size;omega)),HR2.out.belX (B:=w2.heap.size) (q0i.of ((Below.drew (Below.refl _ w2)).trans hb)) (by omega)⟩
       go_wp2_with fail
       go_region_held3 (fun w'=>w'.cell? ⟨w.heap.size+1+1,0,none⟩=some (.slice (some ⟨w.heap.size+1,0,none⟩) ds.length ds.length)∧w'.cell? ⟨w.heap.size+1,k*7+3,none⟩=some (.int .i64 (j:Int)))
        (first | exact ⟨c0,g3⟩ | exact ⟨c03,g33⟩ | exact ⟨(cso (by omega)).trans c03,(cso (by omega)).trans g33⟩)
        ((go_at_call 163;refine HLG.out.mono ?_;rintro e w3 ⟨rfl,hb3'⟩;have c03:=HC0.out w3 hb3';have g33:=HG3.out w3 hb3';obtain ⟨hp3,hn3⟩:=HG6.out w3 hb3';have g63:=(hp3.get k hlt).c6;have z63:w3.frozen? ⟨w.heap.size+1,k*7+6,none⟩=false:=hp3.row.frozen;have HP3:Hid (PwR w3 (w.heap.size+1) ds.length F'):=hp3;have HR3:Hid (NP w w3 wd ds.length):=hn3;clear hp3 hn3 hb3'))
       all_goals
        go_wp2
        go_roundw
        case rel=>exact ⟨(HR3.out.belX (B:=w.heap.size+1+1+1) v9t (Nat.le_refl _)).same rfl rfl rfl rfl,k+1,by omega,by go_num,_,(HP3.out.putLg hlt (lgF a'.flat)).kept rfl,by rw [←HLF.out];exact HT2.out.nextLg (by rw [HRL.out];exact HPT.out)⟩
        case measure=>simp [intOf];omega
     ·have h8':(t'.root.op == 8)=false:=beq_eq_false_iff_ne.2 h8
      have hlg:(F' k).lg=(q1c (q0a t) k).lg:=by
       rw [HT2.out.l0 k (by rw [HRL.out];exact hlt) (Nat.le_refl _),HSP.out.at]
       show 0=t'.lg
       cases t' with
       | leaf x=>rfl
       | two x a' b'=>rfl
       | one x a'=>
        have h8'':¬ x.op=8:=h8
        simp [Tr.lg,h8'']
      have HLG:Hid ((F' k).lg=(q1c (q0a t) k).lg):=hlg
      clear hlg h8
      go_wp2
      go_roundw
      case rel=>exact ⟨HR2.out,k+1,by omega,by go_num,F',HP2.out,HT2.out.next (by rw [HRL.out];exact HPT.out) HLG.out⟩
      case measure=>simp [intOf];omega
    ·have hke:k=ds.length:=by omega
     have hF:=Tl.all ht (by rw [HRL.out,←hke];exact hT)
     have HP:Hid (PwR wr (w.heap.size+1) ds.length (fun j=>q2 (q1c (q0a t) j))):=hpr.congr (by rw [←HRL.out];exact hF)
     have c0:=hp.c0
     have c1:=hp.c1
     have r0:=hp.r0
     have r1:=hp.r1
     have f0:wr.frozen? ⟨w.heap.size,0,none⟩=false:=hp.f0.frozen
     have f1:wr.frozen? ⟨w.heap.size,1,none⟩=false:=hp.f0.frozen
     have hnl:¬ ((k:Int)<(ds.length:Int)):=by omega
     clear hp hpr hT hF hke
     go_wp2
     refine bodyPost_ret (v:=.agg #[.slice (some ⟨w.heap.size+1,0,none⟩) ds.length ds.length,.int .i64 wd]) (by simp [results,Tryz.results125,go_sem,r0,r1]) rfl ?_
     have hkk:∀ v0 v1,((wr.setCell ⟨w.heap.size,0,none⟩ v0).setCell ⟨w.heap.size,1,none⟩ v1).heap[w.heap.size+1]? = wr.heap[w.heap.size+1]?:=fun v0 v1=>(Below.heap_setCell _ _ _ _ (by simp)).trans (Below.heap_setCell _ _ _ _ (by simp))
     exact ⟨rfl,HP.out.kept (hkk _ _),HR.out.bw.trans (((Below.refl _ wr).setCell (p:=⟨w.heap.size,0,none⟩) (Nat.le_refl _) _).setCell (p:=⟨w.heap.size,1,none⟩) (Nat.le_refl _) _)⟩
  ·obtain ⟨i,rfl⟩:∃ i,k=i+1:=⟨k - 1,by omega⟩
   have hki:(((i+1:Nat):Int) - 1)=(i:Int):=by omega
   rw [hki]
   have hi:i<ds.length:=by omega
   obtain ⟨n0,n1,n2⟩:=HNO.out wr i hi HR.out.bw
   have HX:=HAT.out i hi
   generalize ds[i]=x at n0 n1 n2 HX
   have HXX:Hid ((q1c (q0a t) i).nd=x):=HX
   clear HX
   obtain ⟨g0,g1,g2,_,_,_,_⟩:=HP.out.get i hi
   have z0:wr.frozen? ⟨w.heap.size+1,i*7,none⟩=false:=HP.out.row.frozen
   have z1:wr.frozen? ⟨w.heap.size+1,i*7+1,none⟩=false:=HP.out.row.frozen
   have z2:wr.frozen? ⟨w.heap.size+1,i*7+2,none⟩=false:=HP.out.row.frozen
   have hp0:(0:Int)≤(i:Int):=by omega
   have hiI:(i:Int)<(ds.length:Int):=by omega
   have HP3:Hid (PwR (((wr.setCell ⟨w.heap.size+1,i*7,none⟩ (.int .i64 x.op)).setCell ⟨w.heap.size+1,i*7+1,none⟩ (.string x.tx)).setCell ⟨w.heap.size+1,i*7+2,none⟩ (.int .i64 x.n)) (w.heap.size+1) ds.length (upd (F1 (q0a t) (i+1)) i ⟨x.op,x.tx,x.n,0,0,0,0⟩)):=by
    have h:=((HP.out.putOp hi x.op).putTx hi x.tx).putN hi x.n
    rw [z7r,z7r,q0k,q0k] at h
    have e:F1 (q0a t) (i+1) i=q0:=by simp only [F1];rw [if_neg (by omega)]
    rw [e] at h
    exact h
   have HR3:Hid (NP w (((wr.setCell ⟨w.heap.size+1,i*7,none⟩ (.int .i64 x.op)).setCell ⟨w.heap.size+1,i*7+1,none⟩ (.string x.tx)).setCell ⟨w.heap.size+1,i*7+2,none⟩ (.int .i64 x.n)) wd ds.length):=HR.out.belX (B:=w.heap.size+1+1+1) ((v9t.trans v9t).trans v9t) (Nat.le_refl _)
   clear HP HR
   go_wp2_with fail
   go_region_held3 (fun w'=>w'.cell? ⟨w.heap.size+1+1,0,none⟩=some (.slice (some ⟨w.heap.size+1,0,none⟩) ds.length ds.length)∧w'.cell? ⟨s,o+i*3,none⟩=some (.int .i64 x.op)∧w'.cell? ⟨s,o+i*3+1,none⟩=some (.string x.tx)∧w'.cell? ⟨s,o+i*3+2,none⟩=some (.int .i64 x.n))
    (first | exact ⟨c0,n0,n1,n2⟩ | exact ⟨(cso (by omega)).trans ((cso (by omega)).trans ((cso (by omega)).trans c0)),(cso (by omega)).trans ((cso (by omega)).trans ((cso (by omega)).trans n0)),(cso (by omega)).trans ((cso (by omega)).trans ((cso (by omega)).trans n1)),(cso (by omega)).trans ((cso (by omega)).trans ((cso (by omega)).trans n2))⟩) (fail)
   all_goals
    go_wp2_with fail
    clear c0 n0 n1 n2 g0 g1 g2 z0 z1 z2
    generalize ((wr.setCell ⟨w.heap.size+1,i*7,none⟩ (.int .i64 x.op)).setCell ⟨w.heap.size+1,i*7+1,none⟩ (.string x.tx)).setCell ⟨w.heap.size+1,i*7+2,none⟩ (.int .i64 x.n)=w3 at *
    have c3:=HR3.out.c0
    have k3:=(HP3.out.get i hi).c3
    rw [q0k] at k3
    have z3:w3.frozen? ⟨w.heap.size+1,i*7+3,none⟩=false:=HP3.out.row.frozen
    have HB:Hid (Calls Tryz.prog 161 #[.pointer (some ⟨w.heap.size+1+1,0,none⟩),.int .i64 i] w3.drew.drew fun e w'=>e = .returned (.int .i64 (q1c (q0a t) i).en)∧∃ q,w'=w3.drew.drew.drewN q):=by
     have hiR:i<(q0a t).length:=by rw [HRL.out];exact hi
     obtain ⟨t',nx,dp,ks,hsp⟩:=j4r ht hiR
     refine j7j (w.heap.size+1+1) (w.heap.size+1) _ w3.drew.drew (by rw [HRL.out];exact hl) hsp ?_ (fun j hj hjl=>?_) (by rw [HRL.out];exact c3) (by rw [HRL.out];exact HP3.out.kept rfl)
     ·rw [q0k,HXX.out]
     ·rw [q0z (by omega)]
      simp only [F1]
      rw [if_pos (by omega)]
      rfl
    have HF:Hid (upd (upd (F1 (q0a t) (i+1)) i ⟨x.op,x.tx,x.n,0,0,0,0⟩) i ⟨x.op,x.tx,x.n,(q1c (q0a t) i).en,0,0,0⟩=F1 (q0a t) i):=by
     show _=_
     have:=v4l (R:=q0a t) (i:=i)
     rw [q1,HXX.out] at this
     rw [z7r]
     exact this
    have HP4:Hid (PwR (w3.setCell ⟨w.heap.size+1,i*7+3,none⟩ (.int .i64 (q1c (q0a t) i).en)) (w.heap.size+1) ds.length (F1 (q0a t) i)):=by
     have:=HP3.out.putEn hi (q1c (q0a t) i).en
     rw [q0k,HF.out] at this
     exact this
    have HR4:Hid (NP w (w3.setCell ⟨w.heap.size+1,i*7+3,none⟩ (.int .i64 (q1c (q0a t) i).en)) wd ds.length):=HR3.out.belX (B:=w.heap.size+1+1+1) v9t (Nat.le_refl _)
    clear HR3 HP3 HF HXX
    generalize ((q1c (q0a t) i).en:Int)=en at *
    go_region_held3 (fun w'=>w'.cell? ⟨w.heap.size+1+1,0,none⟩=some (.slice (some ⟨w.heap.size+1,0,none⟩) ds.length ds.length))
     (first | exact c3 | exact (cso (by omega)).trans c3) ((go_at_call 161;refine HB.out.mono ?_;rintro e w4 ⟨rfl,q,rfl⟩))
    all_goals
     go_wp2
     go_roundw
     case rel=>exact ⟨HR4.out.same rfl rfl rfl rfl,i,by omega,by go_num,HP4.out.kept rfl⟩
     case measure=>simp [intOf]
end Go.Proofs.YtchdplceopegoaaGreatDoor
