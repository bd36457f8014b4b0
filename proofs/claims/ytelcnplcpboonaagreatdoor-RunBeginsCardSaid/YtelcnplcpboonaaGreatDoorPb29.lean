import Derived.Test.YtelcnplcpboonaaGreatDoorPb22
import Derived.Test.YtelcnplcpboonaaGreatDoorPb23
open Go.Proofs.Tryz
namespace Go.Proofs.YtelcnplcpboonaaGreatDoor
open Go Go.RowKit
set_option maxRecDepth 100000
set_option maxHeartbeats 1000000
theorem k7h{b:Nat}{wa:Option Addr}{wc:Nat}(i A:Int)(w:World)(c5:w.cell? ⟨b,5,none⟩=some (.slice wa 0 wc)):
  Calls prog 280 #[.pointer (some ⟨b,0,none⟩),.int .i64 i,.int .i64 A] w fun e w'=>e=.returned (q0s 2)/\w=w':=by
 rw[z9e];go_in;go_wp2;go_ret;exact⟨rfl,rfl⟩
theorem y6z{b s be b0 o0 o1 n C wc:Nat}(i A m:Nat)(w:World)(_hbb:b0≠b)(L:s≠b)(G:be≠b)(_hn:n<=400)(I:(i:Int)<(n:Int))
  (c0:w.cell? ⟨b,0,none⟩=some (.slice (some ⟨s,o0,none⟩) n C)) (d1:w.cell? ⟨s,o0+i*3,none⟩=some (.int .i64 8)) (_c1:w.cell? ⟨b,1,none⟩=some (.slice (some ⟨be,0,none⟩) n n))
  (c5:w.cell? ⟨b,5,none⟩=some (.slice (some ⟨b0,o1,none⟩) (m+1) wc)) (f5:w.frozen? ⟨b,5,none⟩=false) (M:m+1<=wc) (x1:w.cell? ⟨b0,o1,none⟩=some (.int .i64 0)) (Q:Value->World->Prop)
  (H:Calls prog 293 #[.pointer (some ⟨b,0,none⟩),.int .i64 i] (w.setCell ⟨b,5,none⟩ (.slice (if wc=1 then some ⟨b0,o1,none⟩else some ⟨b0,o1+1,none⟩) m (wc-1))) fun e w'=>∃v,e=.returned v/\Q v w'):
  Calls prog 280 #[.pointer (some ⟨b,0,none⟩),.int .i64 i,.int .i64 A] w fun e w'=>∃v,e=.returned v/\Q v w':=by
 have K:(1:Int)<=(m:Int)+1:=by omega
 have J:((m:Int)+1==0)=false:=beq_eq_false_iff_ne.2 (by omega);by_cases E:wc=1
 ·rw[if_pos E]at H;obtain rfl:m=0:=by omega
  subst E;have B:Hid (Calls prog 293 #[.pointer (some ⟨b,0,none⟩),.int .i64 i] (w.setCell ⟨b,5,none⟩ (.slice (some ⟨b0,o1,none⟩) 0 0)) fun e w'=>∃v,e=.returned v/\Q v w'):=H;clear H;go_in;go_wp2_with fail;refine B.o.mono ?_;rintro e N⟨v,rfl,D⟩;go_wp2;go_ret;exact⟨_,rfl,D⟩
 ·rw[if_neg E]at H;have B:Hid (Calls prog 293 #[.pointer (some ⟨b,0,none⟩),.int .i64 i] (w.setCell ⟨b,5,none⟩ (.slice (some ⟨b0,o1+1,none⟩) m (wc-1))) fun e w'=>∃v,e=.returned v/\Q v w'):=H;clear H;go_in;go_wp2_with fail;refine B.o.mono ?_;rintro e N⟨v,rfl,D⟩;go_wp2;go_ret;exact⟨_,rfl,D⟩
theorem y7a{b s be b0 o0 o1 n C wc:Nat}(i A m:Nat)(w:World)(_hbb:b0≠b)(L:s≠b)(G:be≠b)(hn:n<=400)(I:(i:Int)<(n:Int))
  (c0:w.cell? ⟨b,0,none⟩=some (.slice (some ⟨s,o0,none⟩) n C)) (d1:w.cell? ⟨s,o0+i*3,none⟩=some (.int .i64 8)) (_c1:w.cell? ⟨b,1,none⟩=some (.slice (some ⟨be,0,none⟩) n n))
  (c5:w.cell? ⟨b,5,none⟩=some (.slice (some ⟨b0,o1,none⟩) (m+1) wc)) (f5:w.frozen? ⟨b,5,none⟩=false) (M:m+1<=wc) (x1:w.cell? ⟨b0,o1,none⟩=some (.int .i64 1)) (Q:Value->World->Prop)
  (H:Calls prog 261 #[.pointer (some ⟨b,0,none⟩),.int .i64 ((i:Int)+1),.int .i64 A] (w.setCell ⟨b,5,none⟩ (.slice (if wc=1 then some ⟨b0,o1,none⟩else some ⟨b0,o1+1,none⟩) m (wc-1))) fun e w'=>∃v,e=.returned v/\Q v w'):
  Calls prog 280 #[.pointer (some ⟨b,0,none⟩),.int .i64 i,.int .i64 A] w fun e w'=>∃v,e=.returned v/\Q v w':=by
 have K:(1:Int)<=(m:Int)+1:=by omega
 have J:((m:Int)+1==0)=false:=beq_eq_false_iff_ne.2 (by omega);by_cases E:wc=1
 ·rw[if_pos E]at H;obtain rfl:m=0:=by omega
  subst E;have B:Hid (Calls prog 261 #[.pointer (some ⟨b,0,none⟩),.int .i64 ((i:Int)+1),.int .i64 A] (w.setCell ⟨b,5,none⟩ (.slice (some ⟨b0,o1,none⟩) 0 0)) fun e w'=>∃v,e=.returned v/\Q v w'):=H;clear H;go_in;go_wp2_with fail;refine B.o.mono ?_;rintro e N⟨v,rfl,D⟩;go_wp2;go_ret;exact⟨_,rfl,D⟩
 ·rw[if_neg E]at H;have B:Hid (Calls prog 261 #[.pointer (some ⟨b,0,none⟩),.int .i64 ((i:Int)+1),.int .i64 A] (w.setCell ⟨b,5,none⟩ (.slice (some ⟨b0,o1+1,none⟩) m (wc-1))) fun e w'=>∃v,e=.returned v/\Q v w'):=H;clear H;go_in;go_wp2_with fail;refine B.o.mono ?_;rintro e N⟨v,rfl,D⟩;go_wp2;go_ret;exact⟨_,rfl,D⟩
theorem y7b{b s be b0 o0 o1 n C wc:Nat}(i A m:Nat)(w:World)(_hbb:b0≠b)(L:s≠b)(G:be≠b)(hn:n<=400)(I:(i:Int)<(n:Int))
  (c0:w.cell? ⟨b,0,none⟩=some (.slice (some ⟨s,o0,none⟩) n C)) (d1:w.cell? ⟨s,o0+i*3,none⟩=some (.int .i64 9)) (_c1:w.cell? ⟨b,1,none⟩=some (.slice (some ⟨be,0,none⟩) n n))
  (c5:w.cell? ⟨b,5,none⟩=some (.slice (some ⟨b0,o1,none⟩) (m+1) wc)) (f5:w.frozen? ⟨b,5,none⟩=false) (M:m+1<=wc) (x1:w.cell? ⟨b0,o1,none⟩=some (.int .i64 0)) (Q:Value->World->Prop)
  (H:Calls prog 261 #[.pointer (some ⟨b,0,none⟩),.int .i64 ((i:Int)+1),.int .i64 A] (w.setCell ⟨b,5,none⟩ (.slice (if wc=1 then some ⟨b0,o1,none⟩else some ⟨b0,o1+1,none⟩) m (wc-1))) fun e w'=>∃v,e=.returned v/\Q v w'):
  Calls prog 280 #[.pointer (some ⟨b,0,none⟩),.int .i64 i,.int .i64 A] w fun e w'=>∃v,e=.returned v/\Q v w':=by
 have K:(1:Int)<=(m:Int)+1:=by omega
 have J:((m:Int)+1==0)=false:=beq_eq_false_iff_ne.2 (by omega);by_cases E:wc=1
 ·rw[if_pos E]at H;obtain rfl:m=0:=by omega
  subst E;have B:Hid (Calls prog 261 #[.pointer (some ⟨b,0,none⟩),.int .i64 ((i:Int)+1),.int .i64 A] (w.setCell ⟨b,5,none⟩ (.slice (some ⟨b0,o1,none⟩) 0 0)) fun e w'=>∃v,e=.returned v/\Q v w'):=H;clear H;go_in;go_wp2_with fail;refine B.o.mono ?_;rintro e N⟨v,rfl,D⟩;go_wp2;go_ret;exact⟨_,rfl,D⟩
 ·rw[if_neg E]at H;have B:Hid (Calls prog 261 #[.pointer (some ⟨b,0,none⟩),.int .i64 ((i:Int)+1),.int .i64 A] (w.setCell ⟨b,5,none⟩ (.slice (some ⟨b0,o1+1,none⟩) m (wc-1))) fun e w'=>∃v,e=.returned v/\Q v w'):=H;clear H;go_in;go_wp2_with fail;refine B.o.mono ?_;rintro e N⟨v,rfl,D⟩;go_wp2;go_ret;exact⟨_,rfl,D⟩
theorem y7c{b s be b0 o0 o1 n C wc:Nat}(i A m:Nat)(w:World)(_hbb:b0≠b)(M:s≠b)(G:be≠b)(hn:n<=400)(J:(i:Int)<(n:Int))(I:(i:Int)+1<(n:Int))(j:Nat)(e1:w.cell? ⟨be,i+1,none⟩=some (.int .i64 (j:Int)))
  (c0:w.cell? ⟨b,0,none⟩=some (.slice (some ⟨s,o0,none⟩) n C)) (d1:w.cell? ⟨s,o0+i*3,none⟩=some (.int .i64 9)) (c1:w.cell? ⟨b,1,none⟩=some (.slice (some ⟨be,0,none⟩) n n))
  (c5:w.cell? ⟨b,5,none⟩=some (.slice (some ⟨b0,o1,none⟩) (m+1) wc)) (f5:w.frozen? ⟨b,5,none⟩=false) (N:m+1<=wc) (x1:w.cell? ⟨b0,o1,none⟩=some (.int .i64 1)) (Q:Value->World->Prop)
  (H:Calls prog 261 #[.pointer (some ⟨b,0,none⟩),.int .i64 (j:Int),.int .i64 A] (w.setCell ⟨b,5,none⟩ (.slice (if wc=1 then some ⟨b0,o1,none⟩else some ⟨b0,o1+1,none⟩) m (wc-1))) fun e w'=>∃v,e=.returned v/\Q v w'):
  Calls prog 280 #[.pointer (some ⟨b,0,none⟩),.int .i64 i,.int .i64 A] w fun e w'=>∃v,e=.returned v/\Q v w':=by
 have L:(1:Int)<=(m:Int)+1:=by omega
 have K:((m:Int)+1==0)=false:=beq_eq_false_iff_ne.2 (by omega);by_cases E:wc=1
 ·rw[if_pos E]at H;obtain rfl:m=0:=by omega
  subst E;have B:Hid (Calls prog 261 #[.pointer (some ⟨b,0,none⟩),.int .i64 (j:Int),.int .i64 A] (w.setCell ⟨b,5,none⟩ (.slice (some ⟨b0,o1,none⟩) 0 0)) fun e w'=>∃v,e=.returned v/\Q v w'):=H;clear H;go_in;go_wp2_with fail;refine B.o.mono ?_;rintro e O⟨v,rfl,D⟩;go_wp2;go_ret;exact⟨_,rfl,D⟩
 ·rw[if_neg E]at H;have B:Hid (Calls prog 261 #[.pointer (some ⟨b,0,none⟩),.int .i64 (j:Int),.int .i64 A] (w.setCell ⟨b,5,none⟩ (.slice (some ⟨b0,o1+1,none⟩) m (wc-1))) fun e w'=>∃v,e=.returned v/\Q v w'):=H;clear H;go_in;go_wp2_with fail;refine B.o.mono ?_;rintro e O⟨v,rfl,D⟩;go_wp2;go_ret;exact⟨_,rfl,D⟩
abbrev q4s:Array Value:=#[.int .i64 0,.string ⟨#[]⟩,.int .i64 0,.int .i64 0,.int .i64 0,.int .i64 0,.int .i64 0]
theorem j6u:(prog.info? 306).map (fun i=>(i.zero,i.size,i.bytes))=some (some (.agg q4s),7,64):=by kernel_rfl
theorem z7j{z:Array Value}{n k:Nat}(h:k<n):(madeCells z n)[k]?=some (z[k % z.size]!):=by
 simp[madeCells,h]
theorem y0x{w:World}{g n:Nat}(h:w.heap[g]?=some (.cells (madeCells q4s (n*7)) 306 (0,0))):PwR w g n (fun _=>q0) where
 get j hj:=by
  have A:∀f,f<7->w.cell? ⟨g,j*7+f,none⟩=some (q4s[f]!):=fun f hf=>by
   simp only[World.cell?,h];rw[z7j (by omega),show q4s.size=7 from rfl,show(j*7+f) % 7=f by omega];rfl
  exact⟨A 0 (by omega),A 1 (by omega),A 2 (by omega),A 3 (by omega),A 4 (by omega),A 5 (by omega),A 6 (by omega)⟩
 row:=⟨_,_,h⟩
theorem j1s(n:Nat)(hn:n<=400)(W:World):(Instr.makeSlice 272 (.int .i64 (n:Int)) (.int .i64 (n:Int))).run prog W=.ok (.slice (some ⟨W,0,none⟩) n n) (W.alloc (.cells (madeCells q4s (n*7)) 306)):=by
 obtain⟨i,B,D,C,A⟩:=info_parts j6u
 have:=run_make (P:=prog) W 272 306 i _ Tryz.underlying272 B D .i64 .i64 n n (by omega) (by omega) (by rw[A];omega) (by omega)
 rw[C,Int.toNat_natCast]at this;exact this
theorem v0l{R:List Pl}{L M i nx dp:Nat}{ks:List (Nat × Tr)}{t:Tr}(bp g:Nat)(F:Nat->Q)(w:World)(hR:R.length<=400)(h:Sp R L M i t nx dp ks)(I:(F i).op=(q1e R i).nd.op)(D:∀j,i<j->j<R.length->(F j).en=(q1e R j).en)
  (c0:w.cell? ⟨bp,0,none⟩=some (.slice (some ⟨g,0,none⟩) R.length R.length)) (hp:PwR w g R.length F):
  Calls prog 228 #[.pointer (some ⟨bp,0,none⟩),.int .i64 i] w fun e w'=>e=.returned (.int .i64 (q1e R i).en)/\∃q,w'=w.drewN q:=by
 have H:(i:Int)<(R.length:Nat):=by have:=h.lt;omega
 have E:=(hp.get i h.lt).c0;rw[I]at E;have K:=h.at;rw[K]at E⊢;cases t with
 | leaf x=>
  have A:∀k:Int,k=6\/k=9\/k=7\/k=8->(x.op==k)=false:=fun k hk=>beq_eq_false_iff_ne.2 (by
   rcases q4t h.wf.1 h.wf.2 with e|e|e|e|e<;>omega)
  exact j1l bp g R.length i x.op w hR H c0 E (A 6 (by omega)) (A 9 (by omega)) (A 7 (by omega)) (A 8 (by omega))
 | one x a=>
  have B:=h.one;have G:=(hp.get (i+1) B.lt).c3;rw[D (i+1) (by omega) B.lt,B.at]at G
  have e:(z5s (Tr.one x a) i nx dp ks).en=(z5s a (i+1) nx (dp+x.n.toNat) ks).en:=by
   show i+(Tr.one x a).sz=i+1+a.sz;rw[k1b];omega
  rw[e];exact v0m bp g R.length i x.op _ w hR H (by have:=B.lt;omega) c0 E G (z1g h.wf.2.1)
 | two x a b=>
  obtain⟨O,N,B⟩:=h.two1;have C:=h.two2;have G:=(hp.get (i+1) B.lt).c3;rw[D (i+1) (by omega) B.lt,B.at]at G;have J:=(hp.get (i+1+a.sz) C.lt).c3;rw[D (i+1+a.sz) (by omega) C.lt,C.at]at J
  have e:(z5s (Tr.two x a b) i nx dp ks).en=(z5s b (i+1+a.sz) nx dp ks).en:=by
   show i+(Tr.two x a b).sz=i+1+a.sz+b.sz;rw[z3s];omega
  rw[e];exact v0n bp g R.length i (i+1+a.sz) x.op _ w hR H (by have:=B.lt;omega) (by have:=C.lt;omega) c0 E G J (q9q h.wf.2.1)
structure NP(w0 w:World)(wd n:Nat):Prop where
 c0:w.cell? ⟨w0.heap.size+1+1,0,none⟩=some (.slice (some ⟨w0.heap.size+1,0,none⟩) n n)
 c1:w.cell? ⟨w0.heap.size+1+1,1,none⟩=some (.int .i64 wd)
 r0:w.cell? ⟨w0,0,none⟩=some (.slice none 0 0)
 r1:w.cell? ⟨w0,1,none⟩=some (.int .i64 0)
 f0:z2j w w0.heap.size
 bw:Below w0 w0 w
theorem NP.belX{w0 w w':World}{wd n B:Nat}(h:NP w0 w wd n)(hb:q0j B (w0.heap.size+1) w w')(hB:w0.heap.size+1+1+1<=B):NP w0 w' wd n where
 c0:=(hb.cell (p:=⟨w0.heap.size+1+1,0,none⟩) (by simp;omega) (by simp)).trans h.c0
 c1:=(hb.cell (p:=⟨w0.heap.size+1+1,1,none⟩) (by simp;omega) (by simp)).trans h.c1
 r0:=(hb.cell (p:=⟨w0,0,none⟩) (by simp;omega) (by simp)).trans h.r0
 r1:=(hb.cell (p:=⟨w0,1,none⟩) (by simp;omega) (by simp)).trans h.r1
 f0:=h.f0.kept (hb.block _ (by omega) (by omega))
 bw:=h.bw.trans ((hb.mono (B':=w0.heap.size) (by omega)).W (by omega))
theorem NP.same{w0 w w':World}{wd n:Nat}(h:NP w0 w wd n)(e1:w'.heap=w.heap)(e2:w'.os=w.os)(e3:w'.tape=w.tape)(e4:w'.output=w.output):NP w0 w' wd n:=
 h.belX (B:=w0.heap.size+1+1+1) ⟨e2,e3,e4,by rw[e1];exact Nat.le_refl _,fun k _ _=>by rw[e1]⟩ (by omega)
theorem NP.lt{w0 w:World}{wd n:Nat}(h:NP w0 w wd n):w0.heap.size+1+1<w.heap.size:=World.block_lt_of_cell? w ⟨w0.heap.size+1+1,0,none⟩ h.c0
theorem v4g{t t':Tr}{i nx dp:Nat}{ks:List (Nat × Tr)}{ds:List Nd}(hd:ds=t.N)(h:Sp (q0a t) t.lf t.dsum i t' nx dp ks):∃r,ds.drop i=t'.N++r:=by
 obtain⟨A,e⟩:=h.pl;refine⟨A.map (·.nd),?_⟩;have B:(q0a t).map (·.nd)=ds:=by rw[hd];exact z0t t _ _ _ _
 rw[<-B,<-List.map_drop,e,List.map_append,z0t]
theorem y3m{w:World}{B g o:Nat}{v:Value}:q0j B g w (w.setCell ⟨g,o,none⟩ v):=(q0j.refl B g w).setCell (p:=⟨g,o,none⟩) (.inl rfl) v
theorem v3h(w0:World)(wd n:Nat):NP w0 (((w0.alloc (.cells #[.slice none 0 0,.int .i64 0] 274)).alloc (.cells (madeCells q4s (n*7)) 306)).alloc (.cells #[.slice (some ⟨w0.heap.size+1,0,none⟩) n n,.int .i64 wd] 274)) wd n/\PwR (((w0.alloc (.cells #[.slice none 0 0,.int .i64 0] 274)).alloc (.cells (madeCells q4s (n*7)) 306)).alloc (.cells #[.slice (some ⟨w0.heap.size+1,0,none⟩) n n,.int .i64 wd] 274)) (w0.heap.size+1) n (fun _=>q0):=by
 have D:=heap_alloc_new w0 (.cells #[.slice none 0 0,.int .i64 0] 274);have B:=heap_alloc_new (w0.alloc (.cells #[.slice none 0 0,.int .i64 0] 274)) (.cells (madeCells q4s (n*7)) 306);have E:(w0.alloc (.cells #[.slice none 0 0,.int .i64 0] 274)).heap.size=w0.heap.size+1:=by simp
 rw[E]at B
 have A:(((w0.alloc (.cells #[.slice none 0 0,.int .i64 0] 274)).alloc (.cells (madeCells q4s (n*7)) 306)).alloc (.cells #[.slice (some ⟨w0.heap.size+1,0,none⟩) n n,.int .i64 wd] 274)).heap[w0.heap.size]?=some (.cells #[.slice none 0 0,.int .i64 0] 274 (0,0)):=
  (Below.heap_alloc _ _ _ (by simp;omega)).trans ((Below.heap_alloc _ _ _ (by simp)).trans D)
 have C:(((w0.alloc (.cells #[.slice none 0 0,.int .i64 0] 274)).alloc (.cells (madeCells q4s (n*7)) 306)).alloc (.cells #[.slice (some ⟨w0.heap.size+1,0,none⟩) n n,.int .i64 wd] 274)).heap[w0.heap.size+1]?=some (.cells (madeCells q4s (n*7)) 306 (0,0)):=
  (Below.heap_alloc _ _ _ (by simp)).trans B
 exact⟨⟨by simp[go_sem],by simp[go_sem],by simp[World.cell?,A],by simp[World.cell?,A],⟨_,_,A⟩,(((Below.refl _ w0).alloc Zl _).alloc (by simp) _).alloc (by simp;omega) _⟩,y0x C⟩
set_option maxHeartbeats 8000000
theorem z8u(ds:List Nd)(t:Tr)(hd:ds=t.N)(ht:t.Wf)(hl:ds.length<=400)(a:Option Addr)(E s wd:Nat)(A9:ds.length<=E)(w:World)(hN:q0w s w a ds)(hs:s<w.heap.size):
  Calls prog 202 #[.slice a ds.length E,.int .i64 wd] w fun e w'=>e=.returned (.agg #[.slice (some ⟨w.heap.size+1,0,none⟩) ds.length ds.length,.int .i64 wd])/\PwR w' (w.heap.size+1) ds.length (fun j=>q2 (q1e (q0a t) j))/\Below w w w':=by
 have Am:(q0a t).length=ds.length:=by rw[q2d,hd];rfl
 have Z:0<ds.length:=by rw[hd];exact t.pos
 have hm:∀W:World,(Instr.makeSlice 272 (.int .i64 (ds.length:Int)) (.int .i64 (ds.length:Int))).run prog W=.ok (.slice (some ⟨W,0,none⟩) ds.length ds.length) (W.alloc (.cells (madeCells q4s (ds.length*7)) 306)):=j1s ds.length hl;have Ai:Hid (∀W:World,NP W (((W.alloc (.cells #[.slice none 0 0,.int .i64 0] 274)).alloc (.cells (madeCells q4s (ds.length*7)) 306)).alloc (.cells #[.slice (some ⟨W.heap.size+1,0,none⟩) ds.length ds.length,.int .i64 wd] 274)) wd ds.length/\PwR (((W.alloc (.cells #[.slice none 0 0,.int .i64 0] 274)).alloc (.cells (madeCells q4s (ds.length*7)) 306)).alloc (.cells #[.slice (some ⟨W.heap.size+1,0,none⟩) ds.length ds.length,.int .i64 wd] 274)) (W.heap.size+1) ds.length (fun _=>q0)):=fun W=>v3h W wd ds.length
 have HD:Hid (ds=t.N):=hd;have HN:Hid (q0w s w a ds):=hN;have A:Hid ((q0a t).length=ds.length):=Am;clear hd hN Am
 have ea:∃o,a=some ⟨s,o,none⟩:=by
  obtain⟨o,e,_⟩:=HN.o 0 Z;exact⟨o,e⟩
 obtain⟨o,rfl⟩:=ea
 have Ag:Hid (∀(W:World)i(h:i<ds.length),Below w w W->W.cell? ⟨s,o+i*3,none⟩=some (.int .i64 ds[i].op)/\W.cell? ⟨s,o+i*3+1,none⟩=some (.string ds[i].tx)/\W.cell? ⟨s,o+i*3+2,none⟩=some (.int .i64 ds[i].n)):=fun W i h hW=>by
  obtain⟨o',e,d⟩:=(HN.o.kept (hW.block s hs)) i h;simp only[Option.some.injEq,Addr.mk.injEq,and_true,true_and]at e;subst e;exact d
 have Ad:Hid (∀i(h:i<ds.length),(q1e (q0a t) i).nd=ds[i]):=fun i h=>by
  have e1:(q0a t).map (·.nd)=ds:=by rw[HD.o];exact z0t t _ _ _ _
  have U:i<(q0a t).length:=by rw[A.o];exact h
  have e2:((q0a t).map (·.nd))[i]?=some ds[i]:=by rw[e1];exact List.getElem?_eq_getElem h
  rw[List.getElem?_map,List.getElem?_eq_getElem U]at e2;rw[q1e,List.getD,List.getElem?_eq_getElem U];simpa using e2
 go_in;go_wp2_with fail
 go_loopw [6] (fun i wr=>NP w wr wd ds.length/\∃k:Nat,k<=ds.length/\i=.int .i64 ((k:Int)-1)/\PwR wr (w.heap.size+1) ds.length (F1 (q0a t) k)) (fun i _=>(intOf i+1).toNat)
 case atStart=>
  refine⟨(Ai.o w).1,ds.length,Nat.le_refl _,rfl,(Ai.o w).2.congr fun j hj=>?_⟩;simp only[F1];rw[if_neg (by omega)]
 case round=>
  obtain⟨P,k,hk,rfl,M⟩:=hrel;have c:Hid (NP w wr wd ds.length):=P;have S:Hid (PwR wr (w.heap.size+1) ds.length (F1 (q0a t) k)):=M;have m:=P.c0;clear P M;by_cases A4:k=0
  ·subst A4;have Bc:¬((0:Int)<=((0:Nat):Int)-1):=by omega
   have e4:wr.cell? ⟨w.heap.size+1,4,none⟩=some (.int .i64 (F1 (q0a t) 0 0).nx):=by have:=(S.o.get 0 Z).c4;simpa using this
   have f4:wr.frozen? ⟨w.heap.size+1,4,none⟩=false:=S.o.row.frozen;have A8:(0:Int)<(ds.length:Int):=by omega
   have J:Hid (PwR (wr.setCell ⟨w.heap.size+1,4,none⟩ (.int .i64 (ds.length:Int))) (w.heap.size+1) ds.length (upd (F1 (q0a t) 0) 0 {F1 (q0a t) 0 0 with nx:=(ds.length:Int)})):=by
    have:=S.o.putNx Z (ds.length:Int)
    rw[Nat.zero_mul,Nat.zero_add]at this;exact this
   have L:Hid (Tl (q0a t) t.lf t.dsum 0 (upd (F1 (q0a t) 0) 0 {F1 (q0a t) 0 0 with nx:=(ds.length:Int)})):=by
    have:=Tl.start (t:=t)
    rw[<-q2d,A.o]at this;exact this
   have D:Hid (NP w (wr.setCell ⟨w.heap.size+1,4,none⟩ (.int .i64 (ds.length:Int))) wd ds.length):=c.o.belX (B:=w.heap.size+1+1+1) y3m Zl;go_wp2_with fail;generalize wr.setCell ⟨w.heap.size+1,4,none⟩ (.int .i64 (ds.length:Int))=w5 at *;clear m e4 f4 c S
   go_loopw [44] (fun i wq=>NP w wq wd ds.length/\∃k:Nat,k<=ds.length/\i=.int .i64 k/\∃F,PwR wq (w.heap.size+1) ds.length F/\Tl (q0a t) t.lf t.dsum k F) (fun i _=>ds.length-(intOf i).toNat)
   case atStart=>exact⟨D.o,0,Nat.zero_le _,rfl,_,J.o,L.o⟩
   case round=>
    clear D J L;obtain⟨P,k,hk,rfl,F,M,hT⟩:=hrel;have c:Hid (NP w wr wd ds.length):=P;by_cases I:k<ds.length
    ·have Ab:k<(q0a t).length:=by rw[A.o];exact I
     obtain⟨l,nx,dp,ks,Q⟩:=j7r ht Ab
     have h0:k=0\/∃p,p<k/\j0q (q0a t) t.lf t.dsum p k:=by
      rcases Nat.eq_zero_or_pos k with e|e
      ·exact .inl e
      ·exact .inr (k0h ht e Ab)
     have hM:t.dsum<=3200:=by have:=q7y t;rw[<-HD.o]at this;omega
     have Aa:=v8s (w.heap.size+1+1) (w.heap.size+1) F wr (by rw[A.o];exact hl) hM Q hT h0 (by omega) (by rw[A.o];exact P.c0) (by rw[A.o];exact M);rw[A.o]at Aa;obtain⟨r,Ap⟩:=v4g HD.o Q;have Ae:=(show Hid _ from Aa);have H:Hid (Sp (q0a t) t.lf t.dsum k l nx dp ks):=Q;have Af:Hid (ds.drop k=l.N++r):=Ap;clear P M hT Aa h0 Q Ap Ab;have Bb:(k:Int)<(ds.length:Int):=by omega
     have A7:(0:Int)<=(k:Int):=by omega
     go_wp2_with fail;refine Calls.mono Ae.o ?_;rintro e G⟨rfl,⟨b,Au,An,Av⟩,Ao⟩;have D:Hid (NP w G wd ds.length):=c.o.belX Ao (by have:=c.o.lt;omega);have J:Hid (PwR G (w.heap.size+1) ds.length b):=Au;have L:Hid (Tl (q0a t) t.lf t.dsum k b):=An;have Ah:Hid (∀j,j<ds.length->j0q (q0a t) t.lf t.dsum k j->(b j).nx=(q1e (q0a t) j).nx/\(b j).dp=(q1e (q0a t) j).dp):=Av;clear Au An Av Ao c Ae;have d0:=(Ag.o G k I D.o.bw).1;have hx:ds[k]=l.root:=by rw[<-Ad.o k I,H.o.at];rfl
     rw[hx]at d0;clear hx;by_cases z:l.root.op=8
     ·cases l with
      | leaf x=>
       have f:x.op=8:=z;rcases q4t H.o.wf.1 H.o.wf.2 with e|e|e|e|e<;>omega
      | two x a' b'=>
       have f:x.op=8:=z;rcases q9q H.o.wf.2.1 with e|e<;>omega
      | one x a'=>
       rw[z]at d0;have m:=D.o.c0;obtain⟨_,_,_,g3,_,_,g6⟩:=J.o.get k I;have z6:G.frozen? ⟨w.heap.size+1,k*7+6,none⟩=false:=J.o.row.frozen;have Aq:(b k).en=((k+(Tr.one x a').N.length:Nat):Int):=by rw[L.o.en k (by rw[A.o];exact I),H.o.at];rfl
       rw[Aq]at g3
       have X:(q1e (q0a t) k).lg=lgF a'.flat:=by
        rw[H.o.at];show Tr.lg (.one x a')=_;have f:x.op=8:=z;simp[Tr.lg,f]
       have As:k+(Tr.one x a').N.length<=ds.length:=by
        have:=congrArg List.length Af.o
        rw[List.length_drop,List.length_append]at this;omega
       have Bk:=(Tr.one x a').pos;have Y:q2z G (some ⟨s,o+k*3,none⟩) (Tr.one x a').N:=((HN.o.kept (D.o.bw.block s hs)).part Af.o).nods (by have:=D.o.bw.size;omega);generalize hj:k+(Tr.one x a').N.length=j at g3 As;have Ac:(Tr.one x a').N.length=j-k:=by omega
       have u:Hid (Calls prog 230 #[.slice (some ⟨s,o+k*3,none⟩) (j-k) (E-k)] G.drew fun e w'=>e=.returned (.int .i64 (lgF a'.flat))/\Below G.drew.heap.size G.drew w'):=by
        have:=j1r (Tr.one x a').N (Tr.one x a') rfl H.o.wf (by omega) (some ⟨s,o+k*3,none⟩) (E-k) (by omega) G.drew (Y.W (Below.drew (Below.refl _ G)))
        rw[Ac]at this;exact this
       have Az:Hid ((q1e (q0a t) k).lg=lgF a'.flat):=X;have h1:(k:Int)<=(j:Int):=by omega
       have Bj:(0:Int)<=(j:Int):=by omega
       have Bh:(k:Int)<(E:Int):=by omega
       have Be:¬(E-k=0):=by omega
       have Bf:¬(E=k):=by omega
       have Bi:((j:Int)-(k:Int)).toNat=j-k:=by omega
       have Ba:((E:Int)-(k:Int)).toNat=E-k:=by omega
       have h2:(j:Int)<=(E:Int):=by omega
       have h3:(j:Int)<=(ds.length:Int):=by omega
       clear Y Ac Aq X hj;have A2:=D.o.lt;have Aw:Hid (∀C,Below G.drew.heap.size G.drew C->C.cell? ⟨w.heap.size+1+1,0,none⟩=some (.slice (some ⟨w.heap.size+1,0,none⟩) ds.length ds.length)):=fun C hb=>(hb.cell (p:=⟨w.heap.size+1+1,0,none⟩) A2).trans m
       have Ax:Hid (∀C,Below G.drew.heap.size G.drew C->C.cell? ⟨w.heap.size+1,k*7+3,none⟩=some (.int .i64 (j:Int))):=fun C hb=>(hb.cell (p:=⟨w.heap.size+1,k*7+3,none⟩) (by show w.heap.size+1<G.heap.size;omega)).trans g3
       have Ay:Hid (∀C,Below G.drew.heap.size G.drew C->PwR C (w.heap.size+1) ds.length b/\NP w C wd ds.length):=fun C hb=>⟨J.o.kept (hb.block _ (by show w.heap.size+1<G.heap.size;omega)),D.o.belX (B:=G.heap.size) (q0j.of ((Below.drew (Below.refl _ G)).trans hb)) (by omega)⟩
       go_wp2_with fail
       go_region_held3 (fun w'=>w'.cell? ⟨w.heap.size+1+1,0,none⟩=some (.slice (some ⟨w.heap.size+1,0,none⟩) ds.length ds.length)/\w'.cell? ⟨w.heap.size+1,k*7+3,none⟩=some (.int .i64 (j:Int)))
        (first|exact⟨m,g3⟩|exact⟨Aj,Ak⟩|exact⟨(cso (by omega)).trans Aj,(cso (by omega)).trans Ak⟩)
        ((go_at_call 230;refine u.o.mono ?_;rintro e C⟨rfl,O⟩;have Aj:=Aw.o C O;have Ak:=Ax.o C O;obtain⟨g,At⟩:=Ay.o C O;have Bd:=(g.get k I).c6;have Bl:C.frozen? ⟨w.heap.size+1,k*7+6,none⟩=false:=g.row.frozen;have K:Hid (PwR C (w.heap.size+1) ds.length b):=g;have V:Hid (NP w C wd ds.length):=At;clear g At O))
       all_goals
        go_wp2
        go_roundw
        case rel=>exact⟨(V.o.belX (B:=w.heap.size+1+1+1) y3m Zl).same rfl rfl rfl rfl,k+1,by omega,by go_num,_,(K.o.putLg I (lgF a'.flat)).kept rfl,by rw[<-Az.o];exact L.o.nextLg (by rw[A.o];exact Ah.o)⟩
        case measure=>simp[intOf];omega
     ·have f:(l.root.op==8)=false:=beq_eq_false_iff_ne.2 z
      have X:(b k).lg=(q1e (q0a t) k).lg:=by
       rw[L.o.l0 k (by rw[A.o];exact I) Zl,H.o.at];show 0=l.lg;cases l with
       | leaf x=>rfl
       | two x a' b'=>rfl
       | one x a'=>
        have Al:¬x.op=8:=z;simp[Tr.lg,Al]
      have u:Hid ((b k).lg=(q1e (q0a t) k).lg):=X;clear X z;go_wp2
      go_roundw
      case rel=>exact⟨D.o,k+1,by omega,by go_num,b,J.o,L.o.next (by rw[A.o];exact Ah.o) u.o⟩
      case measure=>simp[intOf];omega
    ·have Ar:k=ds.length:=by omega
     have hF:=Tl.all ht (by rw[A.o,<-Ar];exact hT);have S:Hid (PwR wr (w.heap.size+1) ds.length (fun j=>q2 (q1e (q0a t) j))):=M.congr (by rw[<-A.o];exact hF);have m:=P.c0;have c1:=P.c1;have r0:=P.r0;have r1:=P.r1;have f0:wr.frozen? ⟨w,0,none⟩=false:=P.f0.frozen;have f1:wr.frozen? ⟨w,1,none⟩=false:=P.f0.frozen;have Ac:¬((k:Int)<(ds.length:Int)):=by omega
     clear P M hT hF Ar;go_wp2;refine bodyPost_ret (v:=.agg #[.slice (some ⟨w.heap.size+1,0,none⟩) ds.length ds.length,.int .i64 wd]) (by simp[results,Tryz.results202,go_sem,r0,r1]) rfl ?_;have A6:∀v0 v1,((wr.setCell ⟨w,0,none⟩ v0).setCell ⟨w,1,none⟩ v1).heap[w.heap.size+1]?=wr.heap[w.heap.size+1]?:=fun v0 v1=>(Below.heap_setCell _ _ _ _ (by simp)).trans (Below.heap_setCell _ _ _ _ (by simp))
     exact⟨rfl,S.o.kept (A6 _ _),c.o.bw.trans (((Below.refl _ wr).setCell (p:=⟨w,0,none⟩) Zl _).setCell (p:=⟨w,1,none⟩) Zl _)⟩
  ·obtain⟨i,rfl⟩:∃i,k=i+1:=⟨k-1,by omega⟩;have A5:(((i+1:Nat):Int)-1)=(i:Int):=by omega
   rw[A5];have U:i<ds.length:=by omega
   obtain⟨n0,n1,n2⟩:=Ag.o wr i U c.o.bw;have HX:=Ad.o i U;generalize ds[i]=x at n0 n1 n2 HX;have y:Hid ((q1e (q0a t) i).nd=x):=HX;clear HX;obtain⟨g0,g1,g2,_,_,_,_⟩:=S.o.get i U;have z0:wr.frozen? ⟨w.heap.size+1,i*7,none⟩=false:=S.o.row.frozen;have z1:wr.frozen? ⟨w.heap.size+1,i*7+1,none⟩=false:=S.o.row.frozen;have z2:wr.frozen? ⟨w.heap.size+1,i*7+2,none⟩=false:=S.o.row.frozen;have A7:(0:Int)<=(i:Int):=by omega
   have Bg:(i:Int)<(ds.length:Int):=by omega
   have K:Hid (PwR (((wr.setCell ⟨w.heap.size+1,i*7,none⟩ (.int .i64 x.op)).setCell ⟨w.heap.size+1,i*7+1,none⟩ (.string x.tx)).setCell ⟨w.heap.size+1,i*7+2,none⟩ (.int .i64 x.n)) (w.heap.size+1) ds.length (upd (F1 (q0a t) (i+1)) i ⟨x.op,x.tx,x.n,0,0,0,0⟩)):=by
    have h:=((S.o.putOp U x.op).putTx U x.tx).putN U x.n;rw[z8i,z8i,q0k,q0k]at h;have e:F1 (q0a t) (i+1) i=q0:=by simp only[F1];rw[if_neg (by omega)]
    rw[e]at h;exact h
   have V:Hid (NP w (((wr.setCell ⟨w.heap.size+1,i*7,none⟩ (.int .i64 x.op)).setCell ⟨w.heap.size+1,i*7+1,none⟩ (.string x.tx)).setCell ⟨w.heap.size+1,i*7+2,none⟩ (.int .i64 x.n)) wd ds.length):=c.o.belX (B:=w.heap.size+1+1+1) ((y3m.trans y3m).trans y3m) Zl;clear S c;go_wp2_with fail
   go_region_held3 (fun w'=>w'.cell? ⟨w.heap.size+1+1,0,none⟩=some (.slice (some ⟨w.heap.size+1,0,none⟩) ds.length ds.length)/\w'.cell? ⟨s,o+i*3,none⟩=some (.int .i64 x.op)/\w'.cell? ⟨s,o+i*3+1,none⟩=some (.string x.tx)/\w'.cell? ⟨s,o+i*3+2,none⟩=some (.int .i64 x.n))
    (first|exact⟨m,n0,n1,n2⟩|exact⟨(cso (by omega)).trans ((cso (by omega)).trans ((cso (by omega)).trans m)),(cso (by omega)).trans ((cso (by omega)).trans ((cso (by omega)).trans n0)),(cso (by omega)).trans ((cso (by omega)).trans ((cso (by omega)).trans n1)),(cso (by omega)).trans ((cso (by omega)).trans ((cso (by omega)).trans n2))⟩) (fail)
   all_goals
    go_wp2_with fail;clear m n0 n1 n2 g0 g1 g2 z0 z1 z2
    generalize((wr.setCell ⟨w.heap.size+1,i*7,none⟩ (.int .i64 x.op)).setCell ⟨w.heap.size+1,i*7+1,none⟩ (.string x.tx)).setCell ⟨w.heap.size+1,i*7+2,none⟩ (.int .i64 x.n)=C at *
    have c3:=V.o.c0;have k3:=(K.o.get i U).c3;rw[q0k]at k3;have z3:C.frozen? ⟨w.heap.size+1,i*7+3,none⟩=false:=K.o.row.frozen
    have HB:Hid (Calls prog 228 #[.pointer (some ⟨w.heap.size+1+1,0,none⟩),.int .i64 i] C.drew.drew fun e w'=>e=.returned (.int .i64 (q1e (q0a t) i).en)/\∃q,w'=C.drew.drew.drewN q):=by
     have A3:i<(q0a t).length:=by rw[A.o];exact U
     obtain⟨l,nx,dp,ks,Q⟩:=j7r ht A3;refine v0l (w.heap.size+1+1) (w.heap.size+1) _ C.drew.drew (by rw[A.o];exact hl) Q ?_ (fun j hj hjl=>?_) (by rw[A.o];exact c3) (by rw[A.o];exact K.o.kept rfl)
     ·rw[q0k,y.o]
     ·rw[q0z (by omega)];simp only[F1];rw[if_pos (by omega)];rfl
    have HF:Hid (upd (upd (F1 (q0a t) (i+1)) i ⟨x.op,x.tx,x.n,0,0,0,0⟩) i ⟨x.op,x.tx,x.n,(q1e (q0a t) i).en,0,0,0⟩=F1 (q0a t) i):=by
     show _=_
     have:=v7x (R:=q0a t) (i:=i)
     rw[q1,y.o]at this;rw[z8i];exact this
    have A0:Hid (PwR (C.setCell ⟨w.heap.size+1,i*7+3,none⟩ (.int .i64 (q1e (q0a t) i).en)) (w.heap.size+1) ds.length (F1 (q0a t) i)):=by
     have:=K.o.putEn U (q1e (q0a t) i).en
     rw[q0k,HF.o]at this;exact this
    have A1:Hid (NP w (C.setCell ⟨w.heap.size+1,i*7+3,none⟩ (.int .i64 (q1e (q0a t) i).en)) wd ds.length):=V.o.belX (B:=w.heap.size+1+1+1) y3m Zl;clear V K HF y
    generalize((q1e (q0a t) i).en:Int)=en at *
    go_region_held3 (fun w'=>w'.cell? ⟨w.heap.size+1+1,0,none⟩=some (.slice (some ⟨w.heap.size+1,0,none⟩) ds.length ds.length))
     (first|exact c3|exact(cso (by omega)).trans c3) ((go_at_call 228;refine HB.o.mono ?_;rintro e w4⟨rfl,q,rfl⟩))
    all_goals
     go_wp2
     go_roundw
     case rel=>exact⟨A1.o.same rfl rfl rfl rfl,i,by omega,by go_num,A0.o.kept rfl⟩
     case measure=>simp[intOf]
theorem y7j(B b s be bf:Nat)(_hb:s<B/\be<B/\bf<B)(hB:B<=b)(ds:List Nd)(a:Option Addr)(E:Nat)(_hl:ds.length<=400)(tx:ByteArray)(n:Int):q2q B b s be bf ds a E (⟨5,tx,n⟩::[]) (fun _ ws=>.ok ([],ws)):=by
 intro i r R ws L wc l w I G V _ K C D J;obtain⟨e,S,U⟩:=q1j (x:=⟨5,tx,n⟩) (A:=[]++r) I;obtain⟨X,d,N,P,Q⟩:=G.nd i e;subst d;rw[S]at N P Q;dsimp only at N P Q;have m:=C.c0;have o:=C.c1;have p:=C.c2;have q:=C.c5;have g:=C.lt;have h:s<w.heap.size:=by omega
 have H:B<=w.heap.size:=by omega
 have f:(i:Int)<(ds.length:Int):=by omega
 have k:Hid (ds.drop i=⟨5,tx,n⟩::([]++r)):=I;have Y:Hid (ds.drop (i+1)=[]++r):=U;have j:Hid (LC B s be bf (some ⟨s,X,none⟩) ds w):=G;have Z:Hid (q2e B w L ws):=V;have c:Hid (WS B b (q5v be bf ds.length E (some ⟨s,X,none⟩)) l (.slice L ws.length wc) w):=C;have M:Hid (∀O:Obj,Below B w (w.alloc O)):=fun O=>(Below.refl _ w).alloc H O
 clear G V C I S U;simp only[List.length_cons,List.length_nil]at D J;go_in;go_wp2;go_ret;exact⟨⟨rfl,L,wc,by rw[List.append_nil];exact c.o.alloc _,Z.o.W (M.o _),K⟩,M.o _⟩
theorem y7f(B b s be bf:Nat)(_hb:s<B/\be<B/\bf<B)(hB:B<=b)(ds:List Nd)(a:Option Addr)(E:Nat)(_hl:ds.length<=400)(tx:ByteArray)(n:Int)(ht:tx.size<=20):q2q B b s be bf ds a E (⟨1,tx,n⟩::[]) (fun _ ws=>.ok (tx.data.toList,ws)):=by
 intro i r S ws N wc l w K H X _ M C D L;obtain⟨j,U,V⟩:=q1j (x:=⟨1,tx,n⟩) (A:=[]++r) K;obtain⟨Y,g,P,Q,R⟩:=H.nd i j;subst g;rw[U]at P Q R;dsimp only at P Q R;have u:=C.c0;have v:=C.c1;have y:=C.c2;have c5:=C.c5;have m:=C.lt;have o:s<w.heap.size:=by omega
 have J:B<=w.heap.size:=by omega
 have k:(i:Int)<(ds.length:Int):=by omega
 have t:Hid (ds.drop i=⟨1,tx,n⟩::([]++r)):=K;have c:Hid (ds.drop (i+1)=[]++r):=V;have q:Hid (LC B s be bf (some ⟨s,Y,none⟩) ds w):=H;have d:Hid (q2e B w N ws):=X;have f:Hid (WS B b (q5v be bf ds.length E (some ⟨s,Y,none⟩)) l (.slice N ws.length wc) w):=C;have Z:Hid (∀O:Obj,Below B w (w.alloc O)):=fun O=>(Below.refl _ w).alloc J O
 clear H X C K U V;simp only[List.length_cons,List.length_nil]at D L;go_in;go_wp2_with fail
 go_region_with (go_at_call 10;refine(y7p (WS.drew (f.o.alloc _)) hB tx (by omega)).mono ?_;rintro e p⟨⟨z,rfl⟩,h,I⟩)
 all_goals
  go_wp2;go_ret;have G:Below B w p:=(Below.drew (Z.o _)).trans I;exact⟨⟨rfl,N,wc,h,d.o.W G,M⟩,G⟩
theorem y7m(B b s be bf:Nat)(hb:s<B/\be<B/\bf<B)(hB:B<=b)(ds:List Nd)(a:Option Addr)(D:Nat)(_hl:ds.length<=400)(tx:ByteArray)(n:Int)(A:List Nd)(f:Nat->List Int->Except Int (List UInt8 × List Int))(hA:k1t 280 B b s be bf ds a D (⟨8,tx,n⟩::A) f):q2q B b s be bf ds a D (⟨8,tx,n⟩::A) (f):=by
 intro i r E L Y wc l w U R m K X G H V;obtain⟨hi,h,j⟩:=q1j (x:=⟨8,tx,n⟩) (A:=A++r) U;obtain⟨P,ea,c,d,g⟩:=R.nd i hi;subst ea;rw[h]at c d g;dsimp only at c d g;have c0:=G.c0;have c1:=G.c1;have c2:=G.c2;have c5:=G.c5;have Ab:=G.lt;have Ac:s<w.heap.size:=by omega
 have S:B<=w.heap.size:=by omega
 have Aa:(i:Int)<(ds.length:Int):=by omega
 have y:Hid (ds.drop i=⟨8,tx,n⟩::(A++r)):=U;have z:Hid (ds.drop (i+1)=A++r):=j;have t:Hid (LC B s be bf (some ⟨s,P,none⟩) ds w):=R;have HI:Hid (q2e B w Y L):=m;have HW:Hid (WS B b (q5v be bf ds.length D (some ⟨s,P,none⟩)) l (.slice Y L.length wc) w):=G;have M:Hid (∀O:Obj,Below B w (w.alloc O)):=fun O=>(Below.refl _ w).alloc S O
 clear R m G U h j;have HF:Hid (k1t 280 B b s be bf ds (some ⟨s,P,none⟩) D (⟨8,tx,n⟩::A) f):=hA;have Q:Hid (q1y L):=K;clear hA K;go_in;go_wp2_with fail;refine(HF.o i r E L Y wc l _ y.o (t.o.W hb (M.o _)) (HI.o.W (M.o _)) Q.o X (HW.o.alloc _) H V).mono ?_;rintro e o⟨N,J⟩;cases C:f E L with
 | error er=>
  rw[C]at N;obtain⟨I,rfl⟩:=N;have Z:Hid (er≠0):=I;rw[q0h I];clear I;go_wp2;go_ret;refine⟨?_,((M.o _).trans J)⟩;rw[C];exact⟨Z.o,by rw[q0h Z.o];rfl⟩
 | ok p=>
  obtain⟨u,v⟩:=p;rw[C]at N;obtain⟨rfl,k⟩:=N;have q:Hid (∃wa' wc',WS B b (q5v be bf ds.length D (some ⟨s,P,none⟩)) (l++u) (.slice wa' v.length wc') o/\q2e B o wa' v/\v.length<=wc'):=k;clear k;go_wp2;go_ret;refine⟨?_,((M.o _).trans J)⟩;rw[C];exact⟨rfl,q.o⟩
theorem y7n(B b s be bf:Nat)(hb:s<B/\be<B/\bf<B)(hB:B<=b)(ds:List Nd)(a:Option Addr)(E:Nat)(_hl:ds.length<=400)(tx:ByteArray)(n:Int)(A C:List Nd)(f:Nat->List Int->Except Int (List UInt8 × List Int))(hA:k1t 280 B b s be bf ds a E (⟨9,tx,n⟩::(A++C)) f):q2q B b s be bf ds a E (⟨9,tx,n⟩::(A++C)) (f):=by
 intro i r G M Z wc l w V S o L Y H I X;obtain⟨hi,j,k⟩:=q1j (x:=⟨9,tx,n⟩) (A:=(A++C)++r) V;obtain⟨Q,ea,d,g,h⟩:=S.nd i hi;subst ea;rw[j]at d g h;dsimp only at d g h;have c0:=H.c0;have c1:=H.c1;have c2:=H.c2;have c5:=H.c5;have Ac:=H.lt;have Ad:s<w.heap.size:=by omega
 have U:B<=w.heap.size:=by omega
 have Ab:(i:Int)<(ds.length:Int):=by omega
 have z:Hid (ds.drop i=⟨9,tx,n⟩::((A++C)++r)):=V;have Aa:Hid (ds.drop (i+1)=(A++C)++r):=k;have y:Hid (LC B s be bf (some ⟨s,Q,none⟩) ds w):=S;have HI:Hid (q2e B w Z M):=o;have HW:Hid (WS B b (q5v be bf ds.length E (some ⟨s,Q,none⟩)) l (.slice Z M.length wc) w):=H;have N:Hid (∀O:Obj,Below B w (w.alloc O)):=fun O=>(Below.refl _ w).alloc U O
 clear S o H V j k;have HF:Hid (k1t 280 B b s be bf ds (some ⟨s,Q,none⟩) E (⟨9,tx,n⟩::(A++C)) f):=hA;have R:Hid (q1y M):=L;clear hA L;go_in;go_wp2_with fail;refine(HF.o i r G M Z wc l _ z.o (y.o.W hb (N.o _)) (HI.o.W (N.o _)) R.o Y (HW.o.alloc _) I X).mono ?_;rintro e q⟨P,K⟩;cases D:f G M with
 | error er=>
  rw[D]at P;obtain⟨J,rfl⟩:=P;have c:Hid (er≠0):=J;rw[q0h J];clear J;go_wp2;go_ret;refine⟨?_,((N.o _).trans K)⟩;rw[D];exact⟨c.o,by rw[q0h c.o];rfl⟩
 | ok p=>
  obtain⟨u,v⟩:=p;rw[D]at P;obtain⟨rfl,m⟩:=P;have t:Hid (∃wa' wc',WS B b (q5v be bf ds.length E (some ⟨s,Q,none⟩)) (l++u) (.slice wa' v.length wc') q/\q2e B q wa' v/\v.length<=wc'):=m;clear m;go_wp2;go_ret;refine⟨?_,((N.o _).trans K)⟩;rw[D];exact⟨rfl,t.o⟩
end Go.Proofs.YtelcnplcpboonaaGreatDoor
