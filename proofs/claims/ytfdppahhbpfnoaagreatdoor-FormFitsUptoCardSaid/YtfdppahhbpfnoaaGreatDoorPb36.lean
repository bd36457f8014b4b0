import Derived.Test.YtfdppahhbpfnoaaGreatDoorPb31
open Go.Proofs.Tryz
namespace Go.Proofs.YtfdppahhbpfnoaaGreatDoor
open Go Go.RowKit
abbrev q5c:Array Value:=#[.int .i64 0,.string ⟨#[]⟩,.int .i64 0,.int .i64 0,.int .i64 0,.int .i64 0,.int .i64 0]
theorem j8t:(prog.info? 222).map (fun i=>(i.zero,i.size,i.bytes))=some (some (.agg q5c),7,64):=by kernel_rfl
theorem z9a{z:Array Value}{n k:Nat}(h:k<n):(madeCells z n)[k]?=some (z[k % z.size]!):=by
 simp[madeCells,h]
theorem y3a{w:World}{g n:Nat}(h:w.heap[g]?=some (.cells (madeCells q5c (n*7)) 222 (0,0))):PwR w g n (fun _=>q0) where
 get j hj:=by
  have A:∀f,f<7->w.cell? ⟨g,j*7+f,none⟩=some (q5c[f]!):=fun f hf=>by
   simp only[World.cell?,h];rw[z9a (by omega),show q5c.size=7 from rfl,show(j*7+f) % 7=f by omega];rfl
  exact⟨A 0 (by omega),A 1 (by omega),A 2 (by omega),A 3 (by omega),A 4 (by omega),A 5 (by omega),A 6 (by omega)⟩
 row:=⟨_,_,h⟩
theorem j3c(n:Nat)(hn:n<=400)(W:World):(Instr.makeSlice 164 (.int .i64 (n:Int)) (.int .i64 (n:Int))).run prog W=.ok (.slice (some ⟨W,0,none⟩) n n) (W.alloc (.cells (madeCells q5c (n*7)) 222)):=by
 obtain⟨i,B,D,C,A⟩:=info_parts j8t
 have:=run_make (P:=prog) W 164 222 i _ Tryz.underlying164 B D .i64 .i64 n n (by omega) (by omega) (by rw[A];omega) (by omega)
 rw[C,Int.toNat_natCast]at this;exact this
theorem v2d{R:List Pl}{L M i nx dp:Nat}{ks:List (Nat × Tr)}{t:Tr}(bp g:Nat)(F:Nat->Q)(w:World)(hR:R.length<=400)(h:Sp R L M i t nx dp ks)(I:(F i).op=(q1e R i).nd.op)(D:∀j,i<j->j<R.length->(F j).en=(q1e R j).en)
  (c0:w.cell? ⟨bp,0,none⟩=some (.slice (some ⟨g,0,none⟩) R.length R.length)) (hp:PwR w g R.length F):
  Calls prog 160 #[.pointer (some ⟨bp,0,none⟩),.int .i64 i] w fun e w'=>e=.returned (.int .i64 (q1e R i).en)/\∃q,w'=w.drewN q:=by
 have H:(i:Int)<(R.length:Nat):=by have:=h.lt;omega
 have E:=(hp.get i h.lt).c0;rw[I]at E;have K:=h.at;rw[K]at E⊢;cases t with
 | leaf x=>
  have A:∀k:Int,k=6\/k=9\/k=7\/k=8->(x.op==k)=false:=fun k hk=>beq_eq_false_iff_ne.2 (by
   rcases q5d h.wf.1 h.wf.2 with e|e|e|e|e<;>omega)
  exact j2w bp g R.length i x.op w hR H c0 E (A 6 (by omega)) (A 9 (by omega)) (A 7 (by omega)) (A 8 (by omega))
 | one x a=>
  have B:=h.one;have G:=(hp.get (i+1) B.lt).c3;rw[D (i+1) (by omega) B.lt,B.at]at G
  have e:(z6p (Tr.one x a) i nx dp ks).en=(z6p a (i+1) nx (dp+x.n.toNat) ks).en:=by
   show i+(Tr.one x a).sz=i+1+a.sz;rw[k3f];omega
  rw[e];exact v2e bp g R.length i x.op _ w hR H (by have:=B.lt;omega) c0 E G (z2f h.wf.2.1)
 | two x a b=>
  obtain⟨O,N,B⟩:=h.two1;have C:=h.two2;have G:=(hp.get (i+1) B.lt).c3;rw[D (i+1) (by omega) B.lt,B.at]at G;have J:=(hp.get (i+1+a.sz) C.lt).c3;rw[D (i+1+a.sz) (by omega) C.lt,C.at]at J
  have e:(z6p (Tr.two x a b) i nx dp ks).en=(z6p b (i+1+a.sz) nx dp ks).en:=by
   show i+(Tr.two x a b).sz=i+1+a.sz+b.sz;rw[z4q];omega
  rw[e];exact v2f bp g R.length i (i+1+a.sz) x.op _ w hR H (by have:=B.lt;omega) (by have:=C.lt;omega) c0 E G J (z0s h.wf.2.1)
structure NP(w0 w:World)(wd n:Nat):Prop where
 c0:w.cell? ⟨w0.heap.size+1+1,0,none⟩=some (.slice (some ⟨w0.heap.size+1,0,none⟩) n n)
 c1:w.cell? ⟨w0.heap.size+1+1,1,none⟩=some (.int .i64 wd)
 r0:w.cell? ⟨w0,0,none⟩=some (.slice none 0 0)
 r1:w.cell? ⟨w0,1,none⟩=some (.int .i64 0)
 f0:z3g w w0.heap.size
 bw:Below w0 w0 w
theorem NP.belX{w0 w w':World}{wd n B:Nat}(h:NP w0 w wd n)(hb:q0p B (w0.heap.size+1) w w')(hB:w0.heap.size+1+1+1<=B):NP w0 w' wd n where
 c0:=(hb.cell (p:=⟨w0.heap.size+1+1,0,none⟩) (by simp;omega) (by simp)).trans h.c0
 c1:=(hb.cell (p:=⟨w0.heap.size+1+1,1,none⟩) (by simp;omega) (by simp)).trans h.c1
 r0:=(hb.cell (p:=⟨w0,0,none⟩) (by simp;omega) (by simp)).trans h.r0
 r1:=(hb.cell (p:=⟨w0,1,none⟩) (by simp;omega) (by simp)).trans h.r1
 f0:=h.f0.kept (hb.block _ (by omega) (by omega))
 bw:=h.bw.trans ((hb.mono (B':=w0.heap.size) (by omega)).W (by omega))
theorem NP.same{w0 w w':World}{wd n:Nat}(h:NP w0 w wd n)(e1:w'.heap=w.heap)(e2:w'.os=w.os)(e3:w'.tape=w.tape)(e4:w'.output=w.output):NP w0 w' wd n:=
 h.belX (B:=w0.heap.size+1+1+1) ⟨e2,e3,e4,by rw[e1];exact Nat.le_refl _,fun k _ _=>by rw[e1]⟩ (by omega)
theorem NP.lt{w0 w:World}{wd n:Nat}(h:NP w0 w wd n):w0.heap.size+1+1<w.heap.size:=World.block_lt_of_cell? w ⟨w0.heap.size+1+1,0,none⟩ h.c0
theorem v5t{t t':Tr}{i nx dp:Nat}{ks:List (Nat × Tr)}{ds:List Nd}(hd:ds=t.N)(h:Sp (q0a t) t.lf t.dsum i t' nx dp ks):∃r,ds.drop i=t'.N++r:=by
 obtain⟨A,e⟩:=h.pl;refine⟨A.map (·.nd),?_⟩;have B:(q0a t).map (·.nd)=ds:=by rw[hd];exact z1u t _ _ _ _
 rw[<-B,<-List.map_drop,e,List.map_append,z1u]
theorem y4q{w:World}{B g o:Nat}{v:Value}:q0p B g w (w.setCell ⟨g,o,none⟩ v):=(q0p.refl B g w).setCell (p:=⟨g,o,none⟩) (.inl rfl) v
theorem v4s(w0:World)(wd n:Nat):NP w0 (((w0.alloc (.cells #[.slice none 0 0,.int .i64 0] 166)).alloc (.cells (madeCells q5c (n*7)) 222)).alloc (.cells #[.slice (some ⟨w0.heap.size+1,0,none⟩) n n,.int .i64 wd] 166)) wd n/\PwR (((w0.alloc (.cells #[.slice none 0 0,.int .i64 0] 166)).alloc (.cells (madeCells q5c (n*7)) 222)).alloc (.cells #[.slice (some ⟨w0.heap.size+1,0,none⟩) n n,.int .i64 wd] 166)) (w0.heap.size+1) n (fun _=>q0):=by
 have D:=heap_alloc_new w0 (.cells #[.slice none 0 0,.int .i64 0] 166);have B:=heap_alloc_new (w0.alloc (.cells #[.slice none 0 0,.int .i64 0] 166)) (.cells (madeCells q5c (n*7)) 222);have E:(w0.alloc (.cells #[.slice none 0 0,.int .i64 0] 166)).heap.size=w0.heap.size+1:=by simp
 rw[E]at B
 have A:(((w0.alloc (.cells #[.slice none 0 0,.int .i64 0] 166)).alloc (.cells (madeCells q5c (n*7)) 222)).alloc (.cells #[.slice (some ⟨w0.heap.size+1,0,none⟩) n n,.int .i64 wd] 166)).heap[w0.heap.size]?=some (.cells #[.slice none 0 0,.int .i64 0] 166 (0,0)):=
  (Below.heap_alloc _ _ _ (by simp;omega)).trans ((Below.heap_alloc _ _ _ (by simp)).trans D)
 have C:(((w0.alloc (.cells #[.slice none 0 0,.int .i64 0] 166)).alloc (.cells (madeCells q5c (n*7)) 222)).alloc (.cells #[.slice (some ⟨w0.heap.size+1,0,none⟩) n n,.int .i64 wd] 166)).heap[w0.heap.size+1]?=some (.cells (madeCells q5c (n*7)) 222 (0,0)):=
  (Below.heap_alloc _ _ _ (by simp)).trans B
 exact⟨⟨by simp[go_sem],by simp[go_sem],by simp[World.cell?,A],by simp[World.cell?,A],⟨_,_,A⟩,(((Below.refl _ w0).alloc Zl _).alloc (by simp) _).alloc (by simp;omega) _⟩,y3a C⟩
set_option maxRecDepth 100000
set_option maxHeartbeats 8000000
theorem k0v(ds:List Nd)(t:Tr)(hd:ds=t.N)(ht:t.Wf)(hl:ds.length<=400)(a:Option Addr)(cap s wd:Nat)(A8:ds.length<=cap)(w:World)(hN:q0z s w a ds)(hs:s<w.heap.size):
  Calls prog 108 #[.slice a ds.length cap,.int .i64 wd] w fun e w'=>e=.returned (.agg #[.slice (some ⟨w.heap.size+1,0,none⟩) ds.length ds.length,.int .i64 wd])/\PwR w' (w.heap.size+1) ds.length (fun j=>q2 (q1e (q0a t) j))/\Below w w w':=by
 have Al:(q0a t).length=ds.length:=by rw[q2o,hd];rfl
 have Y:0<ds.length:=by rw[hd];exact t.pos
 have hm:∀W:World,(Instr.makeSlice 164 (.int .i64 (ds.length:Int)) (.int .i64 (ds.length:Int))).run prog W=.ok (.slice (some ⟨W,0,none⟩) ds.length ds.length) (W.alloc (.cells (madeCells q5c (ds.length*7)) 222)):=j3c ds.length hl;have Ah:Hid (∀W:World,NP W (((W.alloc (.cells #[.slice none 0 0,.int .i64 0] 166)).alloc (.cells (madeCells q5c (ds.length*7)) 222)).alloc (.cells #[.slice (some ⟨W.heap.size+1,0,none⟩) ds.length ds.length,.int .i64 wd] 166)) wd ds.length/\PwR (((W.alloc (.cells #[.slice none 0 0,.int .i64 0] 166)).alloc (.cells (madeCells q5c (ds.length*7)) 222)).alloc (.cells #[.slice (some ⟨W.heap.size+1,0,none⟩) ds.length ds.length,.int .i64 wd] 166)) (W.heap.size+1) ds.length (fun _=>q0)):=fun W=>v4s W wd ds.length
 have HD:Hid (ds=t.N):=hd;have HN:Hid (q0z s w a ds):=hN;have A:Hid ((q0a t).length=ds.length):=Al;clear hd hN Al
 have ea:∃o,a=some ⟨s,o,none⟩:=by
  obtain⟨o,e,_⟩:=HN.o 0 Y;exact⟨o,e⟩
 obtain⟨o,rfl⟩:=ea
 have Af:Hid (∀(W:World)i(h:i<ds.length),Below w w W->W.cell? ⟨s,o+i*3,none⟩=some (.int .i64 ds[i].op)/\W.cell? ⟨s,o+i*3+1,none⟩=some (.string ds[i].tx)/\W.cell? ⟨s,o+i*3+2,none⟩=some (.int .i64 ds[i].n)):=fun W i h hW=>by
  obtain⟨o',e,d⟩:=(HN.o.kept (hW.block s hs)) i h;simp only[Option.some.injEq,Addr.mk.injEq,and_true,true_and]at e;subst e;exact d
 have Ac:Hid (∀i(h:i<ds.length),(q1e (q0a t) i).nd=ds[i]):=fun i h=>by
  have e1:(q0a t).map (·.nd)=ds:=by rw[HD.o];exact z1u t _ _ _ _
  have S:i<(q0a t).length:=by rw[A.o];exact h
  have e2:((q0a t).map (·.nd))[i]?=some ds[i]:=by rw[e1];exact List.getElem?_eq_getElem h
  rw[List.getElem?_map,List.getElem?_eq_getElem S]at e2;rw[q1e,List.getD,List.getElem?_eq_getElem S];simpa using e2
 go_in;go_wp2_with fail
 go_loopw [6] (fun i wr=>NP w wr wd ds.length/\∃k:Nat,k<=ds.length/\i=.int .i64 ((k:Int)-1)/\PwR wr (w.heap.size+1) ds.length (F1 (q0a t) k)) (fun i _=>(intOf i+1).toNat)
 case atStart=>
  refine⟨(Ah.o w).1,ds.length,Nat.le_refl _,rfl,(Ah.o w).2.congr fun j hj=>?_⟩;simp only[F1];rw[if_neg (by omega)]
 case round=>
  obtain⟨O,k,hk,rfl,L⟩:=hrel;have b:Hid (NP w wr wd ds.length):=O;have Q:Hid (PwR wr (w.heap.size+1) ds.length (F1 (q0a t) k)):=L;have l:=O.c0;clear O L;by_cases A3:k=0
  ·subst A3;have Bb:¬((0:Int)<=((0:Nat):Int)-1):=by omega
   have e4:wr.cell? ⟨w.heap.size+1,4,none⟩=some (.int .i64 (F1 (q0a t) 0 0).nx):=by have:=(Q.o.get 0 Y).c4;simpa using this
   have f4:wr.frozen? ⟨w.heap.size+1,4,none⟩=false:=Q.o.row.frozen;have A7:(0:Int)<(ds.length:Int):=by omega
   have I:Hid (PwR (wr.setCell ⟨w.heap.size+1,4,none⟩ (.int .i64 (ds.length:Int))) (w.heap.size+1) ds.length (upd (F1 (q0a t) 0) 0 {F1 (q0a t) 0 0 with nx:=(ds.length:Int)})):=by
    have:=Q.o.putNx Y (ds.length:Int)
    rw[Nat.zero_mul,Nat.zero_add]at this;exact this
   have K:Hid (Tl (q0a t) t.lf t.dsum 0 (upd (F1 (q0a t) 0) 0 {F1 (q0a t) 0 0 with nx:=(ds.length:Int)})):=by
    have:=Tl.start (t:=t)
    rw[<-q2o,A.o]at this;exact this
   have D:Hid (NP w (wr.setCell ⟨w.heap.size+1,4,none⟩ (.int .i64 (ds.length:Int))) wd ds.length):=b.o.belX (B:=w.heap.size+1+1+1) y4q Zl;go_wp2_with fail;generalize wr.setCell ⟨w.heap.size+1,4,none⟩ (.int .i64 (ds.length:Int))=w5 at *;clear l e4 f4 b Q
   go_loopw [44] (fun i wq=>NP w wq wd ds.length/\∃k:Nat,k<=ds.length/\i=.int .i64 k/\∃F,PwR wq (w.heap.size+1) ds.length F/\Tl (q0a t) t.lf t.dsum k F) (fun i _=>ds.length-(intOf i).toNat)
   case atStart=>exact⟨D.o,0,Nat.zero_le _,rfl,_,I.o,K.o⟩
   case round=>
    clear D I K;obtain⟨O,k,hk,rfl,F,L,hT⟩:=hrel;have b:Hid (NP w wr wd ds.length):=O;by_cases H:k<ds.length
    ·have Aa:k<(q0a t).length:=by rw[A.o];exact H
     obtain⟨g,nx,dp,ks,P⟩:=j9o ht Aa
     have h0:k=0\/∃p,p<k/\j2e (q0a t) t.lf t.dsum p k:=by
      rcases Nat.eq_zero_or_pos k with e|e
      ·exact .inl e
      ·exact .inr (k2x ht e Aa)
     have hM:t.dsum<=3200:=by have:=q9b t;rw[<-HD.o]at this;omega
     have z:=y0s (w.heap.size+1+1) (w.heap.size+1) F wr (by rw[A.o];exact hl) hM P hT h0 (by omega) (by rw[A.o];exact O.c0) (by rw[A.o];exact L);rw[A.o]at z;obtain⟨r,Ao⟩:=v5t HD.o P;have Ad:=(show Hid _ from z);have G:Hid (Sp (q0a t) t.lf t.dsum k g nx dp ks):=P;have Ae:Hid (ds.drop k=g.N++r):=Ao;clear O L hT z h0 P Ao Aa;have Ba:(k:Int)<(ds.length:Int):=by omega
     have A6:(0:Int)<=(k:Int):=by omega
     go_wp2_with fail;refine Calls.mono Ad.o ?_;rintro e E⟨rfl,⟨Z,At,Am,Au⟩,An⟩;have D:Hid (NP w E wd ds.length):=b.o.belX An (by have:=b.o.lt;omega);have I:Hid (PwR E (w.heap.size+1) ds.length Z):=At;have K:Hid (Tl (q0a t) t.lf t.dsum k Z):=Am;have Ag:Hid (∀j,j<ds.length->j2e (q0a t) t.lf t.dsum k j->(Z j).nx=(q1e (q0a t) j).nx/\(Z j).dp=(q1e (q0a t) j).dp):=Au;clear At Am Au An b Ad;have d0:=(Af.o E k H D.o.bw).1;have hx:ds[k]=g.root:=by rw[<-Ac.o k H,G.o.at];rfl
     rw[hx]at d0;clear hx;by_cases y:g.root.op=8
     ·cases g with
      | leaf x=>
       have c:x.op=8:=y;rcases q5d G.o.wf.1 G.o.wf.2 with e|e|e|e|e<;>omega
      | two x a' b'=>
       have c:x.op=8:=y;rcases z0s G.o.wf.2.1 with e|e<;>omega
      | one x a'=>
       rw[y]at d0;have l:=D.o.c0;obtain⟨_,_,_,g3,_,_,g6⟩:=I.o.get k H;have z6:E.frozen? ⟨w.heap.size+1,k*7+6,none⟩=false:=I.o.row.frozen;have Ap:(Z k).en=((k+(Tr.one x a').N.length:Nat):Int):=by rw[K.o.en k (by rw[A.o];exact H),G.o.at];rfl
       rw[Ap]at g3
       have V:(q1e (q0a t) k).lg=lgF a'.flat:=by
        rw[G.o.at];show Tr.lg (.one x a')=_;have c:x.op=8:=y;simp[Tr.lg,c]
       have Ar:k+(Tr.one x a').N.length<=ds.length:=by
        have:=congrArg List.length Ae.o
        rw[List.length_drop,List.length_append]at this;omega
       have Bj:=(Tr.one x a').pos;have X:q2e E (some ⟨s,o+k*3,none⟩) (Tr.one x a').N:=((HN.o.kept (D.o.bw.block s hs)).part Ae.o).nods (by have:=D.o.bw.size;omega);generalize hj:k+(Tr.one x a').N.length=j at g3 Ar;have Ab:(Tr.one x a').N.length=j-k:=by omega
       have m:Hid (Calls prog 162 #[.slice (some ⟨s,o+k*3,none⟩) (j-k) (cap-k)] E.drew fun e w'=>e=.returned (.int .i64 (lgF a'.flat))/\Below E.drew.heap.size E.drew w'):=by
        have:=j3b (Tr.one x a').N (Tr.one x a') rfl G.o.wf (by omega) (some ⟨s,o+k*3,none⟩) (cap-k) (by omega) E.drew (X.W (Below.drew (Below.refl _ E)))
        rw[Ab]at this;exact this
       have Ay:Hid ((q1e (q0a t) k).lg=lgF a'.flat):=V;have h1:(k:Int)<=(j:Int):=by omega
       have Bi:(0:Int)<=(j:Int):=by omega
       have Bg:(k:Int)<(cap:Int):=by omega
       have Bd:¬(cap-k=0):=by omega
       have Be:¬(cap=k):=by omega
       have Bh:((j:Int)-(k:Int)).toNat=j-k:=by omega
       have A9:((cap:Int)-(k:Int)).toNat=cap-k:=by omega
       have h2:(j:Int)<=(cap:Int):=by omega
       have h3:(j:Int)<=(ds.length:Int):=by omega
       clear X Ab Ap V hj;have A1:=D.o.lt;have Av:Hid (∀C,Below E.drew.heap.size E.drew C->C.cell? ⟨w.heap.size+1+1,0,none⟩=some (.slice (some ⟨w.heap.size+1,0,none⟩) ds.length ds.length)):=fun C hb=>(hb.cell (p:=⟨w.heap.size+1+1,0,none⟩) A1).trans l
       have Aw:Hid (∀C,Below E.drew.heap.size E.drew C->C.cell? ⟨w.heap.size+1,k*7+3,none⟩=some (.int .i64 (j:Int))):=fun C hb=>(hb.cell (p:=⟨w.heap.size+1,k*7+3,none⟩) (by show w.heap.size+1<E.heap.size;omega)).trans g3
       have Ax:Hid (∀C,Below E.drew.heap.size E.drew C->PwR C (w.heap.size+1) ds.length Z/\NP w C wd ds.length):=fun C hb=>⟨I.o.kept (hb.block _ (by show w.heap.size+1<E.heap.size;omega)),D.o.belX (B:=E.heap.size) (q0p.of ((Below.drew (Below.refl _ E)).trans hb)) (by omega)⟩
       go_wp2_with fail
       go_region_held3 (fun w'=>w'.cell? ⟨w.heap.size+1+1,0,none⟩=some (.slice (some ⟨w.heap.size+1,0,none⟩) ds.length ds.length)/\w'.cell? ⟨w.heap.size+1,k*7+3,none⟩=some (.int .i64 (j:Int)))
        (first|exact⟨l,g3⟩|exact⟨Ai,Aj⟩|exact⟨(cso (by omega)).trans Ai,(cso (by omega)).trans Aj⟩)
        ((go_at_call 162;refine m.o.mono ?_;rintro e C⟨rfl,M⟩;have Ai:=Av.o C M;have Aj:=Aw.o C M;obtain⟨f,As⟩:=Ax.o C M;have Bc:=(f.get k H).c6;have Bk:C.frozen? ⟨w.heap.size+1,k*7+6,none⟩=false:=f.row.frozen;have J:Hid (PwR C (w.heap.size+1) ds.length Z):=f;have U:Hid (NP w C wd ds.length):=As;clear f As M))
       all_goals
        go_wp2
        go_roundw
        case rel=>exact⟨(U.o.belX (B:=w.heap.size+1+1+1) y4q Zl).same rfl rfl rfl rfl,k+1,by omega,by go_num,_,(J.o.putLg H (lgF a'.flat)).kept rfl,by rw[<-Ay.o];exact K.o.nextLg (by rw[A.o];exact Ag.o)⟩
        case measure=>simp[intOf];omega
     ·have c:(g.root.op==8)=false:=beq_eq_false_iff_ne.2 y
      have V:(Z k).lg=(q1e (q0a t) k).lg:=by
       rw[K.o.l0 k (by rw[A.o];exact H) Zl,G.o.at];show 0=g.lg;cases g with
       | leaf x=>rfl
       | two x a' b'=>rfl
       | one x a'=>
        have Ak:¬x.op=8:=y;simp[Tr.lg,Ak]
      have m:Hid ((Z k).lg=(q1e (q0a t) k).lg):=V;clear V y;go_wp2
      go_roundw
      case rel=>exact⟨D.o,k+1,by omega,by go_num,Z,I.o,K.o.next (by rw[A.o];exact Ag.o) m.o⟩
      case measure=>simp[intOf];omega
    ·have Aq:k=ds.length:=by omega
     have hF:=Tl.all ht (by rw[A.o,<-Aq];exact hT);have Q:Hid (PwR wr (w.heap.size+1) ds.length (fun j=>q2 (q1e (q0a t) j))):=L.congr (by rw[<-A.o];exact hF);have l:=O.c0;have c1:=O.c1;have r0:=O.r0;have r1:=O.r1;have f0:wr.frozen? ⟨w,0,none⟩=false:=O.f0.frozen;have f1:wr.frozen? ⟨w,1,none⟩=false:=O.f0.frozen;have Ab:¬((k:Int)<(ds.length:Int)):=by omega
     clear O L hT hF Aq;go_wp2;refine bodyPost_ret (v:=.agg #[.slice (some ⟨w.heap.size+1,0,none⟩) ds.length ds.length,.int .i64 wd]) (by simp[results,Tryz.results108,go_sem,r0,r1]) rfl ?_;have A5:∀v0 v1,((wr.setCell ⟨w,0,none⟩ v0).setCell ⟨w,1,none⟩ v1).heap[w.heap.size+1]?=wr.heap[w.heap.size+1]?:=fun v0 v1=>(Below.heap_setCell _ _ _ _ (by simp)).trans (Below.heap_setCell _ _ _ _ (by simp))
     exact⟨rfl,Q.o.kept (A5 _ _),b.o.bw.trans (((Below.refl _ wr).setCell (p:=⟨w,0,none⟩) Zl _).setCell (p:=⟨w,1,none⟩) Zl _)⟩
  ·obtain⟨i,rfl⟩:∃i,k=i+1:=⟨k-1,by omega⟩;have A4:(((i+1:Nat):Int)-1)=(i:Int):=by omega
   rw[A4];have S:i<ds.length:=by omega
   obtain⟨n0,n1,n2⟩:=Af.o wr i S b.o.bw;have HX:=Ac.o i S;generalize ds[i]=x at n0 n1 n2 HX;have u:Hid ((q1e (q0a t) i).nd=x):=HX;clear HX;obtain⟨g0,g1,g2,_,_,_,_⟩:=Q.o.get i S;have z0:wr.frozen? ⟨w.heap.size+1,i*7,none⟩=false:=Q.o.row.frozen;have z1:wr.frozen? ⟨w.heap.size+1,i*7+1,none⟩=false:=Q.o.row.frozen;have z2:wr.frozen? ⟨w.heap.size+1,i*7+2,none⟩=false:=Q.o.row.frozen;have A6:(0:Int)<=(i:Int):=by omega
   have Bf:(i:Int)<(ds.length:Int):=by omega
   have J:Hid (PwR (((wr.setCell ⟨w.heap.size+1,i*7,none⟩ (.int .i64 x.op)).setCell ⟨w.heap.size+1,i*7+1,none⟩ (.string x.tx)).setCell ⟨w.heap.size+1,i*7+2,none⟩ (.int .i64 x.n)) (w.heap.size+1) ds.length (upd (F1 (q0a t) (i+1)) i ⟨x.op,x.tx,x.n,0,0,0,0⟩)):=by
    have h:=((Q.o.putOp S x.op).putTx S x.tx).putN S x.n;rw[k0f,k0f,q0l,q0l]at h;have e:F1 (q0a t) (i+1) i=q0:=by simp only[F1];rw[if_neg (by omega)]
    rw[e]at h;exact h
   have U:Hid (NP w (((wr.setCell ⟨w.heap.size+1,i*7,none⟩ (.int .i64 x.op)).setCell ⟨w.heap.size+1,i*7+1,none⟩ (.string x.tx)).setCell ⟨w.heap.size+1,i*7+2,none⟩ (.int .i64 x.n)) wd ds.length):=b.o.belX (B:=w.heap.size+1+1+1) ((y4q.trans y4q).trans y4q) Zl;clear Q b;go_wp2_with fail
   go_region_held3 (fun w'=>w'.cell? ⟨w.heap.size+1+1,0,none⟩=some (.slice (some ⟨w.heap.size+1,0,none⟩) ds.length ds.length)/\w'.cell? ⟨s,o+i*3,none⟩=some (.int .i64 x.op)/\w'.cell? ⟨s,o+i*3+1,none⟩=some (.string x.tx)/\w'.cell? ⟨s,o+i*3+2,none⟩=some (.int .i64 x.n))
    (first|exact⟨l,n0,n1,n2⟩|exact⟨(cso (by omega)).trans ((cso (by omega)).trans ((cso (by omega)).trans l)),(cso (by omega)).trans ((cso (by omega)).trans ((cso (by omega)).trans n0)),(cso (by omega)).trans ((cso (by omega)).trans ((cso (by omega)).trans n1)),(cso (by omega)).trans ((cso (by omega)).trans ((cso (by omega)).trans n2))⟩) (fail)
   all_goals
    go_wp2_with fail;clear l n0 n1 n2 g0 g1 g2 z0 z1 z2
    generalize((wr.setCell ⟨w.heap.size+1,i*7,none⟩ (.int .i64 x.op)).setCell ⟨w.heap.size+1,i*7+1,none⟩ (.string x.tx)).setCell ⟨w.heap.size+1,i*7+2,none⟩ (.int .i64 x.n)=C at *
    have c3:=U.o.c0;have k3:=(J.o.get i S).c3;rw[q0l]at k3;have z3:C.frozen? ⟨w.heap.size+1,i*7+3,none⟩=false:=J.o.row.frozen
    have HB:Hid (Calls prog 160 #[.pointer (some ⟨w.heap.size+1+1,0,none⟩),.int .i64 i] C.drew.drew fun e w'=>e=.returned (.int .i64 (q1e (q0a t) i).en)/\∃q,w'=C.drew.drew.drewN q):=by
     have A2:i<(q0a t).length:=by rw[A.o];exact S
     obtain⟨g,nx,dp,ks,P⟩:=j9o ht A2;refine v2d (w.heap.size+1+1) (w.heap.size+1) _ C.drew.drew (by rw[A.o];exact hl) P ?_ (fun j hj hjl=>?_) (by rw[A.o];exact c3) (by rw[A.o];exact J.o.kept rfl)
     ·rw[q0l,u.o]
     ·rw[q1b (by omega)];simp only[F1];rw[if_pos (by omega)];rfl
    have HF:Hid (upd (upd (F1 (q0a t) (i+1)) i ⟨x.op,x.tx,x.n,0,0,0,0⟩) i ⟨x.op,x.tx,x.n,(q1e (q0a t) i).en,0,0,0⟩=F1 (q0a t) i):=by
     show _=_
     have:=v9t (R:=q0a t) (i:=i)
     rw[q1,u.o]at this;rw[k0f];exact this
    have Az:Hid (PwR (C.setCell ⟨w.heap.size+1,i*7+3,none⟩ (.int .i64 (q1e (q0a t) i).en)) (w.heap.size+1) ds.length (F1 (q0a t) i)):=by
     have:=J.o.putEn S (q1e (q0a t) i).en
     rw[q0l,HF.o]at this;exact this
    have A0:Hid (NP w (C.setCell ⟨w.heap.size+1,i*7+3,none⟩ (.int .i64 (q1e (q0a t) i).en)) wd ds.length):=U.o.belX (B:=w.heap.size+1+1+1) y4q Zl;clear U J HF u
    generalize((q1e (q0a t) i).en:Int)=en at *
    go_region_held3 (fun w'=>w'.cell? ⟨w.heap.size+1+1,0,none⟩=some (.slice (some ⟨w.heap.size+1,0,none⟩) ds.length ds.length))
     (first|exact c3|exact(cso (by omega)).trans c3) ((go_at_call 160;refine HB.o.mono ?_;rintro e w4⟨rfl,q,rfl⟩))
    all_goals
     go_wp2
     go_roundw
     case rel=>exact⟨A0.o.same rfl rfl rfl rfl,i,by omega,by go_num,Az.o.kept rfl⟩
     case measure=>simp[intOf]
theorem k4i{R:List Pl}{L M i nx dp wd c:Nat}{ks:List (Nat × Tr)}{t:Tr}(sb g mb:Nat)(Z:Sp R L M i t nx dp ks)(V:(q2 (q1e R i)).lg=-1)(hT:z5j sb g mb wd R i c 1)(w:World)(S:Nat->Nat->Bool)(h:Inv sb g mb wd R w S):
  Calls prog 163 #[.pointer (some ⟨sb,0,none⟩),.agg #[.int .i64 i,.int .i64 c]] w fun e w'=>e=.returned (cvV (tkC R wd i c 1))/\Left sb g mb wd R S (i+1) (tkC R wd i c 1).np (tkC R wd i c 1).nc w w':=by
 have H:Hid (Inv sb g mb wd R w S):=h;have p:=h.lt;have hi:i<R.length:=Z.lt;have Aa:(i:Int)<(R.length:Int):=by omega
 have Ab:(0:Int)<=(i:Int):=by omega
 have x:Hid (∀W,q4i W sb g wd R->z3f W g i (q2 (q1e R i))):=fun W m=>m.pr.get i hi
 have y:Hid (z5j sb g mb wd R i c 1):=hT;have k:Hid ((q2 (q1e R i)).lg=-1):=V;clear hT V;rw[cvV];clear h Z;generalize q2 (q1e R i)=q at *;go_in;go_wp2_with fail;have I:Sk1 sb g mb wd i c R S w ((w.alloc (.cells #[.int .i64 i,.int .i64 c] 172)).alloc (.cells #[.int .i64 0,.int .i64 0,.int .i64 0,.int .i64 0,.int .i64 0] 174)):=z6u (nq:=0) H.o
 generalize(w.alloc (.cells #[.int .i64 i,.int .i64 c] 172)).alloc (.cells #[.int .i64 0,.int .i64 0,.int .i64 0,.int .i64 0,.int .i64 0] 174)=w1 at *
 have C:Hid (Sk1 sb g mb wd i c R S w w1):=I;have r:=I.sz
 have E:∀W:World,W=w1.drew\/(∃O,W=(w1.alloc O).drew)->W.cell? ⟨sb,0,none⟩=some (.slice (some ⟨g,0,none⟩) R.length R.length)/\W.cell? ⟨w,0,none⟩=some (.int .i64 i)/\W.cell? ⟨g,i*7,none⟩=some (.int .i64 q.op)/\W.cell? ⟨g,i*7+1,none⟩=some (.string q.tx)/\W.cell? ⟨g,i*7+2,none⟩=some (.int .i64 q.n)/\W.cell? ⟨g,i*7+3,none⟩=some (.int .i64 q.en)/\W.cell? ⟨g,i*7+4,none⟩=some (.int .i64 q.nx)/\W.cell? ⟨g,i*7+5,none⟩=some (.int .i64 q.dp)/\W.cell? ⟨g,i*7+6,none⟩=some (.int .i64 q.lg):=by
  intro W m
  have D:q4i W sb g wd R/\W.cell? ⟨w,0,none⟩=some (.int .i64 i):=by
   rcases m with rfl|⟨O,rfl⟩
   ·exact⟨C.o.inv.pl.kept rfl rfl,C.o.a0⟩
   ·exact⟨(C.o.inv.pl.alloc O).kept rfl rfl,ka C.o.a0 O⟩
  obtain⟨d0,d1,d2,d3,d4,d5,d6⟩:=x.o W D.1;exact⟨D.1.c0,D.2,d0,d1,d2,d3,d4,d5,d6⟩
 have P:=E w1.drew (.inl rfl);have Q:=fun O=>E (w1.alloc O).drew (.inr ⟨O,rfl⟩)
 have B:Hid (ChB w (w1.alloc (q5e q)).drew i c q):=j3o C.o q;have j:Hid (Inv sb g mb wd R (w1.alloc (q5e q)).drew S):=(C.o.inv.alloc _).kept fun _ _=>rfl
 have K:Hid (q0p w mb w (w1.alloc (q5e q)).drew):=(q0p.of (C.o.bw.alloc C.o.bw.size _)).drew;clear I E
 go_region_held3 (fun w'=>w'.cell? ⟨sb,0,none⟩=some (.slice (some ⟨g,0,none⟩) R.length R.length)/\w'.cell? ⟨w,0,none⟩=some (.int .i64 i)/\w'.cell? ⟨g,i*7,none⟩=some (.int .i64 q.op)/\w'.cell? ⟨g,i*7+1,none⟩=some (.string q.tx)/\w'.cell? ⟨g,i*7+2,none⟩=some (.int .i64 q.n)/\w'.cell? ⟨g,i*7+3,none⟩=some (.int .i64 q.en)/\w'.cell? ⟨g,i*7+4,none⟩=some (.int .i64 q.nx)/\w'.cell? ⟨g,i*7+5,none⟩=some (.int .i64 q.dp)/\w'.cell? ⟨g,i*7+6,none⟩=some (.int .i64 q.lg))
  (first|with_reducible exact P|with_reducible exact Q _) (fail)
 all_goals
  generalize(w1.alloc (.cells #[.int .i64 q.op,.string q.tx,.int .i64 q.n,.int .i64 q.en,.int .i64 q.nx,.int .i64 q.dp,.int .i64 q.lg] 222)).drew=w2 at *
  have z:=B.o.a0;have a1:=B.o.a1;have u:=B.o.q6;clear P Q r;rw[k.o]at u;go_wp2_with fail;refine(y.o w2 S j.o).mono ?_;rintro e J⟨rfl,G,N,s,Y,X,U⟩;rw[cvV];have A:=B.o.kept G p.2.2;have r0:=A.r0;have r1:=A.r1;have r2:=A.r2;have r3:=A.r3;have r4:=A.r4;have y0:J.frozen? ⟨w.heap.size+1,0,none⟩=false:=A.fr.frozen;have y1:J.frozen? ⟨w.heap.size+1,1,none⟩=false:=A.fr.frozen;have y2:J.frozen? ⟨w.heap.size+1,2,none⟩=false:=A.fr.frozen;have y3:J.frozen? ⟨w.heap.size+1,3,none⟩=false:=A.fr.frozen;have y4:J.frozen? ⟨w.heap.size+1,4,none⟩=false:=A.fr.frozen;have f:Hid (q0p w mb w J):=K.o.trans (G.mono K.o.size);have d:Hid (Inv sb g mb wd R J N/\(∀a b,S a b=true->N a b=true)/\(∀a b,N a b=true->S a b=true\/i+1<=a)/\((q2z R wd i c 1).np<R.length->N (q2z R wd i c 1).np (q2z R wd i c 1).nc=true)):=⟨s,Y,X,U⟩;clear G s Y X U A z a1 u;go_wp2;exact bodyPost_ret (v:=.agg #[.int .i64 (tkC R wd i c 1).o,.int .i64 (tkC R wd i c 1).l,.int .i64 (tkC R wd i c 1).ch,.int .i64 (tkC R wd i c 1).np,.int .i64 (tkC R wd i c 1).nc]) (by simp[results,Tryz.results163,go_sem,r0,r1,r2,r3,r4]) rfl ⟨rfl,k4e f.o (by omega) _ _ _ _ _,N,d.o.1.set5 (by omega) (by omega) (by omega) _ _ _ _ _,d.o.2.1,d.o.2.2.1,d.o.2.2.2⟩
theorem k1a{R:List Pl}{L M i nx dp wd c:Nat}{ks:List (Nat × Tr)}{t:Tr}(sb g mb:Nat)(r:Sp R L M i t nx dp ks)(Ad:((q2 (q1e R i)).lg==-1)=false)(Aa:z1m (q2 (q1e R i)).op=false)(f:z5j sb g mb wd R i c 0)(w:World)(S:Nat->Nat->Bool)(h:Inv sb g mb wd R w S):
  Calls prog 163 #[.pointer (some ⟨sb,0,none⟩),.agg #[.int .i64 i,.int .i64 c]] w fun e w'=>e=.returned (cvV (tkC R wd i c 0))/\Left sb g mb wd R S (i+1) (tkC R wd i c 0).np (tkC R wd i c 0).nc w w':=by
 have H:Hid (Inv sb g mb wd R w S):=h;have Q:=h.lt;have hi:i<R.length:=r.lt;have Ac:(i:Int)<(R.length:Int):=by omega
 have Ae:(0:Int)<=(i:Int):=by omega
 have HQ:Hid (∀W,q4i W sb g wd R->z3f W g i (q2 (q1e R i))):=fun W hW=>hW.pr.get i hi
 have z:Hid (z5j sb g mb wd R i c 0):=f;clear f;rw[cvV];clear h r;generalize q2 (q1e R i)=q at *;go_in;go_wp2_with fail;have U:Sk1 sb g mb wd i c R S w ((w.alloc (.cells #[.int .i64 i,.int .i64 c] 172)).alloc (.cells #[.int .i64 0,.int .i64 0,.int .i64 0,.int .i64 0,.int .i64 0] 174)):=z6u (nq:=0) H.o
 generalize(w.alloc (.cells #[.int .i64 i,.int .i64 c] 172)).alloc (.cells #[.int .i64 0,.int .i64 0,.int .i64 0,.int .i64 0,.int .i64 0] 174)=w1 at *
 have I:Hid (Sk1 sb g mb wd i c R S w w1):=U;have Ab:=U.sz
 have N:∀W:World,W=w1.drew\/(∃O,W=(w1.alloc O).drew)->W.cell? ⟨sb,0,none⟩=some (.slice (some ⟨g,0,none⟩) R.length R.length)/\W.cell? ⟨w,0,none⟩=some (.int .i64 i)/\W.cell? ⟨g,i*7,none⟩=some (.int .i64 q.op)/\W.cell? ⟨g,i*7+1,none⟩=some (.string q.tx)/\W.cell? ⟨g,i*7+2,none⟩=some (.int .i64 q.n)/\W.cell? ⟨g,i*7+3,none⟩=some (.int .i64 q.en)/\W.cell? ⟨g,i*7+4,none⟩=some (.int .i64 q.nx)/\W.cell? ⟨g,i*7+5,none⟩=some (.int .i64 q.dp)/\W.cell? ⟨g,i*7+6,none⟩=some (.int .i64 q.lg):=by
  intro W hW
  have K:q4i W sb g wd R/\W.cell? ⟨w,0,none⟩=some (.int .i64 i):=by
   rcases hW with rfl|⟨O,rfl⟩
   ·exact⟨I.o.inv.pl.kept rfl rfl,I.o.a0⟩
   ·exact⟨(I.o.inv.pl.alloc O).kept rfl rfl,ka I.o.a0 O⟩
  obtain⟨d0,d1,d2,d3,d4,d5,d6⟩:=HQ.o W K.1;exact⟨K.1.c0,K.2,d0,d1,d2,d3,d4,d5,d6⟩
 have Z:=N w1.drew (.inl rfl);have d:=fun O=>N (w1.alloc O).drew (.inr ⟨O,rfl⟩)
 have G:Hid (ChB w (w1.alloc (q5e q)).drew i c q):=j3o I.o q;have x:Hid (Inv sb g mb wd R (w1.alloc (q5e q)).drew S):=(I.o.inv.alloc _).kept fun _ _=>rfl
 have X:Hid (q0p w mb w (w1.alloc (q5e q)).drew):=(q0p.of (I.o.bw.alloc I.o.bw.size _)).drew;clear U N
 go_region_held3 (fun w'=>w'.cell? ⟨sb,0,none⟩=some (.slice (some ⟨g,0,none⟩) R.length R.length)/\w'.cell? ⟨w,0,none⟩=some (.int .i64 i)/\w'.cell? ⟨g,i*7,none⟩=some (.int .i64 q.op)/\w'.cell? ⟨g,i*7+1,none⟩=some (.string q.tx)/\w'.cell? ⟨g,i*7+2,none⟩=some (.int .i64 q.n)/\w'.cell? ⟨g,i*7+3,none⟩=some (.int .i64 q.en)/\w'.cell? ⟨g,i*7+4,none⟩=some (.int .i64 q.nx)/\w'.cell? ⟨g,i*7+5,none⟩=some (.int .i64 q.dp)/\w'.cell? ⟨g,i*7+6,none⟩=some (.int .i64 q.lg))
  (first|with_reducible exact Z|with_reducible exact d _) (fail)
 all_goals
  generalize(w1.alloc (.cells #[.int .i64 q.op,.string q.tx,.int .i64 q.n,.int .i64 q.en,.int .i64 q.nx,.int .i64 q.dp,.int .i64 q.lg] 222)).drew=w2 at *
  have a0:=G.o.a0;have a1:=G.o.a1;have q6:=G.o.q6;clear Z d Ab;go_wp2_with fail;refine(z.o w2 S x.o).mono ?_;rintro e D⟨rfl,P,V,hI,m,k,j⟩;rw[cvV];have C:=G.o.kept P Q.2.2;have J:Hid (q0p w mb w D):=X.o.trans (P.mono X.o.size);have s:Hid (Inv sb g mb wd R D V/\(∀a b,S a b=true->V a b=true)/\(∀a b,V a b=true->S a b=true\/i+1<=a)/\((tkC R wd i c 0).np<R.length->V (tkC R wd i c 0).np (tkC R wd i c 0).nc=true)):=⟨hI,m,k,j⟩;have u0:=fun O=>ka C.q0 O
  have u1:=fun O=>ka C.q1 O
  have u2:=fun O=>ka C.q2 O
  have u3:=fun O=>ka C.q3 O
  have u4:=fun O=>ka C.q4 O
  have u5:=fun O=>ka C.q5 O
  have u6:=fun O=>ka C.q6 O
  have Y:Hid (ChB w D i c q):=C;clear P hI m k j C a0 a1 q6;go_wp2_with fail;refine(q9m q.op q.tx q.n q.en q.nx q.dp q.lg _).mono ?_;rintro e E⟨rfl,B⟩;rw[Aa];have Af:D.heap.size<E.heap.size:=by have:=B.size;simp at this;omega
  have A:Hid (ChB w E i c q):=(Y.o.kept (mb:=mb) (q0p.of ((Below.refl _ D).alloc Zl _)) Q.2.2).kept (q0p.of B) Q.2.2;have y:Hid (Inv sb g mb wd R E V):=(s.o.1.alloc _).W B;have u:Hid (q0p w mb w E):=(J.o.alloc (by have:=J.o.size;omega) _).trans (q0p.of (B.mono (by have:=J.o.size;simp;omega)));have s0:E.cell? ⟨D,0,none⟩=some (.int .i64 (tkC R wd i c 0).o):=(B.cell (p:=⟨D,0,none⟩) (by simp)).trans (by simp[go_sem]);have s1:E.cell? ⟨D,1,none⟩=some (.int .i64 (tkC R wd i c 0).l):=(B.cell (p:=⟨D,1,none⟩) (by simp)).trans (by simp[go_sem]);have s2:E.cell? ⟨D,2,none⟩=some (.int .i64 (tkC R wd i c 0).ch):=(B.cell (p:=⟨D,2,none⟩) (by simp)).trans (by simp[go_sem]);have s3:E.cell? ⟨D,3,none⟩=some (.int .i64 (tkC R wd i c 0).np):=(B.cell (p:=⟨D,3,none⟩) (by simp)).trans (by simp[go_sem]);have s4:E.cell? ⟨D,4,none⟩=some (.int .i64 (tkC R wd i c 0).nc):=(B.cell (p:=⟨D,4,none⟩) (by simp)).trans (by simp[go_sem]);have r0:=A.o.r0;have r1:=A.o.r1;have r2:=A.o.r2;have r3:=A.o.r3;have r4:=A.o.r4;have y0:E.frozen? ⟨w.heap.size+1,0,none⟩=false:=A.o.fr.frozen;have y1:E.frozen? ⟨w.heap.size+1,1,none⟩=false:=A.o.fr.frozen;have y2:E.frozen? ⟨w.heap.size+1,2,none⟩=false:=A.o.fr.frozen;have y3:E.frozen? ⟨w.heap.size+1,3,none⟩=false:=A.o.fr.frozen;have y4:E.frozen? ⟨w.heap.size+1,4,none⟩=false:=A.o.fr.frozen;clear u0 u1 u2 u3 u4 u5 u6 B;go_wp2;exact bodyPost_ret (v:=.agg #[.int .i64 (tkC R wd i c 0).o,.int .i64 (tkC R wd i c 0).l,.int .i64 (tkC R wd i c 0).ch,.int .i64 (tkC R wd i c 0).np,.int .i64 (tkC R wd i c 0).nc]) (by simp[results,Tryz.results163,go_sem,r0,r1,r2,r3,r4]) rfl ⟨rfl,k4e u.o (by omega) _ _ _ _ _,V,y.o.set5 (by omega) (by omega) (by omega) _ _ _ _ _,s.o.2.1,s.o.2.2.1,s.o.2.2.2⟩
end Go.Proofs.YtfdppahhbpfnoaaGreatDoor
