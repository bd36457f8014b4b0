import Derived.Test.YtchdplceopegoaaGreatDoorPi10
open Go.Proofs.Tryz
open List (length length_append length_cons length_nil replicate)
namespace Go.Proofs.YtchdplceopegoaaGreatDoor
open Go Go.RowKit
abbrev q5z:Array Value:=#[.int .i64 0,.string ⟨#[]⟩,.int .i64 0,.int .i64 0,.int .i64 0,.int .i64 0,.int .i64 0]
theorem v1c:(prog.info? 248).map (fun i=>(i.zero,i.size,i.bytes))=some (some (.agg q5z),7,64):=by kernel_rfl
theorem z9u{z:Array Value}{n k:Nat}(h:k<n):(madeCells z n)[k]?=some (z[k % z.size]!):=by
 simp[madeCells,h]
theorem y4r{w:World}{g n:Nat}(h:w.heap[g]?=some (.cells (madeCells q5z (n*7)) 248 (0,0))):PwR w g n (fun _=>q0) where
 get j hj:=by
  have A:∀f,f<7->w.cell? (g,j*7+f)=some (q5z[f]!):=fun f hf=>by
   simp only[World.cell?,h];rw[z9u (by omega),show q5z.size=7 from rfl,show(j*7+f) % 7=f by omega];rfl
  exact⟨A 0 (by omega),A 1 (by omega),A 2 (by omega),A 3 (by omega),A 4 (by omega),A 5 (by omega),A 6 (by omega)⟩
 row:=⟨_,_,h⟩
theorem j5i(n:Nat)(hn:n<=400)(W:World):(Instr.makeSlice 208 (n:Int) (n:Int)).run prog W=.ok (.slice W.heap.size n n) (W.alloc (.cells (madeCells q5z (n*7)) 248)):=by
 obtain⟨i,B,D,C,A⟩:=info_parts v1c
 have:=run_make (P:=prog) W 208 248 i _ Tryz.underlying208 B D .i64 .i64 n n (by omega) (by omega) (by rw[A];omega) (by omega)
 rw[C,Int.toNat_natCast]at this;exact this
theorem v4m{R:List Pl}{L M i nx dp:Nat}{ks:List (Nat × Tr)}{t:Tr}(bp g:Nat)(F:Nat->Q)(w:World)(hR:R.length<=400)(h:Sp R L M i t nx dp ks)(I:(F i).op=(q1r R i).nd.op)(D:∀j,i<j->j<R.length->(F j).en=(q1r R j).en)
  (c0:w.cell? bp=some (.slice g R.length R.length)) (hp:PwR w g R.length F):
  Calls prog 161 #[.pointer bp,i] w fun e w'=>e=.returned ((q1r R i).en)/\∃q,w'=w.drewN q:=by
 have H:(i:Int)<(R.length:Nat):=by have:=h.lt;omega
 have E:=(hp.get i h.lt).c0;rw[I]at E;have K:=h.at;rw[K]at E⊢;cases t with
 | leaf x=>
  have A:∀k:Int,k=6\/k=9\/k=7\/k=8->(x.op==k)=false:=fun k hk=>beq_eq_false_iff_ne.2 (by
   rcases q4a h.wf.1 h.wf.2 with e|e|e|e|e<;>omega)
  exact j5c bp g R.length i x.op w hR H c0 E (A 6 (by omega)) (A 9 (by omega)) (A 7 (by omega)) (A 8 (by omega))
 | one x a=>
  have B:=h.one;have G:=(hp.get (i+1) B.lt).c3;rw[D (i+1) (by omega) B.lt,B.at]at G
  have e:(z7q (Tr.one x a) i nx dp ks).en=(z7q a (i+1) nx (dp+x.n.toNat) ks).en:=by
   show i+(Tr.one x a).sz=i+1+a.sz;rw[k4i];omega
  rw[e];exact v4n bp g R.length i x.op _ w hR H (by have:=B.lt;omega) c0 E G (q8h h.wf.2.1)
 | two x a b=>
  obtain⟨O,N,B⟩:=h.two1;have C:=h.two2;have G:=(hp.get (i+1) B.lt).c3;rw[D (i+1) (by omega) B.lt,B.at]at G;have J:=(hp.get (i+1+a.sz) C.lt).c3;rw[D (i+1+a.sz) (by omega) C.lt,C.at]at J
  have e:(z7q (Tr.two x a b) i nx dp ks).en=(z7q b (i+1+a.sz) nx dp ks).en:=by
   show i+(Tr.two x a b).sz=i+1+a.sz+b.sz;rw[z5t];omega
  rw[e];exact v4o bp g R.length i (i+1+a.sz) x.op _ w hR H (by have:=B.lt;omega) (by have:=C.lt;omega) c0 E G J (q7t h.wf.2.1)
structure NP(w0 w:World)(wd n:Nat):Prop where
 c0:w.cell? ⟨w0.heap.size+1+1,0,none⟩=some (.slice (some ⟨w0.heap.size+1,0,none⟩) n n)
 c1:w.cell? ⟨w0.heap.size+1+1,1,none⟩=some (.int .i64 wd)
 r0:w.cell? ⟨w0,0,none⟩=some (.slice none 0 0)
 r1:w.cell? ⟨w0,1,none⟩=some (.int .i64 0)
 f0:q7w w w0.heap.size
 bw:Below w0 w0 w
theorem NP.belX{w0 w w':World}{wd n B:Nat}(h:NP w0 w wd n)(hb:q0n B (w0.heap.size+1) w w')(hB:w0.heap.size+1+1+1<=B):NP w0 w' wd n where
 c0:=(hb.cell (p:=⟨w0.heap.size+1+1,0,none⟩) (by simp;omega) (by simp)).trans h.c0
 c1:=(hb.cell (p:=⟨w0.heap.size+1+1,1,none⟩) (by simp;omega) (by simp)).trans h.c1
 r0:=(hb.cell (p:=⟨w0,0,none⟩) (by simp;omega) (by simp)).trans h.r0
 r1:=(hb.cell (p:=⟨w0,1,none⟩) (by simp;omega) (by simp)).trans h.r1
 f0:=h.f0.kept (hb.block _ (by omega) (by omega))
 bw:=h.bw.trans ((hb.mono (B':=w0.heap.size) (by omega)).W (by omega))
theorem NP.same{w0 w w':World}{wd n:Nat}(h:NP w0 w wd n)(e1:w'.heap=w.heap)(e2:w'.os=w.os)(e3:w'.tape=w.tape)(e4:w'.output=w.output):NP w0 w' wd n:=
 h.belX (B:=w0.heap.size+1+1+1) ⟨e2,e3,e4,by rw[e1];exact Nat.le_refl _,fun k _ _=>by rw[e1]⟩ (by omega)
theorem NP.lt{w0 w:World}{wd n:Nat}(h:NP w0 w wd n):w0.heap.size+1+1<w.heap.size:=World.block_lt_of_cell? w ⟨w0.heap.size+1+1,0,none⟩ h.c0
theorem v8d{t t':Tr}{i nx dp:Nat}{ks:List (Nat × Tr)}{ds:List Nd}(hd:ds=t.N)(h:Sp (q0a t) t.lf t.dsum i t' nx dp ks):∃r,ds.drop i=t'.N++r:=by
 obtain⟨A,e⟩:=h.pl;refine⟨A.map (·.nd),?_⟩;have B:(q0a t).map (·.nd)=ds:=by rw[hd];exact z2t t _ _ _ _
 rw[<-B,<-List.map_drop,e,List.map_append,z2t]
theorem k9z{w:World}{B g o:Nat}{v:Value}:q0n B g w (w.setCell ⟨g,o,none⟩ v):=(q0n.refl B g w).setCell (p:=⟨g,o,none⟩) (.inl rfl) v
theorem v7b(w0:World)(wd n:Nat):NP w0 (((w0.alloc (.cells #[.slice none 0 0,.int .i64 0] 210)).alloc (.cells (madeCells q5z (n*7)) 248)).alloc (.cells #[.slice ↑(w0.heap.size+1) n n,↑wd] 210)) wd n/\PwR (((w0.alloc (.cells #[.slice none 0 0,.int .i64 0] 210)).alloc (.cells (madeCells q5z (n*7)) 248)).alloc (.cells #[.slice ↑(w0.heap.size+1) n n,↑wd] 210)) (w0.heap.size+1) n (fun _=>q0):=by
 have D:=heap_alloc_new w0 (.cells #[.slice none 0 0,.int .i64 0] 210);have B:=heap_alloc_new (w0.alloc (.cells #[.slice none 0 0,.int .i64 0] 210)) (.cells (madeCells q5z (n*7)) 248);have E:(w0.alloc (.cells #[.slice none 0 0,.int .i64 0] 210)).heap.size=w0.heap.size+1:=by simp
 rw[E]at B
 have A:(((w0.alloc (.cells #[.slice none 0 0,.int .i64 0] 210)).alloc (.cells (madeCells q5z (n*7)) 248)).alloc (.cells #[.slice ↑(w0.heap.size+1) n n,↑wd] 210)).heap[w0.heap.size]?=some (.cells #[.slice none 0 0,.int .i64 0] 210 (0,0)):=
  (Below.heap_alloc _ _ _ (by simp;omega)).trans ((Below.heap_alloc _ _ _ (by simp)).trans D)
 have C:(((w0.alloc (.cells #[.slice none 0 0,.int .i64 0] 210)).alloc (.cells (madeCells q5z (n*7)) 248)).alloc (.cells #[.slice ↑(w0.heap.size+1) n n,↑wd] 210)).heap[w0.heap.size+1]?=some (.cells (madeCells q5z (n*7)) 248 (0,0)):=
  (Below.heap_alloc _ _ _ (by simp)).trans B
 exact⟨⟨by simp[go_sem],by simp[go_sem],by simp[World.cell?,A],by simp[World.cell?,A],⟨_,_,A⟩,(((Below.refl _ w0).alloc Zl _).alloc (by simp) _).alloc (by simp;omega) _⟩,y4r C⟩
set_option maxRecDepth 100000
set_option maxHeartbeats 8000000
theorem k1t(ds:List Nd)(t:Tr)(hd:ds=t.N)(ht:t.Wf)(hl:ds.length<=400)(a:Option Addr)(cap s wd:Nat)(A8:ds.length<=cap)(w:World)(hN:q1j s w a ds)(hs:s<w.heap.size):
  Calls prog 125 #[.slice a ds.length cap,.int .i64 wd] w fun e w'=>e=.returned (.agg #[.slice (some ⟨w.heap.size+1,0,none⟩) ds.length ds.length,.int .i64 wd])/\PwR w' (w.heap.size+1) ds.length (fun j=>q2 (q1r (q0a t) j))/\Below w w w':=by
 have Al:(q0a t).length=ds.length:=by rw[q2y,hd];rfl
 have Y:0<ds.length:=by rw[hd];exact t.pos
 have hm:∀W:World,(Instr.makeSlice 208 (ds.length:Int) (ds.length:Int)).run prog W=.ok (.slice W.heap.size ds.length ds.length) (W.alloc (.cells (madeCells q5z (ds.length*7)) 248)):=j5i ds.length hl;have Ah:Hid (∀W:World,NP W (((W.alloc (.cells #[.slice none 0 0,.int .i64 0] 210)).alloc (.cells (madeCells q5z (ds.length*7)) 248)).alloc (.cells #[.slice (some ⟨W.heap.size+1,0,none⟩) ds.length ds.length,.int .i64 wd] 210)) wd ds.length/\PwR (((W.alloc (.cells #[.slice none 0 0,.int .i64 0] 210)).alloc (.cells (madeCells q5z (ds.length*7)) 248)).alloc (.cells #[.slice (some ⟨W.heap.size+1,0,none⟩) ds.length ds.length,.int .i64 wd] 210)) (W.heap.size+1) ds.length (fun _=>q0)):=fun W=>v7b W wd ds.length
 have HD:Hid (ds=t.N):=hd;have HN:Hid (q1j s w a ds):=hN;have A:Hid ((q0a t).length=ds.length):=Al;clear hd hN Al
 have ea:∃o,a=some ⟨s,o,none⟩:=by
  obtain⟨o,e,_⟩:=HN.o 0 Y;exact⟨o,e⟩
 obtain⟨o,rfl⟩:=ea
 have Af:Hid (∀(W:World)i(h:i<ds.length),Below w w W->W.cell? (s,o+i*3)=some (ds[i].op)/\W.cell? (s,o+i*3+1)=some (.string ds[i].tx)/\W.cell? (s,o+i*3+2)=some (ds[i].n)):=fun W i h hW=>by
  obtain⟨o',e,d⟩:=(HN.o.kept (hW.block s hs)) i h;simp only[Option.some.injEq,Addr.mk.injEq,and_true,true_and]at e;subst e;exact d
 have Ac:Hid (∀i(h:i<ds.length),(q1r (q0a t) i).nd=ds[i]):=fun i h=>by
  have e1:(q0a t).map (·.nd)=ds:=by rw[HD.o];exact z2t t _ _ _ _
  have S:i<(q0a t).length:=by rw[A.o];exact h
  have e2:((q0a t).map (·.nd))[i]?=some ds[i]:=by rw[e1];exact List.getElem?_eq_getElem h
  rw[List.getElem?_map,List.getElem?_eq_getElem S]at e2;rw[q1r,List.getD,List.getElem?_eq_getElem S];simpa using e2
 go_in;go_wp2_with fail
 go_loopw [6] (fun i wr=>NP w wr wd ds.length/\∃k:Nat,k<=ds.length/\i=↑((k:Int)-1)/\PwR wr (w.heap.size+1) ds.length (F1 (q0a t) k)) (fun i _=>(intOf i+1).toNat)
 case atStart=>
  refine⟨(Ah.o w).1,ds.length,Nat.le_refl _,rfl,(Ah.o w).2.congr fun j hj=>?_⟩;simp only[F1];rw[if_neg (by omega)]
 case round=>
  obtain⟨O,k,hk,rfl,L⟩:=hrel;have b:Hid (NP w wr wd ds.length):=O;have Q:Hid (PwR wr (w.heap.size+1) ds.length (F1 (q0a t) k)):=L;have l:=O.c0;clear O L;by_cases A3:k=0
  ·subst A3;have Bb:¬((0:Int)<=((0:Nat):Int)-1):=by omega
   have e4:wr.cell? (w.heap.size+1,4)=some ((F1 (q0a t) 0 0).nx):=by have:=(Q.o.get 0 Y).c4;simpa using this
   have f4:wr.frozen? (w.heap.size+1,4)=false:=Q.o.row.frozen;have A7:(0:Int)<(ds.length:Int):=by omega
   have I:Hid (PwR (wr.setCell ↑(w.heap.size+1,4) ↑(ds.length:Int)) (w.heap.size+1) ds.length (upd (F1 (q0a t) 0) 0 {F1 (q0a t) 0 0 with nx:=(ds.length:Int)})):=by
    have:=Q.o.putNx Y (ds.length:Int)
    rw[Nat.zero_mul,Nat.zero_add]at this;exact this
   have K:Hid (Tl (q0a t) t.lf t.dsum 0 (upd (F1 (q0a t) 0) 0 {F1 (q0a t) 0 0 with nx:=(ds.length:Int)})):=by
    have:=Tl.start (t:=t)
    rw[<-q2y,A.o]at this;exact this
   have D:Hid (NP w (wr.setCell ↑(w.heap.size+1,4) ↑(ds.length:Int)) wd ds.length):=b.o.belX (B:=w.heap.size+1+1+1) k9z Zl;go_wp2_with fail;generalize wr.setCell ↑(w.heap.size+1,4) ↑(ds.length:Int)=w5 at *;clear l e4 f4 b Q
   go_loopw [44] (fun i wq=>NP w wq wd ds.length/\∃k:Nat,k<=ds.length/\i=.int .i64 k/\∃F,PwR wq (w.heap.size+1) ds.length F/\Tl (q0a t) t.lf t.dsum k F) (fun i _=>ds.length-(intOf i).toNat)
   case atStart=>exact⟨D.o,0,Nat.zero_le _,rfl,_,I.o,K.o⟩
   case round=>
    clear D I K;obtain⟨O,k,hk,rfl,F,L,hT⟩:=hrel;have b:Hid (NP w wr wd ds.length):=O;by_cases H:k<ds.length
    ·have Aa:k<(q0a t).length:=by rw[A.o];exact H
     obtain⟨g,nx,dp,ks,P⟩:=v1y ht Aa
     have h0:k=0\/∃p,p<k/\j3z (q0a t) t.lf t.dsum p k:=by
      rcases Nat.eq_zero_or_pos k with e|e
      ·exact .inl e
      ·exact .inr (k3s ht e Aa)
     have hM:t.dsum<=3200:=by have:=z0a t;rw[<-HD.o]at this;omega
     have z:=y2u (w.heap.size+1+1) (w.heap.size+1) F wr (by rw[A.o];exact hl) hM P hT h0 (by omega) (by rw[A.o];exact O.c0) (by rw[A.o];exact L);rw[A.o]at z;obtain⟨r,Ao⟩:=v8d HD.o P;have Ad:=(show Hid _ from z);have G:Hid (Sp (q0a t) t.lf t.dsum k g nx dp ks):=P;have Ae:Hid (ds.drop k=g.N++r):=Ao;clear O L hT z h0 P Ao Aa;have Ba:(k:Int)<(ds.length:Int):=by omega
     have A6:(0:Int)<=(k:Int):=by omega
     go_wp2_with fail;refine Calls.mono Ad.o ?_;rintro e E⟨rfl,⟨Z,At,Am,Au⟩,An⟩;have D:Hid (NP w E wd ds.length):=b.o.belX An (by have:=b.o.lt;omega);have I:Hid (PwR E (w.heap.size+1) ds.length Z):=At;have K:Hid (Tl (q0a t) t.lf t.dsum k Z):=Am;have Ag:Hid (∀j,j<ds.length->j3z (q0a t) t.lf t.dsum k j->(Z j).nx=(q1r (q0a t) j).nx/\(Z j).dp=(q1r (q0a t) j).dp):=Au;clear At Am Au An b Ad;have d0:=(Af.o E k H D.o.bw).1;have hx:ds[k]=g.root:=by rw[<-Ac.o k H,G.o.at];rfl
     rw[hx]at d0;clear hx;by_cases y:g.root.op=8
     ·cases g with
      | leaf x=>
       have c:x.op=8:=y;rcases q4a G.o.wf.1 G.o.wf.2 with e|e|e|e|e<;>omega
      | two x a' b'=>
       have c:x.op=8:=y;rcases q7t G.o.wf.2.1 with e|e<;>omega
      | one x a'=>
       rw[y]at d0;have l:=D.o.c0;obtain⟨_,_,_,g3,_,_,g6⟩:=I.o.get k H;have z6:E.frozen? (w.heap.size+1,k*7+6)=false:=I.o.row.frozen;have Ap:(Z k).en=((k+(Tr.one x a').N.length:Nat):Int):=by rw[K.o.en k (by rw[A.o];exact H),G.o.at];rfl
       rw[Ap]at g3
       have V:(q1r (q0a t) k).lg=lgF a'.flat:=by
        rw[G.o.at];show Tr.lg (.one x a')=_;have c:x.op=8:=y;simp[Tr.lg,c]
       have Ar:k+(Tr.one x a').N.length<=ds.length:=by
        have:=congrArg length Ae.o
        rw[List.length_drop,length_append]at this;omega
       have Bj:=(Tr.one x a').pos;have X:q2b E (some ↑(s,o+k*3)) (Tr.one x a').N:=((HN.o.kept (D.o.bw.block s hs)).part Ae.o).nods (by have:=D.o.bw.size;omega);generalize hj:k+(Tr.one x a').N.length=j at g3 Ar;have Ab:(Tr.one x a').N.length=j-k:=by omega
       have m:Hid (Cp 163 #[.slice (some ⟨s,o+k*3,none⟩) (j-k) (cap-k)] E.drew fun e w'=>e=.returned (.int .i64 (lgF a'.flat))/\Below E.drew.heap.size E.drew w'):=by
        have:=j5h (Tr.one x a').N (Tr.one x a') rfl G.o.wf (by omega) (some ⟨s,o+k*3,none⟩) (cap-k) (by omega) E.drew (X.W (Below.drew (Below.refl _ E)))
        rw[Ab]at this;exact this
       have Ay:Hid ((q1r (q0a t) k).lg=lgF a'.flat):=V;have h1:(k:Int)<=(j:Int):=by omega
       have Bi:(0:Int)<=(j:Int):=by omega
       have Bg:(k:Int)<(cap:Int):=by omega
       have Bd:¬(cap-k=0):=by omega
       have Be:¬(cap=k):=by omega
       have Bh:((j:Int)-(k:Int)).toNat=j-k:=by omega
       have A9:((cap:Int)-(k:Int)).toNat=cap-k:=by omega
       have h2:(j:Int)<=(cap:Int):=by omega
       have h3:(j:Int)<=(ds.length:Int):=by omega
       clear X Ab Ap V hj;have A1:=D.o.lt;have Av:Hid (∀C,Below E.drew.heap.size E.drew C->C.cell? ⟨w.heap.size+1+1,0,none⟩=some (.slice (some ⟨w.heap.size+1,0,none⟩) ds.length ds.length)):=fun C hb=>(hb.cell (p:=⟨w.heap.size+1+1,0,none⟩) A1).trans l
       have Aw:Hid (∀C,Below E.drew.heap.size E.drew C->C.cell? ⟨w.heap.size+1,k*7+3,none⟩=some (.int .i64 (j:Int))):=fun C hb=>(hb.cell (p:=⟨w.heap.size+1,k*7+3,none⟩) (by show w.heap.size+1<E.heap.size;omega)).trans g3
       have Ax:Hid (∀C,Below E.drew.heap.size E.drew C->PwR C (w.heap.size+1) ds.length Z/\NP w C wd ds.length):=fun C hb=>⟨I.o.kept (hb.block _ (by show w.heap.size+1<E.heap.size;omega)),D.o.belX (B:=E.heap.size) (q0n.of ((Below.drew (Below.refl _ E)).trans hb)) (by omega)⟩
       go_wp2_with fail
       go_region_held3 (fun w'=>w'.cell? ⟨w.heap.size+1+1,0,none⟩=some (.slice (some ⟨w.heap.size+1,0,none⟩) ds.length ds.length)/\w'.cell? ⟨w.heap.size+1,k*7+3,none⟩=some (.int .i64 (j:Int)))
        (first|exact⟨l,g3⟩|exact⟨Ai,Aj⟩|exact⟨(cso (by omega)).trans Ai,(cso (by omega)).trans Aj⟩)
        ((go_at_call 163;refine m.o.mono ?_;rintro e C⟨rfl,M⟩;have Ai:=Av.o C M;have Aj:=Aw.o C M;obtain⟨f,As⟩:=Ax.o C M;have Bc:=(f.get k H).c6;have Bk:C.frozen? ⟨w.heap.size+1,k*7+6,none⟩=false:=f.row.frozen;have J:Hid (PwR C (w.heap.size+1) ds.length Z):=f;have U:Hid (NP w C wd ds.length):=As;clear f As M))
       all_goals
        go_wp2
        go_roundw
        case rel=>exact⟨(U.o.belX (B:=w.heap.size+1+1+1) k9z Zl).same rfl rfl rfl rfl,k+1,by omega,by go_num,_,(J.o.putLg H (lgF a'.flat)).kept rfl,by rw[<-Ay.o];exact K.o.nextLg (by rw[A.o];exact Ag.o)⟩
        case measure=>simp[intOf];omega
     ·have c:(g.root.op==8)=false:=beq_eq_false_iff_ne.2 y
      have V:(Z k).lg=(q1r (q0a t) k).lg:=by
       rw[K.o.l0 k (by rw[A.o];exact H) Zl,G.o.at];show 0=g.lg;cases g with
       | leaf x=>rfl
       | two x a' b'=>rfl
       | one x a'=>
        have Ak:¬x.op=8:=y;simp[Tr.lg,Ak]
      have m:Hid ((Z k).lg=(q1r (q0a t) k).lg):=V;clear V y;go_wp2
      go_roundw
      case rel=>exact⟨D.o,k+1,by omega,by go_num,Z,I.o,K.o.next (by rw[A.o];exact Ag.o) m.o⟩
      case measure=>simp[intOf];omega
    ·have Aq:k=ds.length:=by omega
     have hF:=Tl.all ht (by rw[A.o,<-Aq];exact hT);have Q:Hid (PwR wr (w.heap.size+1) ds.length (fun j=>q2 (q1r (q0a t) j))):=L.congr (by rw[<-A.o];exact hF);have l:=O.c0;have c1:=O.c1;have r0:=O.r0;have r1:=O.r1;have f0:wr.frozen? ⟨w,0,none⟩=false:=O.f0.frozen;have f1:wr.frozen? ⟨w,1,none⟩=false:=O.f0.frozen;have Ab:¬((k:Int)<(ds.length:Int)):=by omega
     clear O L hT hF Aq;go_wp2;refine bodyPost_ret (v:=.agg #[.slice (some ⟨w.heap.size+1,0,none⟩) ds.length ds.length,.int .i64 wd]) (by simp[results,Tryz.results125,go_sem,r0,r1]) rfl ?_;have A5:∀v0 v1,((wr.setCell ⟨w,0,none⟩ v0).setCell ⟨w,1,none⟩ v1).heap[w.heap.size+1]?=wr.heap[w.heap.size+1]?:=fun v0 v1=>(Below.heap_setCell _ _ _ _ (by simp)).trans (Below.heap_setCell _ _ _ _ (by simp))
     exact⟨rfl,Q.o.kept (A5 _ _),b.o.bw.trans (((Below.refl _ wr).setCell (p:=⟨w,0,none⟩) Zl _).setCell (p:=⟨w,1,none⟩) Zl _)⟩
  ·obtain⟨i,rfl⟩:∃i,k=i+1:=⟨k-1,by omega⟩;have A4:(((i+1:Nat):Int)-1)=(i:Int):=by omega
   rw[A4];have S:i<ds.length:=by omega
   obtain⟨n0,n1,n2⟩:=Af.o wr i S b.o.bw;have HX:=Ac.o i S;generalize ds[i]=x at n0 n1 n2 HX;have u:Hid ((q1r (q0a t) i).nd=x):=HX;clear HX;obtain⟨g0,g1,g2,_,_,_,_⟩:=Q.o.get i S;have z0:wr.frozen? ⟨w.heap.size+1,i*7,none⟩=false:=Q.o.row.frozen;have z1:wr.frozen? ⟨w.heap.size+1,i*7+1,none⟩=false:=Q.o.row.frozen;have z2:wr.frozen? ⟨w.heap.size+1,i*7+2,none⟩=false:=Q.o.row.frozen;have A6:(0:Int)<=(i:Int):=by omega
   have Bf:(i:Int)<(ds.length:Int):=by omega
   have J:Hid (PwR (((wr.setCell ⟨w.heap.size+1,i*7,none⟩ (.int .i64 x.op)).setCell ⟨w.heap.size+1,i*7+1,none⟩ (.string x.tx)).setCell ⟨w.heap.size+1,i*7+2,none⟩ (.int .i64 x.n)) (w.heap.size+1) ds.length (upd (F1 (q0a t) (i+1)) i ⟨x.op,x.tx,x.n,0,0,0,0⟩)):=by
    have h:=((Q.o.putOp S x.op).putTx S x.tx).putN S x.n;rw[k1b,k1b,q0p,q0p]at h;have e:F1 (q0a t) (i+1) i=q0:=by simp only[F1];rw[if_neg (by omega)]
    rw[e]at h;exact h
   have U:Hid (NP w (((wr.setCell ⟨w.heap.size+1,i*7,none⟩ (.int .i64 x.op)).setCell ⟨w.heap.size+1,i*7+1,none⟩ (.string x.tx)).setCell ⟨w.heap.size+1,i*7+2,none⟩ (.int .i64 x.n)) wd ds.length):=b.o.belX (B:=w.heap.size+1+1+1) ((k9z.trans k9z).trans k9z) Zl;clear Q b;go_wp2_with fail
   go_region_held3 (fun w'=>w'.cell? ⟨w.heap.size+1+1,0,none⟩=some (.slice (some ⟨w.heap.size+1,0,none⟩) ds.length ds.length)/\w'.cell? ⟨s,o+i*3,none⟩=some (.int .i64 x.op)/\w'.cell? ⟨s,o+i*3+1,none⟩=some (.string x.tx)/\w'.cell? ⟨s,o+i*3+2,none⟩=some (.int .i64 x.n))
    (first|exact⟨l,n0,n1,n2⟩|exact⟨(cso (by omega)).trans ((cso (by omega)).trans ((cso (by omega)).trans l)),(cso (by omega)).trans ((cso (by omega)).trans ((cso (by omega)).trans n0)),(cso (by omega)).trans ((cso (by omega)).trans ((cso (by omega)).trans n1)),(cso (by omega)).trans ((cso (by omega)).trans ((cso (by omega)).trans n2))⟩) (fail)
   all_goals
    go_wp2_with fail;clear l n0 n1 n2 g0 g1 g2 z0 z1 z2
    generalize((wr.setCell ⟨w.heap.size+1,i*7,none⟩ (.int .i64 x.op)).setCell ⟨w.heap.size+1,i*7+1,none⟩ (.string x.tx)).setCell ⟨w.heap.size+1,i*7+2,none⟩ (.int .i64 x.n)=C at *
    have c3:=U.o.c0;have k3:=(J.o.get i S).c3;rw[q0p]at k3;have z3:C.frozen? ⟨w.heap.size+1,i*7+3,none⟩=false:=J.o.row.frozen
    have HB:Hid (Cp 161 #[.pointer (some ⟨w.heap.size+1+1,0,none⟩),.int .i64 i] C.drew.drew fun e w'=>e=.returned (.int .i64 (q1r (q0a t) i).en)/\∃q,w'=C.drew.drew.drewN q):=by
     have A2:i<(q0a t).length:=by rw[A.o];exact S
     obtain⟨g,nx,dp,ks,P⟩:=v1y ht A2;refine v4m (w.heap.size+1+1) (w.heap.size+1) _ C.drew.drew (by rw[A.o];exact hl) P ?_ (fun j hj hjl=>?_) (by rw[A.o];exact c3) (by rw[A.o];exact J.o.kept rfl)
     ·rw[q0p,u.o]
     ·rw[q1l (by omega)];simp only[F1];rw[if_pos (by omega)];rfl
    have HF:Hid (upd (upd (F1 (q0a t) (i+1)) i ⟨x.op,x.tx,x.n,0,0,0,0⟩) i ⟨x.op,x.tx,x.n,(q1r (q0a t) i).en,0,0,0⟩=F1 (q0a t) i):=by
     show _=_
     have:=y2d (R:=q0a t) (i:=i)
     rw[q1,u.o]at this;rw[k1b];exact this
    have Az:Hid (PwR (C.setCell ⟨w.heap.size+1,i*7+3,none⟩ (.int .i64 (q1r (q0a t) i).en)) (w.heap.size+1) ds.length (F1 (q0a t) i)):=by
     have:=J.o.putEn S (q1r (q0a t) i).en
     rw[q0p,HF.o]at this;exact this
    have A0:Hid (NP w (C.setCell ⟨w.heap.size+1,i*7+3,none⟩ (.int .i64 (q1r (q0a t) i).en)) wd ds.length):=U.o.belX (B:=w.heap.size+1+1+1) k9z Zl;clear U J HF u
    generalize((q1r (q0a t) i).en:Int)=en at *
    go_region_held3 (fun w'=>w'.cell? ⟨w.heap.size+1+1,0,none⟩=some (.slice (some ⟨w.heap.size+1,0,none⟩) ds.length ds.length))
     (first|exact c3|exact(cso (by omega)).trans c3) ((go_at_call 161;refine HB.o.mono ?_;rintro e w4⟨rfl,q,rfl⟩))
    all_goals
     go_wp2
     go_roundw
     case rel=>exact⟨A0.o.same rfl rfl rfl rfl,i,by omega,by go_num,Az.o.kept rfl⟩
     case measure=>simp[intOf]
theorem k6q(c:Int)(h:c=0\/c=1)(w:World):Cw 197 #[.int .i64 c] w (.bool false):=by
 unfold Cw;rcases h with rfl|rfl
 all_goals
  go_in;go_wp2;go_ret;exact⟨rfl,rfl⟩
theorem k3m(c:Int)(h0:c≠0)(h1:c≠1)(w:World):Cw 197 #[.int .i64 c] w (.bool true):=by
 unfold Cw;have A:(c != 0)=true:=by simp[h0]
 have B:(c != 1)=true:=by simp[h1]
 go_in;go_wp2;go_ret;exact⟨rfl,rfl⟩
theorem z0x(ws:List Int)(wa:Option Addr)(wc:Nat)(w:World)(hI:q9s w wa ws)(hl:ws.length<=9223372036854775807):
  Calls prog 225 #[.slice wa ws.length wc,.func (.func 197) #[] #[]] w fun e w'=>((q3n ws/\e=.returned (.int .i64 (-1)))\/(¬q3n ws/\∃k:Nat,e=.returned (.int .i64 k)))/\w=w':=by
 have L:Hid (q9s w wa ws):=hI;go_in;go_wp2_with fail
 go_loopw [8] (fun i wr=>wr=w/\∃k:Nat,k<=ws.length/\i=.int .i64 k/\∀j(h:j<ws.length),j<k->ws[j]=0\/ws[j]=1) (fun i _=>ws.length-(intOf i).toNat)
 case atStart=>exact⟨rfl,0,Nat.zero_le _,rfl,fun j _ I=>by omega⟩
 case round=>
  obtain⟨rfl,k,R,rfl,D⟩:=hrel;have K:Hid (∀j(h:j<ws.length),j<k->ws[j]=0\/ws[j]=1):=D;by_cases E:k<ws.length
  ·obtain⟨P,S,M,N,Q⟩:=L.o k E;subst M;by_cases A:ws[k]=0\/ws[k]=1
   ·have G:Hid (∀j(h:j<ws.length),j<k+1->ws[j]=0\/ws[j]=1):=fun j h I=>by
     by_cases J:j=k
     ·subst J;exact A
     ·exact K.o j h (by omega)
    have C:Hid (ws[k]=0\/ws[k]=1):=A;go_wp2_with fail;refine(k6q _ C.o _).mono ?_;rintro e O⟨rfl,rfl⟩;go_wp2
    go_roundw
    case rel=>exact⟨by trivial,k+1,by omega,by go_num,G.o⟩
    case measure=>simp[intOf];omega
   ·have C:Hid (¬(ws[k]=0\/ws[k]=1)):=A;go_wp2_with fail;refine(k3m _ (fun h=>C.o (.inl h)) (fun h=>C.o (.inr h)) _).mono ?_;rintro e O⟨rfl,rfl⟩;go_wp2;go_ret;exact⟨.inr ⟨fun B=>C.o (B _ (List.getElem_mem E)),k,rfl⟩,rfl⟩
  ·have B:q3n ws:=fun c hc=>by
    obtain⟨j,I,rfl⟩:=List.getElem_of_mem hc;exact K.o j I (by omega)
   have H:Hid (q3n ws):=B;go_wp2;go_ret;exact⟨.inl ⟨H.o,rfl⟩,rfl⟩
theorem g1t(ws:List Int)(wa:Option Addr)(wc:Nat)(w:World)(hI:q9s w wa ws)(hl:ws.length<=9223372036854775807)(h:q3n ws):
  Cw 196 #[.slice wa ws.length wc,.func (.func 197) #[] #[]] w (.bool false):=by
 unfold Cw;have B:Hid (q9s w wa ws):=hI;have H:Hid (q3n ws):=h;go_in;go_wp2_with fail;refine(z0x ws wa wc _ B.o hl).mono ?_;rintro e C⟨A,rfl⟩;rcases A with⟨_,rfl⟩|⟨A,_⟩
 ·go_wp2;go_ret;exact⟨rfl,rfl⟩
 ·exact absurd H.o A
theorem y7m(ws:List Int)(wa:Option Addr)(wc:Nat)(w:World)(hI:q9s w wa ws)(hl:ws.length<=9223372036854775807)(h:¬q3n ws):
  Cw 196 #[.slice wa ws.length wc,.func (.func 197) #[] #[]] w (.bool true):=by
 unfold Cw;have B:Hid (q9s w wa ws):=hI;have H:Hid (¬q3n ws):=h;go_in;go_wp2_with fail;refine(z0x ws wa wc _ B.o hl).mono ?_;rintro e D⟨A,rfl⟩;rcases A with⟨A,_⟩|⟨_,k,rfl⟩
 ·exact absurd A H.o
 ·have C:(0:Int)<=(k:Int):=by omega
  go_wp2;go_ret;exact⟨rfl,rfl⟩
theorem g0i(B b s be bf:Nat)(_hb:s<B/\be<B/\bf<B)(hB:B<=b)(ds:List Nd)(a:Option Addr)(cap:Nat)(_hl:ds.length<=400)(tx:ByteArray)(n:Int):q4g B b s be bf ds a cap (⟨5,tx,n⟩::[]) (fun _ ws=>.ok ([],ws)):=by
 intro i r Q ws K wc l w H E U _ J C D I;obtain⟨d,R,S⟩:=q1z (x:=⟨5,tx,n⟩) (A:=[]++r) H;obtain⟨V,c,M,N,P⟩:=E.nd i d;subst c;rw[R]at M N P;dsimp only at M N P;have k:=C.c0;have m:=C.c1;have o:=C.c2;have p:=C.c5;have f:=C.lt;have g:s<w.heap.size:=by omega
 have G:B<=w.heap.size:=by omega
 have e:(i:Int)<(ds.length:Int):=by omega
 have j:Hid (ds.drop i=⟨5,tx,n⟩::([]++r)):=H;have X:Hid (ds.drop (i+1)=[]++r):=S;have h:Hid (LC B s be bf (some ⟨s,V,none⟩) ds w):=E;have Y:Hid (q2s B w K ws):=U;have Z:Hid (WS B b (z1c be bf ds.length cap (some ⟨s,V,none⟩)) l (.slice K ws.length wc) w):=C;have L:Hid (∀O:Obj,Below B w (w.alloc O)):=fun O=>(Below.refl _ w).alloc G O
 clear E U C H R S;simp only[length_cons,length_nil]at D I;go_in;go_wp2;go_ret;exact⟨⟨rfl,K,wc,by rw[List.append_nil];exact Z.o.alloc _,Y.o.W (L.o _),J⟩,L.o _⟩
theorem g0e(B b s be bf:Nat)(_hb:s<B/\be<B/\bf<B)(hB:B<=b)(ds:List Nd)(a:Option Addr)(cap:Nat)(_hl:ds.length<=400)(tx:ByteArray)(n:Int)(ht:tx.size<=20):q4g B b s be bf ds a cap (⟨1,tx,n⟩::[]) (fun _ ws=>.ok (tx.data.toList,ws)):=by
 intro i r R ws M wc l w J G V _ L C D K;obtain⟨h,S,U⟩:=q1z (x:=⟨1,tx,n⟩) (A:=[]++r) J;obtain⟨X,f,N,P,Q⟩:=G.nd i h;subst f;rw[S]at N P Q;dsimp only at N P Q;have t:=C.c0;have u:=C.c1;have v:=C.c2;have y:=C.c5;have k:=C.lt;have m:s<w.heap.size:=by omega
 have I:B<=w.heap.size:=by omega
 have j:(i:Int)<(ds.length:Int):=by omega
 have q:Hid (ds.drop i=⟨1,tx,n⟩::([]++r)):=J;have Z:Hid (ds.drop (i+1)=[]++r):=U;have p:Hid (LC B s be bf (some ⟨s,X,none⟩) ds w):=G;have c:Hid (q2s B w M ws):=V;have d:Hid (WS B b (z1c be bf ds.length cap (some ⟨s,X,none⟩)) l (.slice M ws.length wc) w):=C;have Y:Hid (∀O:Obj,Below B w (w.alloc O)):=fun O=>(Below.refl _ w).alloc I O
 clear G V C J S U;simp only[length_cons,length_nil]at D K;go_in;go_wp2_with fail
 go_region_with (go_at_call 33;refine(g0o (WS.drew (d.o.alloc _)) hB tx (by omega)).mono ?_;rintro e o⟨⟨z,rfl⟩,g,H⟩)
 all_goals
  go_wp2;go_ret;have E:Below B w o:=(Below.drew (Y.o _)).trans H;exact⟨⟨rfl,M,wc,g,c.o.W E,L⟩,E⟩
theorem g0f(B b s be bf:Nat)(_hb:s<B/\be<B/\bf<B)(hB:B<=b)(ds:List Nd)(a:Option Addr)(cap:Nat)(_hl:ds.length<=400)(tx:ByteArray)(n:Int):q4g B b s be bf ds a cap (⟨2,tx,n⟩::[]) (fun deep ws=>.ok (10::replicate deep 32,ws)):=by
 intro i r deep ws v wc l w X V o _ P E D N;obtain⟨p,j,k⟩:=q1z (x:=⟨2,tx,n⟩) (A:=[]++r) X;obtain⟨o0,m,Q,R,S⟩:=V.nd i p;subst m;rw[j]at Q R S;dsimp only at Q R S;have c0:=E.c0;have c1:=E.c1;have c2:=E.c2;have c5:=E.c5;have t:=E.lt;have u:s<w.heap.size:=by omega
 have L:B<=w.heap.size:=by omega
 have q:(i:Int)<(ds.length:Int):=by omega
 have HD:=hid X;have Z:=hid k;have y:=hid V;have c:=hid o;have h:=hid E;have Y:Hid (∀O:Obj,Below B w (w.alloc O)):=fun O=>(Below.refl _ w).alloc L O
 simp only[length_cons,length_nil]at D N;have M:(⟨(replicate deep 32).toArray⟩:ByteArray).size<=3300:=by rw[<-q1a];simp;omega
 have C:∀W:World,Calls prog 227 #[.string ⟨#[32]⟩,.int .i64 deep] W fun e w'=>e=.returned (.string ⟨(replicate deep 32).toArray⟩)/\Below W W w':=fun W=>z5n deep (by omega) W
 generalize I:(⟨(replicate deep 32).toArray⟩:ByteArray)=rs at M C;have f:=hid I;have d:=hid C;have g:Hid (l++(⟨#[10]⟩++rs:ByteArray).data.toList=l++10::replicate deep 32):=(show _=_ by rw[<-I];simp);have J:Hid (l.length+(⟨#[10]⟩++rs:ByteArray).size<=2000000000):=(show _<=_ by rw[<-q1a];simp;omega);go_in;go_wp2_with fail
 go_region_with (first
  | (go_at_call 227;refine(d.o _).mono ?_;rintro e w2⟨rfl,H⟩)
  | (go_at_call 33;refine(g0o (WS.W (WS.drew (h.o.alloc _)) H) hB _ J.o).mono ?_;rintro e w3⟨⟨z,rfl⟩,U,K⟩))
 all_goals
  go_wp2;go_ret;have G:=((Below.drew (Y.o _)).trans (H.mono (by simp;omega))).trans K;rw[g.o]at U;exact⟨⟨rfl,v,wc,U,c.o.W G,P⟩,G⟩
theorem g0g(B b s be bf:Nat)(_hb:s<B/\be<B/\bf<B)(hB:B<=b)(ds:List Nd)(a:Option Addr)(cap:Nat)(_hl:ds.length<=400)(tx:ByteArray)(n:Int):q4g B b s be bf ds a cap (⟨3,tx,n⟩::[]) (fun deep ws=>.ok (10::replicate deep 32,ws)):=by
 intro i r deep ws v wc l w X V o _ P E D N;obtain⟨p,j,k⟩:=q1z (x:=⟨3,tx,n⟩) (A:=[]++r) X;obtain⟨o0,m,Q,R,S⟩:=V.nd i p;subst m;rw[j]at Q R S;dsimp only at Q R S;have c0:=E.c0;have c1:=E.c1;have c2:=E.c2;have c5:=E.c5;have t:=E.lt;have u:s<w.heap.size:=by omega
 have L:B<=w.heap.size:=by omega
 have q:(i:Int)<(ds.length:Int):=by omega
 have HD:=hid X;have Z:=hid k;have y:=hid V;have c:=hid o;have h:=hid E;have Y:Hid (∀O:Obj,Below B w (w.alloc O)):=fun O=>(Below.refl _ w).alloc L O
 simp only[length_cons,length_nil]at D N;have M:(⟨(replicate deep 32).toArray⟩:ByteArray).size<=3300:=by rw[<-q1a];simp;omega
 have C:∀W:World,Calls prog 227 #[.string ⟨#[32]⟩,.int .i64 deep] W fun e w'=>e=.returned (.string ⟨(replicate deep 32).toArray⟩)/\Below W W w':=fun W=>z5n deep (by omega) W
 generalize I:(⟨(replicate deep 32).toArray⟩:ByteArray)=rs at M C;have f:=hid I;have d:=hid C;have g:Hid (l++(⟨#[10]⟩++rs:ByteArray).data.toList=l++10::replicate deep 32):=(show _=_ by rw[<-I];simp);have J:Hid (l.length+(⟨#[10]⟩++rs:ByteArray).size<=2000000000):=(show _<=_ by rw[<-q1a];simp;omega);go_in;go_wp2_with fail
 go_region_with (first
  | (go_at_call 227;refine(d.o _).mono ?_;rintro e w2⟨rfl,H⟩)
  | (go_at_call 33;refine(g0o (WS.W (WS.drew (h.o.alloc _)) H) hB _ J.o).mono ?_;rintro e w3⟨⟨z,rfl⟩,U,K⟩))
 all_goals
  go_wp2;go_ret;have G:=((Below.drew (Y.o _)).trans (H.mono (by simp;omega))).trans K;rw[g.o]at U;exact⟨⟨rfl,v,wc,U,c.o.W G,P⟩,G⟩
theorem g0h(B b s be bf:Nat)(_hb:s<B/\be<B/\bf<B)(hB:B<=b)(ds:List Nd)(a:Option Addr)(cap:Nat)(_hl:ds.length<=400)(tx:ByteArray)(n:Int):q4g B b s be bf ds a cap (⟨4,tx,n⟩::[]) (fun deep ws=>.ok (10::replicate deep 32,ws)):=by
 intro i r deep ws v wc l w X V o _ P E D N;obtain⟨p,j,k⟩:=q1z (x:=⟨4,tx,n⟩) (A:=[]++r) X;obtain⟨o0,m,Q,R,S⟩:=V.nd i p;subst m;rw[j]at Q R S;dsimp only at Q R S;have c0:=E.c0;have c1:=E.c1;have c2:=E.c2;have c5:=E.c5;have t:=E.lt;have u:s<w.heap.size:=by omega
 have L:B<=w.heap.size:=by omega
 have q:(i:Int)<(ds.length:Int):=by omega
 have HD:=hid X;have Z:=hid k;have y:=hid V;have c:=hid o;have h:=hid E;have Y:Hid (∀O:Obj,Below B w (w.alloc O)):=fun O=>(Below.refl _ w).alloc L O
 simp only[length_cons,length_nil]at D N;have M:(⟨(replicate deep 32).toArray⟩:ByteArray).size<=3300:=by rw[<-q1a];simp;omega
 have C:∀W:World,Calls prog 227 #[.string ⟨#[32]⟩,.int .i64 deep] W fun e w'=>e=.returned (.string ⟨(replicate deep 32).toArray⟩)/\Below W W w':=fun W=>z5n deep (by omega) W
 generalize I:(⟨(replicate deep 32).toArray⟩:ByteArray)=rs at M C;have f:=hid I;have d:=hid C;have g:Hid (l++(⟨#[10]⟩++rs:ByteArray).data.toList=l++10::replicate deep 32):=(show _=_ by rw[<-I];simp);have J:Hid (l.length+(⟨#[10]⟩++rs:ByteArray).size<=2000000000):=(show _<=_ by rw[<-q1a];simp;omega);go_in;go_wp2_with fail
 go_region_with (first
  | (go_at_call 227;refine(d.o _).mono ?_;rintro e w2⟨rfl,H⟩)
  | (go_at_call 33;refine(g0o (WS.W (WS.drew (h.o.alloc _)) H) hB _ J.o).mono ?_;rintro e w3⟨⟨z,rfl⟩,U,K⟩))
 all_goals
  go_wp2;go_ret;have G:=((Below.drew (Y.o _)).trans (H.mono (by simp;omega))).trans K;rw[g.o]at U;exact⟨⟨rfl,v,wc,U,c.o.W G,P⟩,G⟩
theorem g0j(B b s be bf:Nat)(hb:s<B/\be<B/\bf<B)(hB:B<=b)(ds:List Nd)(a:Option Addr)(cap:Nat)(hl:ds.length<=400)(tx:ByteArray)(n:Int)(A C:List Nd)(f g:Nat->List Int->Except Int (List UInt8 × List Int))(hA:q4g B b s be bf ds a cap A f)(hG:q4g B b s be bf ds a cap C g)(hE:∀i r,ds.drop i=A++r->r≠[]->∃t:Tr,t.Wf/\A=t.N)(hp:C≠[])(K:∀deep ws u v,f deep ws=.ok (u,v)->deep+8*A.length<=3300->u.length<=4000*A.length)(Z:∀deep ws u v,q3n ws->f deep ws=.ok (u,v)->q3n v):q4g B b s be bf ds a cap (⟨6,tx,n⟩::(A++C)) (q7a f g):=by
 intro i r deep ws wa wc l w hd hC hI k Ae P R Ac;obtain⟨hi,e1,e2⟩:=q1z (x:=⟨6,tx,n⟩) (A:=(A++C)++r) hd;obtain⟨o0,ea,d1,d2,d3⟩:=hC.nd i hi;subst ea;rw[e1]at d1 d2 d3;dsimp only at d1 d2 d3;have c0:=P.c0;have c1:=P.c1;have c2:=P.c2;have c5:=P.c5;have Aj:=P.lt;have Ak:s<w.heap.size:=by omega
 have Ab:B<=w.heap.size:=by omega
 have Ai:(i:Int)<(ds.length:Int):=by omega
 have HD:=hid hd;have y:=hid e2;have HC:=hid hC;have HI:=hid hI;have HW:=hid P;have m:Hid (∀O:Obj,Below B w (w.alloc O)):=fun O=>(Below.refl _ w).alloc Ab O
 clear hC hI P hd e1 e2;simp only[length_cons,length_append]at R Ac;have HF:=hid hA;have HG:=hid hG;have HX:Hid (((i+1:Nat):Int)=(i:Int)+1):=(show _=_ by omega);have X:=hid k;have H:=y.o;rw[List.append_assoc]at H;have M:=hid H;obtain⟨t,ht,et⟩:=hE _ _ H (fun h=>hp (List.append_eq_nil_iff.1 h).1);have HT:Hid (t.Wf/\A=t.N):=⟨ht,et⟩
 have Ah:(i:Int)+1<(ds.length:Int):=by
  have:=congrArg length H
  have J:=List.length_pos_iff.2 hp;rw[List.length_drop,length_append,length_append]at this;omega
 have HL:=hid K;have q:=hid Z;clear hA hG k H ht et hE K Z hp;go_in;go_wp2_with fail;rw[<-HX.o];refine(HF.o (i+1) (C++r) deep ws wa wc l _ M.o (HC.o.W hb (m.o _)) (HI.o.W (m.o _)) X.o Ae (HW.o.alloc _) (by omega) (by omega)).mono ?_;rintro e w2⟨J,Q⟩;cases D:f deep ws with
 | error er=>
  rw[D]at J;obtain⟨E,rfl⟩:=J;have V:=hid E;rw[q0q E];clear E;go_wp2;go_ret;refine⟨?_,(m.o _).trans Q⟩;rw[q7a,D];exact⟨V.o,by rw[q0q V.o];rfl⟩
 | ok p=>
  obtain⟨u0,o⟩:=p;rw[D]at J;obtain⟨rfl,Af,Ag,S,j,Ad⟩:=J;have L:=hid ((m.o _).trans Q);have U:=hid (HC.o.W hb L.o);have Aa:=hid S;have z:=hid j;have g1:=S.c1;have Al:=HL.o deep ws u0 o D (by omega);have Y:=hid (q.o deep ws u0 o X.o D)
  have ge:w2.cell? ⟨be,i+1,none⟩=some (.int .i64 ((i+1+A.length:Nat):Int)):=by
   have d:=M.o;rw[HT.o.2]at d⊢;exact(U.o.kn (i+1) t (C++r) (Nat.zero_le _) HT.o.1 d).1
  have I:=hid D;clear S j Q D;go_wp2_with fail;refine(HG.o (i+1+A.length) r deep o Af Ag (l++u0) _ (z9e M.o) U.o z.o Y.o Ad Aa.o (by omega) (by rw[length_append];omega)).mono ?_;rintro e w3⟨J,c⟩;cases G:g deep o with
  | error er=>
   rw[G]at J;obtain⟨E,rfl⟩:=J;have V:=hid E;rw[q0q E];clear E;go_wp2;go_ret;refine⟨?_,(L.o.trans c)⟩;rw[q7a,I.o];dsimp only;rw[G];exact⟨V.o,by rw[q0q V.o];rfl⟩
  | ok p=>
   obtain⟨u,v⟩:=p;rw[G]at J;obtain⟨rfl,h3⟩:=J;have H3:=hid h3;clear h3;go_wp2;go_ret;refine⟨?_,(L.o.trans c)⟩;rw[q7a,I.o];dsimp only;rw[G];rw[List.append_assoc]at H3;exact⟨rfl,H3.o⟩
theorem g0k(B b s be bf:Nat)(hb:s<B/\be<B/\bf<B)(hB:B<=b)(ds:List Nd)(a:Option Addr)(cap:Nat)(hl:ds.length<=400)(tx:ByteArray)(n:Int)(Ac:0<=n)(Ad:n<=8)(A:List Nd)(f:Nat->List Int->Except Int (List UInt8 × List Int))(hA:q4g B b s be bf ds a cap A f):q4g B b s be bf ds a cap (⟨7,tx,n⟩::A) (fun deep ws=>f (deep+n.toNat) ws):=by
 intro i r deep ws V wc l w R P j I U D E S;obtain⟨hi,d,g⟩:=q1z (x:=⟨7,tx,n⟩) (A:=A++r) R;obtain⟨L,ea,Y,Z,c⟩:=P.nd i hi;subst ea;rw[d]at Y Z c;dsimp only at Y Z c;have c0:=D.c0;have c1:=D.c1;have c2:=D.c2;have c5:=D.c5;have Ab:=D.lt;have Ae:s<w.heap.size:=by omega
 have Q:B<=w.heap.size:=by omega
 have Aa:(i:Int)<(ds.length:Int):=by omega
 have HD:Hid (ds.drop i=⟨7,tx,n⟩::(A++r)):=R;have M:Hid (ds.drop (i+1)=A++r):=g;have o:Hid (LC B s be bf (some ⟨s,L,none⟩) ds w):=P;have t:Hid (q2s B w V ws):=j;have y:Hid (WS B b (z1c be bf ds.length cap (some ⟨s,L,none⟩)) l (.slice V ws.length wc) w):=D;have J:Hid (∀O:Obj,Below B w (w.alloc O)):=fun O=>(Below.refl _ w).alloc Q O
 clear P j D R d g;simp only[length_cons]at E S;have q:Hid (q4g B b s be bf ds (some ⟨s,L,none⟩) cap A f):=hA;have z:Hid (((i+1:Nat):Int)=(i:Int)+1):=(show _=_ by omega);have HY:Hid (((deep+n.toNat:Nat):Int)=(deep:Int)+n):=(show _=_ by omega);have N:Hid (q3n ws):=I;clear hA I;go_in;go_wp2_with fail;rw[<-z.o,<-HY.o];refine(q.o (i+1) r (deep+n.toNat) ws V wc l _ M.o (o.o.W hb (J.o _)) (t.o.W (J.o _)) N.o U (y.o.alloc _) (by omega) (by omega)).mono ?_;rintro e k⟨K,H⟩;cases C:f (deep+n.toNat) ws with
 | error er=>
  rw[C]at K;obtain⟨G,rfl⟩:=K;have X:Hid (er≠0):=G;rw[q0q G];clear G;go_wp2;go_ret;refine⟨?_,(J.o _).trans H⟩;rw[C];exact⟨X.o,by rw[q0q X.o];rfl⟩
 | ok p=>
  obtain⟨u,v⟩:=p;rw[C]at K;obtain⟨rfl,h⟩:=K;have m:Hid (∃wa' wc',WS B b (z1c be bf ds.length cap (some ⟨s,L,none⟩)) (l++u) (.slice wa' v.length wc') k/\q2s B k wa' v/\v.length<=wc'):=h;clear h;go_wp2;go_ret;refine⟨?_,(J.o _).trans H⟩;rw[C];exact⟨rfl,m.o⟩
theorem g0l(B b s be bf:Nat)(hb:s<B/\be<B/\bf<B)(hB:B<=b)(ds:List Nd)(a:Option Addr)(cap:Nat)(_hl:ds.length<=400)(tx:ByteArray)(n:Int)(A:List Nd)(f:Nat->List Int->Except Int (List UInt8 × List Int))(hA:j4l 228 B b s be bf ds a cap (⟨8,tx,n⟩::A) f):q4g B b s be bf ds a cap (⟨8,tx,n⟩::A) (f):=by
 intro i r D Z wa wc l w Y X z N Q G E P;obtain⟨hi,o,q⟩:=q1z (x:=⟨8,tx,n⟩) (A:=A++r) Y;obtain⟨o0,t,S,U,V⟩:=X.nd i hi;subst t;rw[o]at S U V;dsimp only at S U V;have c0:=G.c0;have c1:=G.c1;have c2:=G.c2;have c5:=G.c5;have Ab:=G.lt;have Ac:s<w.heap.size:=by omega
 have M:B<=w.heap.size:=by omega
 have Aa:(i:Int)<(ds.length:Int):=by omega
 have g:=hid Y;have h:=hid q;have d:=hid X;have k:=hid z;have m:=hid G;have J:Hid (∀O:Obj,Below B w (w.alloc O)):=fun O=>(Below.refl _ w).alloc M O
 have j:=hid hA;have L:=hid N;go_in;go_wp2_with fail;refine(j.o i r D Z wa wc l _ g.o (d.o.W hb (J.o _)) (k.o.W (J.o _)) L.o Q (m.o.alloc _) E P).mono ?_;rintro e w2⟨K,H⟩;cases C:f D Z with
 | error er=>
  rw[C]at K;obtain⟨I,rfl⟩:=K;have R:=hid I;rw[q0q I];go_wp2;go_ret;refine⟨?_,((J.o _).trans H)⟩;rw[C];exact⟨R.o,by rw[q0q R.o];rfl⟩
 | ok p=>
  obtain⟨u,v⟩:=p;rw[C]at K;obtain⟨rfl,y⟩:=K;have c:=hid y;go_wp2;go_ret;refine⟨?_,((J.o _).trans H)⟩;rw[C];exact⟨rfl,c.o⟩
theorem g0m(B b s be bf:Nat)(hb:s<B/\be<B/\bf<B)(hB:B<=b)(ds:List Nd)(a:Option Addr)(cap:Nat)(_hl:ds.length<=400)(tx:ByteArray)(n:Int)(A C:List Nd)(f:Nat->List Int->Except Int (List UInt8 × List Int))(hA:j4l 228 B b s be bf ds a cap (⟨9,tx,n⟩::(A++C)) f):q4g B b s be bf ds a cap (⟨9,tx,n⟩::(A++C)) (f):=by
 intro i r E c wa wc l w Z Y hI P R H G Q;obtain⟨hi,q,t⟩:=q1z (x:=⟨9,tx,n⟩) (A:=(A++C)++r) Z;obtain⟨o0,y,U,V,X⟩:=Y.nd i hi;subst y;rw[q]at U V X;dsimp only at U V X;have c0:=H.c0;have c1:=H.c1;have c2:=H.c2;have c5:=H.c5;have Ab:=H.lt;have Ac:s<w.heap.size:=by omega
 have N:B<=w.heap.size:=by omega
 have Aa:(i:Int)<(ds.length:Int):=by omega
 have h:=hid Z;have j:=hid t;have g:=hid Y;have m:=hid hI;have o:=hid H;have K:Hid (∀O:Obj,Below B w (w.alloc O)):=fun O=>(Below.refl _ w).alloc N O
 have k:=hid hA;have M:=hid P;go_in;go_wp2_with fail;refine(k.o i r E c wa wc l _ h.o (g.o.W hb (K.o _)) (m.o.W (K.o _)) M.o R (o.o.alloc _) G Q).mono ?_;rintro e w2⟨L,I⟩;cases D:f E c with
 | error er=>
  rw[D]at L;obtain⟨J,rfl⟩:=L;have S:=hid J;rw[q0q J];go_wp2;go_ret;refine⟨?_,((K.o _).trans I)⟩;rw[D];exact⟨S.o,by rw[q0q S.o];rfl⟩
 | ok p=>
  obtain⟨u,v⟩:=p;rw[D]at L;obtain⟨rfl,z⟩:=L;have d:=hid z;go_wp2;go_ret;refine⟨?_,((K.o _).trans I)⟩;rw[D];exact⟨rfl,d.o⟩
theorem j0r{b:Nat}{wa:Option Addr}{wc:Nat}(i A:Int)(w:World)(c5:w.cell? ⟨b,5,none⟩=some (.slice wa 0 wc)):
  Cw 228 #[.pointer (some ⟨b,0,none⟩),.int .i64 i,.int .i64 A] w (q2m 2):=by
 unfold Cw;rw[k2d];go_in;go_wp2;go_ret;exact⟨rfl,rfl⟩
theorem y9y{b s be b0 o0 o1 n cap wc:Nat}(i A m:Nat)(w:World)(_hbb:b0≠b)(K:s≠b)(E:be≠b)(_hn:n<=400)(G:(i:Int)<(n:Int))
  (c0:w.cell? ⟨b,0,none⟩=some (.slice (some ⟨s,o0,none⟩) n cap)) (d1:w.cell? ⟨s,o0+i*3,none⟩=some (.int .i64 8)) (_c1:w.cell? ⟨b,1,none⟩=some (.slice (some ⟨be,0,none⟩) n n))
  (c5:w.cell? ⟨b,5,none⟩=some (.slice (some ⟨b0,o1,none⟩) (m+1) wc)) (f5:w.frozen? ⟨b,5,none⟩=false) (L:m+1<=wc) (x1:w.cell? ⟨b0,o1,none⟩=some (.int .i64 0)) (Q:Value->World->Prop)
  (H:Calls prog 248 #[.pointer (some ⟨b,0,none⟩),.int .i64 i] (w.setCell ⟨b,5,none⟩ (.slice (if wc=1 then some ⟨b0,o1,none⟩else some ⟨b0,o1+1,none⟩) m (wc-1))) fun e w'=>∃v,e=.returned v/\Q v w'):
  Calls prog 228 #[.pointer (some ⟨b,0,none⟩),.int .i64 i,.int .i64 A] w fun e w'=>∃v,e=.returned v/\Q v w':=by
 have J:(1:Int)<=(m:Int)+1:=by omega
 have I:=beq_eq_false_iff_ne.2 (by omega);by_cases D:wc=1
 ·rw[if_pos D]at H;obtain rfl:m=0:=by omega
  subst D;have B:=hid H;go_in;go_wp2_with fail;refine B.o.mono ?_;rintro e M⟨v,rfl,C⟩;go_wp2;go_ret;exact⟨_,rfl,C⟩
 ·rw[if_neg D]at H;have B:=hid H;go_in;go_wp2_with fail;refine B.o.mono ?_;rintro e M⟨v,rfl,C⟩;go_wp2;go_ret;exact⟨_,rfl,C⟩
theorem y9z{b s be b0 o0 o1 n cap wc:Nat}(i A m:Nat)(w:World)(_hbb:b0≠b)(K:s≠b)(E:be≠b)(hn:n<=400)(G:(i:Int)<(n:Int))
  (c0:w.cell? ⟨b,0,none⟩=some (.slice (some ⟨s,o0,none⟩) n cap)) (d1:w.cell? ⟨s,o0+i*3,none⟩=some (.int .i64 8)) (_c1:w.cell? ⟨b,1,none⟩=some (.slice (some ⟨be,0,none⟩) n n))
  (c5:w.cell? ⟨b,5,none⟩=some (.slice (some ⟨b0,o1,none⟩) (m+1) wc)) (f5:w.frozen? ⟨b,5,none⟩=false) (L:m+1<=wc) (x1:w.cell? ⟨b0,o1,none⟩=some (.int .i64 1)) (Q:Value->World->Prop)
  (H:Calls prog 199 #[.pointer (some ⟨b,0,none⟩),.int .i64 ((i:Int)+1),.int .i64 A] (w.setCell ⟨b,5,none⟩ (.slice (if wc=1 then some ⟨b0,o1,none⟩else some ⟨b0,o1+1,none⟩) m (wc-1))) fun e w'=>∃v,e=.returned v/\Q v w'):
  Calls prog 228 #[.pointer (some ⟨b,0,none⟩),.int .i64 i,.int .i64 A] w fun e w'=>∃v,e=.returned v/\Q v w':=by
 have J:(1:Int)<=(m:Int)+1:=by omega
 have I:=beq_eq_false_iff_ne.2 (by omega);by_cases D:wc=1
 ·rw[if_pos D]at H;obtain rfl:m=0:=by omega
  subst D;have B:=hid H;go_in;go_wp2_with fail;refine B.o.mono ?_;rintro e M⟨v,rfl,C⟩;go_wp2;go_ret;exact⟨_,rfl,C⟩
 ·rw[if_neg D]at H;have B:=hid H;go_in;go_wp2_with fail;refine B.o.mono ?_;rintro e M⟨v,rfl,C⟩;go_wp2;go_ret;exact⟨_,rfl,C⟩
theorem g0a{b s be b0 o0 o1 n cap wc:Nat}(i A m:Nat)(w:World)(_hbb:b0≠b)(K:s≠b)(E:be≠b)(hn:n<=400)(G:(i:Int)<(n:Int))
  (c0:w.cell? ⟨b,0,none⟩=some (.slice (some ⟨s,o0,none⟩) n cap)) (d1:w.cell? ⟨s,o0+i*3,none⟩=some (.int .i64 9)) (_c1:w.cell? ⟨b,1,none⟩=some (.slice (some ⟨be,0,none⟩) n n))
  (c5:w.cell? ⟨b,5,none⟩=some (.slice (some ⟨b0,o1,none⟩) (m+1) wc)) (f5:w.frozen? ⟨b,5,none⟩=false) (L:m+1<=wc) (x1:w.cell? ⟨b0,o1,none⟩=some (.int .i64 0)) (Q:Value->World->Prop)
  (H:Calls prog 199 #[.pointer (some ⟨b,0,none⟩),.int .i64 ((i:Int)+1),.int .i64 A] (w.setCell ⟨b,5,none⟩ (.slice (if wc=1 then some ⟨b0,o1,none⟩else some ⟨b0,o1+1,none⟩) m (wc-1))) fun e w'=>∃v,e=.returned v/\Q v w'):
  Calls prog 228 #[.pointer (some ⟨b,0,none⟩),.int .i64 i,.int .i64 A] w fun e w'=>∃v,e=.returned v/\Q v w':=by
 have J:(1:Int)<=(m:Int)+1:=by omega
 have I:=beq_eq_false_iff_ne.2 (by omega);by_cases D:wc=1
 ·rw[if_pos D]at H;obtain rfl:m=0:=by omega
  subst D;have B:=hid H;go_in;go_wp2_with fail;refine B.o.mono ?_;rintro e M⟨v,rfl,C⟩;go_wp2;go_ret;exact⟨_,rfl,C⟩
 ·rw[if_neg D]at H;have B:=hid H;go_in;go_wp2_with fail;refine B.o.mono ?_;rintro e M⟨v,rfl,C⟩;go_wp2;go_ret;exact⟨_,rfl,C⟩
theorem g0b{b s be b0 o0 o1 n cap wc:Nat}(i A m:Nat)(w:World)(_hbb:b0≠b)(L:s≠b)(E:be≠b)(hn:n<=400)(I:(i:Int)<(n:Int))(G:(i:Int)+1<(n:Int))(j:Nat)(e1:w.cell? ⟨be,i+1,none⟩=some (.int .i64 (j:Int)))
  (c0:w.cell? ⟨b,0,none⟩=some (.slice (some ⟨s,o0,none⟩) n cap)) (d1:w.cell? ⟨s,o0+i*3,none⟩=some (.int .i64 9)) (c1:w.cell? ⟨b,1,none⟩=some (.slice (some ⟨be,0,none⟩) n n))
  (c5:w.cell? ⟨b,5,none⟩=some (.slice (some ⟨b0,o1,none⟩) (m+1) wc)) (f5:w.frozen? ⟨b,5,none⟩=false) (M:m+1<=wc) (x1:w.cell? ⟨b0,o1,none⟩=some (.int .i64 1)) (Q:Value->World->Prop)
  (H:Calls prog 199 #[.pointer (some ⟨b,0,none⟩),.int .i64 (j:Int),.int .i64 A] (w.setCell ⟨b,5,none⟩ (.slice (if wc=1 then some ⟨b0,o1,none⟩else some ⟨b0,o1+1,none⟩) m (wc-1))) fun e w'=>∃v,e=.returned v/\Q v w'):
  Calls prog 228 #[.pointer (some ⟨b,0,none⟩),.int .i64 i,.int .i64 A] w fun e w'=>∃v,e=.returned v/\Q v w':=by
 have K:(1:Int)<=(m:Int)+1:=by omega
 have J:=beq_eq_false_iff_ne.2 (by omega);by_cases D:wc=1
 ·rw[if_pos D]at H;obtain rfl:m=0:=by omega
  subst D;have B:=hid H;go_in;go_wp2_with fail;refine B.o.mono ?_;rintro e N⟨v,rfl,C⟩;go_wp2;go_ret;exact⟨_,rfl,C⟩
 ·rw[if_neg D]at H;have B:=hid H;go_in;go_wp2_with fail;refine B.o.mono ?_;rintro e N⟨v,rfl,C⟩;go_wp2;go_ret;exact⟨_,rfl,C⟩
theorem Calls.valued{P:Program}{fn:Nat}{args:Array Value}{w:World}{Q:Value->World->Prop}{R:Ending->World->Prop}(h:Calls P fn args w fun e w'=>∃v,e=.returned v/\Q v w')(hR:∀v w',Q v w'->R (.returned v) w'):Calls P fn args w R:=
 h.mono fun _ _⟨v,he,hq⟩=>by rw[he];exact hR v _ hq
theorem z6d{B b:Nat}{pl:List Value}{A:Except Int (List UInt8 × List Int)}{l:List UInt8}{e:Ending}{w':World}(h:k1m B b pl A l e w'):∃v,e=.returned v/\k1m B b pl A l (.returned v) w':=by
 cases A with
 | error er=>obtain⟨C,rfl⟩:=h;exact⟨_,rfl,C,rfl⟩
 | ok p=>obtain⟨rfl,C⟩:=h;exact⟨_,rfl,rfl,C⟩
theorem v3a(B b s be bf:Nat)(hb:s<B/\be<B/\bf<B)(hB:B<=b)(ds:List Nd)(a:Option Addr)(cap:Nat)(hl:ds.length<=400)(P:ds.length<=cap)(tx:ByteArray)(n:Int)(t:Tr)(ht:Tr.Wf (.one ⟨8,tx,n⟩ t))(f:Nat->List Int->Except Int (List UInt8 × List Int))(hA:q4g B b s be bf ds a cap t.N f):
  j4l 228 B b s be bf ds a cap (⟨8,tx,n⟩::t.N) (q4u f t.line t.isFlat):=by
 intro i r C G wa wc l w Y u y U I E M m;have R:ds.drop i=(Tr.one ⟨8,tx,n⟩ t).N++r:=Y;obtain⟨hi,e1,e2⟩:=q1z (x:=⟨8,tx,n⟩) (A:=t.N++r) Y;obtain⟨o0,ea,Z,d2,d3⟩:=u.nd i hi;subst ea;rw[e1]at Z;have Ac:=E.lt;have Ab:B<=w.heap.size:=by omega
 have H:∀v,Below B w (w.setCell ⟨b,5,none⟩ v):=fun v=> Zb.setCell (p:=⟨b,5,none⟩) hB _
 simp only[length_cons]at M m;cases G with
 | nil=>
  refine(j0r i C w E.c5).mono ?_;rintro e J⟨rfl,rfl⟩;exact⟨⟨by decide,rfl⟩,Below.refl _ _⟩
 | cons c G=>
  obtain⟨q,o1,g,Aa,o⟩:=y 0 (by simp);subst g;have z:=y.slid (by simpa using I);simp only[Nat.add_zero,List.getElem_cons_zero]at o;simp only[length_cons]at E I;have V:q3n G:=fun d Y=>U d (by simp[Y])
  have S:G.length<=wc-1:=by omega
  generalize X:(if wc=1 then some (⟨q,o1,none⟩:Addr)else some ⟨q,o1+1,none⟩)=wa' at z;have K:=u.W hb (H (.slice wa' G.length (wc-1)));have O:=z.W (H (.slice wa' G.length (wc-1)));have L:=E.stored (.slice wa' G.length (wc-1));rcases U c (by simp)with k|k
  ·subst k;refine Calls.valued (Q:=fun v J=>k1m B b (z1c be bf ds.length cap (some ⟨s,o0,none⟩)) (q4u f t.line t.isFlat C (0::G)) l (.returned v) J/\Below B w J) ?_ (fun v J h=>h);refine y9y (be:=be) i C G.length w (by omega) (by omega) (by omega) hl (by omega) E.c0 Z E.c1 E.c5 E.f5 I o _ ?_;rw[X];cases hf:t.isFlat with
   | false=>
    refine(v9g B b s be bf ds _ cap i (.one ⟨8,tx,n⟩ t) r l _ _ ht R K L hf).mono ?_;rintro e w2⟨rfl,D⟩;refine⟨_,rfl,⟨?_,rfl⟩,(H _).trans D⟩;decide
   | true=>
    refine(v3k B b s be bf hb hB ds _ cap P hl i (.one ⟨8,tx,n⟩ t) r l _ _ ht R K L hf (by omega)).mono ?_;rintro e w2⟨rfl,j,D⟩;exact⟨_,rfl,⟨rfl,wa',wc-1,j,O.W D,S⟩,(H _).trans D⟩
  ·subst k;refine Calls.valued (Q:=fun v J=>k1m B b (z1c be bf ds.length cap (some ⟨s,o0,none⟩)) (q4u f t.line t.isFlat C (1::G)) l (.returned v) J/\Below B w J) ?_ (fun v J h=>h);refine y9z (be:=be) i C G.length w (by omega) (by omega) (by omega) hl (by omega) E.c0 Z E.c1 E.c5 E.f5 I o _ ?_;rw[X];refine(hA (i+1) r C G wa' (wc-1) l _ e2 K O V S L (by omega) (by omega)).mono ?_;rintro e w2⟨j,D⟩;obtain⟨v,rfl,h3⟩:=z6d j;exact⟨v,rfl,h3,(H _).trans D⟩
theorem v3b(B b s be bf:Nat)(hb:s<B/\be<B/\bf<B)(hB:B<=b)(ds:List Nd)(a:Option Addr)(cap:Nat)(hl:ds.length<=400)(tx:ByteArray)(n:Int)(t t':Tr)(ht:t.Wf)(f g:Nat->List Int->Except Int (List UInt8 × List Int))(hA:q4g B b s be bf ds a cap t.N f)(hG:q4g B b s be bf ds a cap t'.N g):
  j4l 228 B b s be bf ds a cap (⟨9,tx,n⟩::(t.N++t'.N)) (q4i f g):=by
 intro i r C D wa wc l w o k z S H E L q;obtain⟨hi,e1,e0⟩:=q1z (x:=⟨9,tx,n⟩) (A:=t.N++t'.N++r) o;have V:ds.drop (i+1)=t.N++(t'.N++r):=by rw[e0,List.append_assoc]
 have Ac:=q9v V;obtain⟨o0,ea,X,d2,d3⟩:=k.nd i hi;subst ea;rw[e1]at X;have Ad:=E.lt;have Ab:B<=w.heap.size:=by omega
 have G:∀v,Below B w (w.setCell ⟨b,5,none⟩ v):=fun v=> Zb.setCell (p:=⟨b,5,none⟩) hB _
 have k1:=(k.kn (i+1) t _ (Nat.zero_le _) ht V).1;simp only[length_cons,length_append]at L q;cases D with
 | nil=>
  refine(j0r i C w E.c5).mono ?_;rintro e J⟨rfl,rfl⟩;exact⟨⟨by decide,rfl⟩,Below.refl _ _⟩
 | cons c D=>
  obtain⟨y,o1,Y,Aa,u⟩:=z 0 (by simp);subst Y;have hS:=z.slid (by simpa using H);simp only[Nat.add_zero,List.getElem_cons_zero]at u;simp only[length_cons]at E H;have I:q3n D:=fun d o=>S d (by simp[o])
  have R:D.length<=wc-1:=by omega
  generalize U:(if wc=1 then some (⟨y,o1,none⟩:Addr)else some ⟨y,o1+1,none⟩)=wa' at hS;have M:=k.W hb (G (.slice wa' D.length (wc-1)));have O:=hS.W (G (.slice wa' D.length (wc-1)));have P:=E.stored (.slice wa' D.length (wc-1));rcases S c (by simp)with m|m
  ·subst m;refine Calls.valued (Q:=fun v J=>k1m B b (z1c be bf ds.length cap (some ⟨s,o0,none⟩)) (q4i f g C (0::D)) l (.returned v) J/\Below B w J) ?_ (fun v J h=>h);refine g0a (be:=be) i C D.length w (by omega) (by omega) (by omega) hl (by omega) E.c0 X E.c1 E.c5 E.f5 H u _ ?_;rw[U];refine(hA (i+1) _ C D wa' (wc-1) l _ V M O I R P (by omega) (by omega)).mono ?_;rintro e w2⟨Z,K⟩;obtain⟨v,rfl,j⟩:=z6d Z;exact⟨v,rfl,j,(G _).trans K⟩
  ·subst m;refine Calls.valued (Q:=fun v J=>k1m B b (z1c be bf ds.length cap (some ⟨s,o0,none⟩)) (q4i f g C (1::D)) l (.returned v) J/\Below B w J) ?_ (fun v J h=>h);refine g0b (be:=be) i C D.length w (by omega) (by omega) (by omega) hl (by omega) (by omega) (i+1+t.N.length) k1 E.c0 X E.c1 E.c5 E.f5 H u _ ?_;rw[U];refine(hG (i+1+t.N.length) r C D wa' (wc-1) l _ (z9e V) M O I R P (by omega) (by omega)).mono ?_;rintro e w2⟨Z,K⟩;obtain⟨v,rfl,j⟩:=z6d Z;exact⟨v,rfl,j,(G _).trans K⟩
theorem y8f{t:Tr}{A:Nat}{ws:List Int}{u:List UInt8}{v:List Int}(h:q3n ws)(e:t.lay A ws=.ok (u,v)):q3n v:=by
 obtain⟨p,_,rfl⟩:=q5v t A ws v u h e;exact fun c hc=>h c (by simp[hc])
theorem q7o(B b s be bf:Nat)(hb:s<B/\be<B/\bf<B)(hB:B<=b)(ds:List Nd)(a:Option Addr)(cap:Nat)(hl:ds.length<=400)(hcap:ds.length<=cap):∀t:Tr,t.Wf->q4g B b s be bf ds a cap t.N t.lay
 | .leaf ⟨op,tx,n⟩,h=>by
  obtain⟨_,_,_,_,h5,_⟩:=q2d h.1;rcases q4a h.1 h.2 with e|e|e|e|e
  all_goals (simp only at e;subst e)
  ·exact g0e B b s be bf hb hB ds a cap hl tx n (q4c (h5 rfl)).2
  ·exact g0f B b s be bf hb hB ds a cap hl tx n
  ·exact g0g B b s be bf hb hB ds a cap hl tx n
  ·exact g0h B b s be bf hb hB ds a cap hl tx n
  ·exact g0i B b s be bf hb hB ds a cap hl tx n
 | .one ⟨op,tx,n⟩ a',h=>by
  obtain⟨_,_,_,_,_,h6⟩:=q2d h.1;rcases q8h h.2.1 with e|e
  all_goals (simp only at e;subst e)
  ·exact g0k B b s be bf hb hB ds a cap hl tx n (h6 rfl).1 (h6 rfl).2 _ _ (q7o B b s be bf hb hB ds a cap hl hcap a' h.2.2)
  ·rw[k2n (x:=⟨8,tx,n⟩) rfl];exact g0l B b s be bf hb hB ds a cap hl tx n _ _ (v3a B b s be bf hb hB ds a cap hl hcap tx n a' h _ (q7o B b s be bf hb hB ds a cap hl hcap a' h.2.2))
 | .two ⟨op,tx,n⟩ a' c,h=>by
  rcases q7t h.2.1 with e|e
  all_goals (simp only at e;subst e)
  ·rw[j8b (x:=⟨6,tx,n⟩) rfl];exact g0j B b s be bf hb hB ds a cap hl tx n _ _ _ _ (q7o B b s be bf hb hB ds a cap hl hcap a' h.2.2.1) (q7o B b s be bf hb hB ds a cap hl hcap c h.2.2.2) (fun _ _ _ _=>⟨a',h.2.2.1,rfl⟩) (List.length_pos_iff.1 c.pos) (fun deep ws u v he hd=>q6c a' deep ws u v h.2.2.1 he hd) (fun deep ws u v h0 he=>y8f h0 he)
  ·rw[z7i (x:=⟨9,tx,n⟩) rfl];exact g0m B b s be bf hb hB ds a cap hl tx n _ _ _ (v3b B b s be bf hb hB ds a cap hl tx n a' c h.2.2.1 _ _ (q7o B b s be bf hb hB ds a cap hl hcap a' h.2.2.1) (q7o B b s be bf hb hB ds a cap hl hcap c h.2.2.2))
theorem v3q(ds:List Nd)(ws:List Int)(a wa:Option Addr)(cap wc:Nat)(w:World)(hN:q2b w a ds)(h:q3f ds≠0):
  Cb 166 #[.slice a ds.length cap,.slice wa ws.length wc] w (.tuple #[.string ⟨#[]⟩,q2m (q3f ds)]):=by
 unfold Cb;have A:Hid (q2b w a ds):=hN;have H:Hid (q3f ds≠0):=h;rw[q0q h];clear hN h;go_in;go_wp2_with fail;refine(q3e ds a cap _ A.o).mono ?_;rintro e C⟨rfl,B⟩;rw[q0q H.o];go_wp2;go_ret2;exact⟨rfl,B⟩
theorem k7m(ds:List Nd)(ws:List Int)(a wa:Option Addr)(cap wc:Nat)(w:World)(hN:q2b w a ds)(hI:q9s w wa ws)(hl:ws.length<=9223372036854775807)(h:q3f ds=0)(h1:¬q3n ws):
  Cb 166 #[.slice a ds.length cap,.slice wa ws.length wc] w (.tuple #[.string ⟨#[]⟩,q2m 1]):=by
 unfold Cb;have E:Hid (q2b w a ds):=hN;have D:Hid (q9s w wa ws):=hI;have H:Hid (q3f ds=0):=h;have C:Hid (¬q3n ws):=h1;rw[z7a];clear hN hI h h1;go_in;go_wp2_with fail;refine(q3e ds a cap _ E.o).mono ?_;rintro e G⟨rfl,B⟩;rw[H.o,q1n];have A:Hid (q9s G wa ws):=D.o.W B;go_wp2_with fail;refine(y7m ws wa wc _ A.o hl C.o).mono ?_;rintro e I⟨rfl,rfl⟩;go_wp2;go_ret2;exact⟨rfl,B⟩
theorem v9h(ds:List Nd)(t:Tr)(hd:ds=t.N)(ht:t.Wf)(ws:List Int)(a wa:Option Addr)(cap wc:Nat)(hc:ds.length<=cap)(q:ws.length<=wc)(w:World)(hN:q2b w a ds)(hI:q9s w wa ws)(hl:ws.length<=9223372036854775807)(h:q3f ds=0)(h1:q3n ws):
  Cb 166 #[.slice a ds.length cap,.slice wa ws.length wc] w (.tuple #[.string (shS (t.show ws)),q2m (shE (t.show ws))]):=by
 unfold Cb;have HN:Hid (q2b w a ds):=hN;have HI:Hid (q9s w wa ws):=hI;have H:Hid (q3f ds=0):=h;have y:Hid (q3n ws):=h1;have HT:Hid (t.Wf):=ht;have g:Hid (ds=t.N):=hd;obtain⟨h4,_,_⟩:=q5j h;have HS:Hid (t.show ws=match t.lay 0 ws with| .error e=>.error e| .ok (s,[])=>.ok s| .ok (_,_::_)=>.error 2):=j0a h1;have H0:Hid (ds≠[]):=(show ds≠[] by have:=t.pos;rw[<-hd]at this;exact List.length_pos_iff.1 this);clear hN hI h h1 ht hd;go_in;go_wp2_with fail;refine(q3e ds a cap _ HN.o).mono ?_;rintro e d⟨rfl,f⟩;rw[H.o,q1n];have HB:Hid (Below w w d):=f;have Q:Hid (q9s d wa ws):=HI.o.W f;obtain⟨s,o,Z⟩:=(HN.o.W f).s H0.o;have R:Hid (q1j s d a ds):=Z;clear f Z;go_wp2_with fail;refine(g1t ws wa wc _ Q.o hl y.o).mono ?_;rintro e A⟨rfl,rfl⟩;go_wp2_with fail;refine(k6p ds a cap s _ H.o R.o o).mono ?_;rintro e A⟨⟨J,K,rfl,V,X,Y⟩,C⟩;have P:Hid (Below w w A):=q0e HB.o Zl C;have z:Hid (Below d d A):=C;have k:Hid (q1j s A a ds):=R.o.kept (C.block s o);have i:Hid (q9s A wa ws):=Q.o.W C;have j:Hid (q9i A J K ds 0):=Y;have b:s<A.heap.size:=Nat.lt_of_lt_of_le o C.size
 have HL:Hid (∀O,O=Obj.cells #[.slice a ds.length cap,.slice (some ⟨J,0,none⟩) ds.length ds.length,.slice (some ⟨K,0,none⟩) ds.length ds.length,.pointer none,.slice none 0 0,.slice wa ws.length wc] 283->
   Calls prog 199 #[.pointer (some ⟨A,0,none⟩),.int .i64 0,.int .i64 0] (A.alloc O) fun e w'=>k1m A.heap.size A.heap.size (z1c J K ds.length cap a) (t.lay 0 ws) [] e w'/\Below A A w'):=by
  intro O hO;have S:Below A A (A.alloc O):= Zb.alloc Zl _;refine(q7o A.heap.size A.heap.size s J K ⟨b,V,X⟩ Zl ds a cap h4 hc t HT.o 0 [] 0 ws wa wc [] (A.alloc O) (by rw[g.o];simp) ⟨k.o.kept (S.block s b),j.o.kept (S.block J V) (S.block K X)⟩ (q2s.W i.o S) y.o q ?_ (by rw[<-g.o];omega) (by rw[<-g.o];simp;omega)).mono ?_
  ·subst hO;exact IsO.unused 283 A.heap.size A.heap.size _ (z1c J K ds.length cap a) [.slice wa ws.length wc] (heap_alloc_new A _)
  ·rintro e w'⟨h1,h2⟩;exact⟨h1,S.trans h2⟩
 clear Y C;go_wp2_with fail;refine(HL.o _ rfl).mono ?_;rintro e w4⟨G,U⟩;have L:Hid (Below w w w4):=q0e P.o Zl U;clear U;cases B:t.lay 0 ws with
 | error er=>
  rw[B]at G;have E:=HS.o;rw[B]at E;have D:Hid (t.show ws=.error er):=E;obtain⟨M,rfl⟩:=G;have l:Hid (er≠0):=M;rw[q0q M];clear M B E;go_wp2;go_ret2;refine⟨?_,L.o⟩;rw[D.o];show _=Ending.returned (.tuple #[.string ⟨#[]⟩,q2m er]);rw[q0q l.o];rfl
 | ok p=>
  obtain⟨u,r⟩:=p;rw[B]at G;have E:=HS.o;rw[B]at E;obtain⟨rfl,v,x,I,_,_⟩:=G;have m:Hid (WS A.heap.size A.heap.size (z1c J K ds.length cap a) ([]++u) (.slice v r.length x) w4):=I;have g5:=I.c5;cases r with
  | nil=>
   have D:Hid (t.show ws=.ok u):=E;simp only[length_nil]at g5;clear B E I;go_wp2_with fail;refine(v7j 283 A.heap.size A.heap.size 3 (z1c J K ds.length cap a) ([]++u) _ _ rfl m.o).mono ?_;rintro e w5⟨rfl,n⟩;go_wp2;go_ret2;refine⟨?_,L.o.trans (n.mono P.o.size)⟩;rw[D.o];rfl
  | cons c r=>
   have D:Hid (t.show ws=.error 2):=E;simp only[length_cons]at g5;have g0:(0:Int)<(r.length:Int)+1:=by omega
   clear B E I;go_wp2;go_ret2;refine⟨?_,L.o⟩;rw[D.o];rfl
theorem v3p(ds:List Nd)(ws:List Int)(a wa:Option Addr)(cap wc:Nat)(hc:ds.length<=cap)(B:ws.length<=wc)(hl:ws.length<=9223372036854775807)(w:World)(hN:q2b w a ds)(hI:q9s w wa ws):
  Cb 166 #[.slice a ds.length cap,.slice wa ws.length wc] w (.tuple #[.string (shS (q7j ds ws)),q2m (shE (q7j ds ws))]):=by
 unfold Cb;by_cases h:q3f ds=0
 ·obtain⟨C,_,_⟩:=q5j h;rw[z2w (q9u h) (q3w h) C];by_cases A:q3n ws
  ·exact v9h ds _ (q3w h) (q9u h) ws a wa cap wc hc B w hN hI hl h A
  ·have e:(y0c ds h).show ws=.error 1:=by
    unfold Tr.show;rw[if_neg (fun hh=>A (k5f.1 hh))]
   rw[e];exact k7m ds ws a wa cap wc w hN hI hl h A
 ·rw[k4b h];exact v3q ds ws a wa cap wc w hN h
theorem j5p(ds:List Nd)(ws:List Int)(a wa:Option Addr)(cap wc:Nat)(hc:ds.length<=cap)(A:ws.length<=wc)(hl:ws.length<=9223372036854775807)(w:World)(hN:q2b w a ds)(hI:q9s w wa ws):
  Cb 128 #[.slice a ds.length cap,.slice wa ws.length wc] w (.string (shS (q7j ds ws))):=by
 unfold Cb;have B:=hid (v3p ds ws a wa cap wc hc A hl w hN hI);generalize shS (q7j ds ws)=s at *;generalize q2m (shE (q7j ds ws))=v at *;go_in;go_wp2_with fail;refine B.o.mono ?_;rintro e D⟨rfl,C⟩;go_wp2;go_ret;exact⟨rfl,C⟩
def bE(ds:List Nd)(wd:Int):Int:=if q3f ds=0 then(if wd<0\/100<wd then 1 else 0)else q3f ds
open Classical in
noncomputable def bA(ds:List Nd)(wd:Int):Crs:=if h:q3f ds=0 then(if wd<0\/100<wd then((0,0),[])else bs wd.toNat 0 [(0,y0c ds h)])else((0,0),[])
noncomputable def bT(ds:List Nd)(wd:Int):ByteArray:=if bE ds wd=0 then shS (q7j ds (bA ds wd).2)else⟨#[]⟩
theorem v9t{ds:List Nd}{wd:Int}(h:bE ds wd≠0):bA ds wd=((0,0),[]):=by
 unfold bE at h;unfold bA
 split
 ·rename_i h0;rw[if_pos h0]at h
  split at h
  ·rename_i h1;rw[if_pos h1]
  ·exact absurd rfl h
 ·rfl
theorem j4t{ds:List Nd}{wd:Nat}{t:Tr}(ht:t.Wf)(e:ds=t.N)(hl:ds.length<=400)(hw:wd<=100):bE ds wd=0/\bA ds wd=bs wd 0 [(0,t)]:=by
 have h:q3f ds=0:=by rw[e];exact z1t ht (by rw[<-e];exact hl)
 have A:¬((wd:Int)<0\/(100:Int)<wd):=by omega
 refine⟨by rw[bE,if_pos h,if_neg A],?_⟩;rw[bA,dif_pos h,if_neg A,z9c h ht e,Int.toNat_natCast]
theorem y6a{t:Tr}(ht:t.Wf)(wd:Nat):vv (q0a t) wd 0 0=bs wd 0 [(0,t)]:=by rw[vv,(k0l ht).kont]
theorem v7u{w:World}{B B' e A n:Nat}{v:Value}{xs:List Value}(h:w.ownsRow B e A v n xs)(hB:B'<=B):w.ownsRow B' e A v n xs:=by
 refine⟨h.1,?_⟩;rcases h.2 with E|⟨g,c,D,rfl,G,C⟩
 ·exact .inl E
 ·exact .inr ⟨g,c,D,rfl,Nat.le_trans hB G,C⟩
theorem v0y(w:World)(B:Nat):w.ownsRow B 3 1 (.slice none 0 0) 0 (q0j []):=⟨rfl,.inl ⟨rfl,rfl⟩⟩
def z8i(ds:List Nd)(wd:Int)(w:World)(e:Ending)(w':World):Prop:=
 (∃wa wc,e=.returned (.tuple #[.string (bT ds wd),.slice wa (bA ds wd).2.length wc,.agg #[.int .i64 (bA ds wd).1.1,.int .i64 (bA ds wd).1.2],q2m (bE ds wd)])/\w'.ownsRow w.heap.size 3 1 (.slice wa (bA ds wd).2.length wc) (bA ds wd).2.length (q0j (bA ds wd).2))/\Below w w w'
theorem v4p(ds:List Nd)(wd:Int)(a:Option Addr)(cap:Nat)(w:World)(hN:q2b w a ds)(h:q3f ds≠0):
  Calls prog 88 #[.slice a ds.length cap,wd] w fun e w'=>z8i ds wd w e w':=by
 have D:bE ds wd=q3f ds:=by rw[bE,if_neg h]
 have J:=v9t (ds:=ds) (wd:=wd) (by rw[D];exact h);have K:bT ds wd=⟨#[]⟩:=by rw[bT,if_neg (by rw[D];exact h)]
 have I:Hid (∀O,q2b (w.alloc O) a ds):=fun O=>hN.W ((Below.refl _ w).alloc Zl O)
 have H:Hid (q3f ds≠0):=h;unfold z8i;rw[D,J,K,q0q h];go_in;go_wp2_with fail;refine(q3e ds a cap _ (I.o _)).mono ?_;rintro e C⟨rfl,G⟩;rw[q0q H.o];obtain⟨A,B⟩:=q0s G;have L:C.cell? w.heap.size=some (.int .i64 0):=(A _ _ (by simp)).trans (by simp[go_sem]);have M:C.cell? (w.heap.size,1)=some (.int .i64 0):=(A _ _ (by simp)).trans (by simp[go_sem]);have N:C.frozen? w.heap.size=false:=(B _ _ (by simp)).trans (by simp[go_sem]);have P:C.frozen? (w.heap.size,1)=false:=(B _ _ (by simp)).trans (by simp[go_sem]);have E:Below w w C:=((Below.refl _ w).alloc Zl _).trans (G.mono (by simp));go_wp2;refine bodyPost_ret (v:=.tuple #[.string ⟨#[]⟩,.slice none 0 0,.agg #[.int .i64 0,.int .i64 0],.iface 24 (q3f ds)]) (by simp[results,Tryz.results88,go_sem,L,M]) rfl ?_;exact⟨⟨none,0,rfl,v0y _ _⟩,(E.setCell (p:=w.heap.size) Zl _).setCell (p:=(w.heap.size,1)) Zl _⟩
theorem j0y(ds:List Nd)(wd:Int)(a:Option Addr)(cap:Nat)(w:World)(hN:q2b w a ds)(h:q3f ds=0)(hw:wd<0\/100<wd):
  Calls prog 88 #[.slice a ds.length cap,wd] w fun e w'=>z8i ds wd w e w':=by
 have D:bE ds wd=1:=by rw[bE,if_pos h,if_pos hw]
 have J:=v9t (ds:=ds) (wd:=wd) (by rw[D];decide);have K:bT ds wd=⟨#[]⟩:=by rw[bT,if_neg (by rw[D];decide)]
 have I:Hid (∀O,q2b (w.alloc O) a ds):=fun O=>hN.W ((Below.refl _ w).alloc Zl O)
 have H:Hid (q3f ds=0):=h;unfold z8i;rw[D,J,K,z7a];rcases hw with hw|hw
 case' inr=>have L:¬wd<0:=by omega
 all_goals
  go_in;go_wp2_with fail;refine(q3e ds a cap _ (I.o _)).mono ?_;rintro e C⟨rfl,G⟩;rw[H.o,q1n];obtain⟨A,B⟩:=q0s G;have M:C.cell? w.heap.size=some (.int .i64 0):=(A _ _ (by simp)).trans (by simp[go_sem]);have N:C.cell? (w.heap.size,1)=some (.int .i64 0):=(A _ _ (by simp)).trans (by simp[go_sem]);have P:C.frozen? w.heap.size=false:=(B _ _ (by simp)).trans (by simp[go_sem]);have Q:C.frozen? (w.heap.size,1)=false:=(B _ _ (by simp)).trans (by simp[go_sem]);have E:Below w w C:=((Below.refl _ w).alloc Zl _).trans (G.mono (by simp));go_wp2;refine bodyPost_ret (v:=.tuple #[.string ⟨#[]⟩,.slice none 0 0,.agg #[.int .i64 0,.int .i64 0],.iface 24 (.int .i64 1)]) (by simp[results,Tryz.results88,go_sem,M,N]) rfl ?_;exact⟨⟨none,0,rfl,v0y _ _⟩,(E.setCell (p:=w.heap.size) Zl _).setCell (p:=(w.heap.size,1)) Zl _⟩
theorem y2j(ds:List Nd)(t:Tr)(hd:ds=t.N)(ht:t.Wf)(hl:ds.length<=400)(wd:Nat)(hw:wd<=100)(a:Option Addr)(cap:Nat)(hc:ds.length<=cap)(w:World)(hN:q2b w a ds):
  Calls prog 88 #[.slice a ds.length cap,.int .i64 wd] w fun e w'=>z8i ds wd w e w':=by
 obtain⟨e0,e1⟩:=j4t ht hd hl hw;have R:=y6a ht wd;have e2:bT ds wd=shS (q7j ds (vv (q0a t) wd 0 0).2):=by rw[bT,if_pos e0,e1,R]
 have HR:Hid (z8i ds wd w=fun e w'=>(∃U wc,e=.returned (.tuple #[.string (shS (q7j ds (vv (q0a t) wd 0 0).2)),.slice U (vv (q0a t) wd 0 0).2.length wc,.agg #[.int .i64 (crs (q0a t) wd 0 0).o,.int .i64 (crs (q0a t) wd 0 0).l],.nilIface])/\w'.ownsRow w.heap.size 3 1 (.slice U (vv (q0a t) wd 0 0).2.length wc) (vv (q0a t) wd 0 0).2.length (q0j (vv (q0a t) wd 0 0).2))/\Below w w w'):=by
  show z8i ds wd w=_;have h3:=(j6b (wd:=wd) (c:=0) (k0l ht) (Nat.zero_le _)).1
  funext e w'
  unfold z8i;rw[e0,e1,e2,q1n,<-R];have h4:((vv (q0a t) wd 0 0).1.1:Int)=(crs (q0a t) wd 0 0).o:=by rw[h3]
  have h5:((vv (q0a t) wd 0 0).1.2:Int)=(crs (q0a t) wd 0 0).l:=by rw[h3]
  rw[h4,h5]
 rw[HR.o];have Af:0<(q0a t).length:=by rw[q2y];exact t.pos
 have Ag:(q0a t).length=ds.length:=by rw[q2y,hd];rfl
 have h0:q3f ds=0:=by rw[hd];exact z1t ht (by rw[<-hd];exact hl)
 have Am:t.sz<=400:=by unfold Tr.sz;rw[<-hd];exact hl
 have Av:ds≠[]:=by rw[hd];have:=t.pos;exact List.length_pos_iff.1 this
 have HN:Hid (q2b w a ds):=hN;have H0:Hid (q3f ds=0):=h0;have Ab:Hid (∀sb g mb,j4k sb g mb wd (q0a t) 0 0):=fun sb g mb=>v7x sb g mb ht Am hw (q0a t).length 0 0 (by omega) (Nat.zero_le _) (Nat.zero_le _)
 have u:Hid (∀sb g mb(W:World)S,Inv sb g mb wd (q0a t) W S->S 0 0=true->Cp 127 #[.pointer (some ⟨sb,0,none⟩)] W fun e w'=>(∃a cap,e=.returned (.slice a (vv (q0a t) wd 0 0).2.length cap)/\w'.ownsRow W.heap.size 3 1 (.slice a (vv (q0a t) wd 0 0).2.length cap) (vv (q0a t) wd 0 0).2.length (q0j (vv (q0a t) wd 0 0).2))/\Below W W w'):=fun sb g mb W S hI hS=>k1p sb g mb ht Am hw W S hI hS
 have HD:Hid (ds=t.N):=hd;have z:Hid ((q0a t).length=ds.length):=Ag
 have At:Hid ((vv (q0a t) wd 0 0).2.length<=9223372036854775807):=by
  show(vv (q0a t) wd 0 0).2.length<=_
  obtain⟨a',ha⟩:=k1r t wd;have hb:=z0m t wd;rw[q3q,<-R]at hb;have h1:=(q6k hb).1;have h2:=q8n t _ h1;rw[<-hd]at h2;omega
 have y:Hid (∀(s:Nat)(W:World),q1j s W a ds->s<W.heap.size->Cp 125 #[.slice a ds.length cap,.int .i64 wd] W fun e w'=>e=.returned (.agg #[.slice (some ⟨W.heap.size+1,0,none⟩) ds.length ds.length,.int .i64 wd])/\PwR w' (W.heap.size+1) ds.length (fun j=>q2 (q1r (q0a t) j))/\Below W W w'):=fun s W h1 h2=>k1t ds t HD.o ht hl a cap s wd hc W h1 h2
 have Ay:=@run_makeMap prog;have A0:¬(wd:Int)<0:=by omega
 have A1:¬(100:Int)<(wd:Int):=by omega
 clear hN h0 hd Ag e0 e1 e2 R HR;go_in;go_wp2_with fail;refine(q3e ds a cap _ (HN.o.W ((Below.refl _ w).alloc Zl _))).mono ?_;rintro e D⟨rfl,n⟩;rw[H0.o,q1n];have Ak:q7w D w.heap.size:=q7w.kept ⟨_,_,heap_alloc_new w (.cells #[.int .i64 0,.int .i64 0] 94)⟩ (n.block _ (by simp));have k0:D.cell? ⟨w,0,none⟩=some (.int .i64 0):=((q0s n).1 _ _ (by simp)).trans (by simp[go_sem]);have k1:D.cell? ⟨w,1,none⟩=some (.int .i64 0):=((q0s n).1 _ _ (by simp)).trans (by simp[go_sem]);have V:Hid (Below w w D):=((Below.refl _ w).alloc Zl _).trans (n.mono (by simp));have i:w.heap.size<D.heap.size:=by have:=n.size;simp at this;omega
 have O:Hid (D.cell? ⟨w,0,none⟩=some (.int .i64 0)/\D.cell? ⟨w,1,none⟩=some (.int .i64 0)/\q7w D w.heap.size):=⟨k0,k1,Ak⟩;clear Ak k0 k1 n;obtain⟨s,hs,Aj⟩:=(HN.o.W V.o).s Av;have Aq:Hid (q1j s D a ds):=Aj;clear Aj;go_wp2_with fail;refine(y.o s D Aq.o hs).mono ?_;rintro e B⟨rfl,f,K⟩;have q:Hid (Below w w B):=V.o.trans (K.mono V.o.size);have Az:=K.size;have Au:D.heap.size+1<B.heap.size:=f.row.lt;have P:Hid (B.cell? ⟨w,0,none⟩=some (.int .i64 0)/\B.cell? ⟨w,1,none⟩=some (.int .i64 0)/\q7w B w.heap.size):=⟨(K.cell (p:=⟨w,0,none⟩) i).trans O.o.1,(K.cell (p:=⟨w,1,none⟩) i).trans O.o.2.1,O.o.2.2.kept (K.block _ i)⟩
 have x:Hid (Inv (B.heap.size+1) (D.heap.size+1) B.heap.size wd (q0a t) ((B.alloc (.map #[] 0)).alloc (.cells #[.slice (some ⟨D.heap.size+1,0,none⟩) ds.length ds.length,.int .i64 wd,.map (some B.heap.size)] 214)) (fun _ _=>false)):=by
  refine⟨⟨?_,?_,?_⟩,?_,?_,fun p c h=>by cases h⟩
  ·rw[z.o];simp[go_sem]
  ·simp[go_sem]
  ·rw[z.o];exact f.kept ((Below.heap_alloc _ _ _ (by simp;omega)).trans (Below.heap_alloc _ _ _ Au))
  ·simp[go_sem]
  ·exact(Mem.made B _).kept (Below.heap_alloc _ _ _ (by simp))
 have Aa:Hid (∀W S,Inv (B.heap.size+1) (D.heap.size+1) B.heap.size wd (q0a t) W S->Cp 126 #[.pointer (some ⟨B.heap.size+1,0,none⟩),.agg #[.int .i64 0,.int .i64 0]] W fun e w'=>e=.returned (.agg #[.int .i64 (crs (q0a t) wd 0 0).o,.int .i64 (crs (q0a t) wd 0 0).l,.int .i64 (crs (q0a t) wd 0 0).ch,.int .i64 (crs (q0a t) wd 0 0).np,.int .i64 (crs (q0a t) wd 0 0).nc])/\Left (B.heap.size+1) (D.heap.size+1) B.heap.size wd (q0a t) S 0 0 0 W w'):=fun W S h=>by
  have:=Ab.o _ _ _ W S h
  rw[if_pos Af]at this;exact this
 clear f K;go_wp2_with fail;refine(Aa.o _ _ x.o).mono ?_;rintro e H⟨rfl,L,S',hI,_,_,Ah⟩;have C:((B.alloc (.map #[] 0)).alloc (.cells #[.slice (some ⟨D.heap.size+1,0,none⟩) ds.length ds.length,.int .i64 wd,.map (some B.heap.size)] 214)).heap.size=B.heap.size+1+1:=by simp
 have Aw:=L.size;rw[C]at Aw;have Ad:Below w w ((B.alloc (.map #[] 0)).alloc (.cells #[.slice (some ⟨D.heap.size+1,0,none⟩) ds.length ds.length,.int .i64 wd,.map (some B.heap.size)] 214)):=k1q (k1q q.o _) _;have X:Hid (Below w w H):=Ad.trans ((L.mono (B':=w.heap.size) (by rw[C];omega)).W (by omega))
 have Q:Hid (H.cell? ⟨w,0,none⟩=some (.int .i64 0)/\H.cell? ⟨w,1,none⟩=some (.int .i64 0)/\q7w H w.heap.size):=
  ⟨(L.cell (p:=⟨w,0,none⟩) (by rw[C];simp;omega) (by simp;omega)).trans (ka (ka P.o.1 _) _),(L.cell (p:=⟨w,1,none⟩) (by rw[C];simp;omega) (by simp;omega)).trans (ka (ka P.o.2.1 _) _),P.o.2.2.kept ((L.block _ (by rw[C];omega) (by omega)).trans ((Below.heap_alloc _ _ _ (by simp;omega)).trans (Below.heap_alloc _ _ _ (by omega))))⟩
 have Y:Hid (Inv (B.heap.size+1) (D.heap.size+1) B.heap.size wd (q0a t) H S'/\S' 0 0=true):=⟨hI,Ah Af⟩;clear L hI Ah Ad C x Aa Ab y q P O;generalize Ai:crs (q0a t) wd 0 0=k at *;have Ap:Hid (crs (q0a t) wd 0 0=k):=Ai;clear Ai;go_wp2_with fail;refine(u.o _ _ _ _ _ (Y.o.1.alloc _) Y.o.2).mono ?_;rintro e J⟨⟨U,wc,rfl,A⟩,E⟩;obtain⟨_,_,Ax,Ae,_⟩:=k9s A;have d:Below w w J:=(k1q X.o _).trans (E.mono (by have:=X.o.size;simp;omega));have r:Hid (Below w w J):=d;have G:H.heap.size<J.heap.size:=by have:=E.size;simp at this;omega
 have m:=X.o.size
 have Z:Hid (J.cell? ⟨w,0,none⟩=some (.int .i64 0)/\J.cell? ⟨w,1,none⟩=some (.int .i64 0)/\q7w J w.heap.size):=
  ⟨(E.cell (p:=⟨w,0,none⟩) (by simp;omega)).trans (ka Q.o.1 _),(E.cell (p:=⟨w,1,none⟩) (by simp;omega)).trans (ka Q.o.2.1 _),Q.o.2.2.kept ((E.block _ (by simp;omega)).trans (Below.heap_alloc _ _ _ (by omega)))⟩
 have u0:J.drew.cell? ⟨H,0,none⟩=some (.int .i64 k.o):=(E.cell (p:=⟨H,0,none⟩) (by simp)).trans (by simp[go_sem]);have u1:J.drew.cell? ⟨H,1,none⟩=some (.int .i64 k.l):=(E.cell (p:=⟨H,1,none⟩) (by simp)).trans (by simp[go_sem])
 have As:Hid (Cp 128 #[.slice a ds.length cap,.slice U (vv (q0a t) wd 0 0).2.length wc] J.drew fun e w'=>e=.returned (.string (shS (q7j ds (vv (q0a t) wd 0 0).2)))/\Below J.drew.heap.size J.drew w'):=
  j5p ds (vv (q0a t) wd 0 0).2 a U cap wc hc Ax At.o J.drew (HN.o.W d.drew) (q9s.W Ae (Below.refl _ J).drew)
 have Ar:Hid (∀W:World,(∀b,H.heap.size<=b->b<J.heap.size->W.heap[b]?=J.heap[b]?)->W.ownsRow w.heap.size 3 1 (.slice U (vv (q0a t) wd 0 0).2.length wc) (vv (q0a t) wd 0 0).2.length (q0j (vv (q0a t) wd 0 0).2)):=fun W hW=>by
  have h1:=z1g (w':=W) A fun b hb=>hW b (by have:=y1m A hb;simp at this;omega) (z1h A hb).1
  exact v7u h1 (by simp;omega)
 have M:Hid (w.heap.size<H.heap.size):=(show w.heap.size<H.heap.size by omega);clear A Ae d E u Y Q;generalize Ao:(vv (q0a t) wd 0 0).2=us at *;generalize An:shS (q7j ds us)=tx at *;have Ac:Hid ((vv (q0a t) wd 0 0).2=us/\shS (q7j ds us)=tx):=⟨Ao,An⟩;clear Ao An;go_wp2_with fail
 go_region_held3 (fun w'=>w'.cell? ⟨H,0,none⟩=some (.int .i64 k.o)/\w'.cell? ⟨H,1,none⟩=some (.int .i64 k.l))
  (first|with_reducible exact⟨u0,u1⟩|with_reducible exact⟨u07,u17⟩|with_reducible exact⟨(cso (.inl (Nat.ne_of_lt M.o))).trans ((cso (.inl (Nat.ne_of_lt M.o))).trans u07),(cso (.inl (Nat.ne_of_lt M.o))).trans ((cso (.inl (Nat.ne_of_lt M.o))).trans u17)⟩)
  ((go_at_call 128;refine As.o.mono ?_;rintro e w7⟨rfl,I⟩;have u07:=(I.cell (p:=⟨H,0,none⟩) G).trans u0;have u17:=(I.cell (p:=⟨H,1,none⟩) G).trans u1;have k0:=(I.cell (p:=⟨w,0,none⟩) (Nat.lt_of_le_of_lt m G)).trans Z.o.1;have k1:=(I.cell (p:=⟨w,1,none⟩) (Nat.lt_of_le_of_lt m G)).trans Z.o.2.1;have Al:=Z.o.2.2.kept (I.block w.heap.size (Nat.lt_of_le_of_lt m G));have f0:w7.frozen? ⟨w,0,none⟩=false:=Al.frozen;have f1:w7.frozen? ⟨w,1,none⟩=false:=Al.frozen))
 all_goals
  go_wp2;refine bodyPost_ret (v:=.tuple #[.string tx,.slice U us.length wc,.agg #[.int .i64 k.o,.int .i64 k.l],.nilIface]) (by simp[results,Tryz.results88,go_sem,k0,k1]) rfl ?_;rw[Ac.o.1,Ac.o.2,Ap.o];refine⟨⟨U,wc,rfl,Ar.o _ fun b hb1 hb2=>?_⟩,?_⟩
  ·have h5:=M.o;exact(Below.heap_setCell _ _ _ _ (by simp;omega)).trans ((Below.heap_setCell _ _ _ _ (by simp;omega)).trans (I.block b hb2))
  ·exact((r.o.drew.trans (I.mono r.o.size)).setCell (p:=⟨w,0,none⟩) Zl _).setCell (p:=⟨w,1,none⟩) Zl _
theorem j4v(ds:List Nd)(wd:Int)(a:Option Addr)(cap:Nat)(hc:ds.length<=cap)(w:World)(hN:q2b w a ds):
  Calls prog 88 #[.slice a ds.length cap,wd] w fun e w'=>z8i ds wd w e w':=by
 by_cases h:q3f ds=0
 ·by_cases A:wd<0\/100<wd
  ·exact j0y ds wd a cap w hN h A
  ·obtain⟨n,rfl⟩:∃n:Nat,wd=n:=⟨wd.toNat,by omega⟩;exact y2j ds _ (q3w h) (q9u h) (q5j h).1 n (by omega) a cap hc w hN
 ·exact v4p ds wd a cap w hN h
end Go.Proofs.YtchdplceopegoaaGreatDoor
