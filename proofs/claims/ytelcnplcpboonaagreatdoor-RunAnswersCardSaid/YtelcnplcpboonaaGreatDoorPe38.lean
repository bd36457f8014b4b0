import Derived.Test.YtelcnplcpboonaaGreatDoorPe34
import Derived.RangeFuncBox
import Derived.RangeFuncFrom
import Derived.Maps.AppendAt
import Derived.Test.YtelcnplcpboonaaGreatDoorPe27
import Derived.Test.YtelcnplcpboonaaGreatDoorPe33
open Go.Proofs.Tryz
open List renaming length->ſ
open Go.Value renaming slice->À,int->Æ,string->Ç,pointer->Ë
open Option renaming none->Á,some->Ã
open Go.Obj renaming cells->Â
open Go.IntKind renaming i64->Ä
open Go renaming madeCells->Å,World->É,Calls->Î,heap_alloc_new->Ð,undef->Ò
open List renaming getElem?_eq_getElem->È,eq_nil_of_length_eq_zero->Ê,take_succ_cons->Ï,map_cons->Ñ
open Go.RowKit renaming Below->Ì,intOf->Ó
open Go.Ending renaming returned->Í
namespace Go.Proofs.YtelcnplcpboonaaGreatDoor
open Go Go.RowKit
abbrev iG:Array Value:=#[Æ Ä 0,Ç ⟨#[]⟩,Æ Ä 0,Æ Ä 0,Æ Ä 0,Æ Ä 0,Æ Ä 0]
theorem Sy:(prog.info? 306).map (λi=>(i.zero,i.size,i.bytes))=Ã (Ã (.agg iG),7,64):=by kernel_rfl
theorem OL{z n k}(h:k<n):(Å z n)[k]?=Ã (z[k % z.size]!):=by
 simp[Å,h]
theorem Lc{w:É}{g n:Nat}(h:w.heap[g]?=Ã (Â (Å iG (n*7)) 306 (0,0))):bq w g n (λ_=>q0) where
 get j hj:=by
  have A:∀f,f<7->w.cell? (g,j*7+f)=Ã (iG[f]!):=λf B=>by
   simp only[World.cell?,h];rw[OL (by omega),show iG.size=7 from rfl,show(j*7+f) % 7=f by omega];rfl
  exact⟨A 0 (by omega),A 1 (by omega),A 2 (by omega),A 3 (by omega),A 4 (by omega),A 5 (by omega),A 6 (by omega)⟩
 row:=⟨_,_,h⟩
theorem Rm(n:Nat)(E:n<=400)(W):(Instr.makeSlice 272 (n:Int) (n:Int)).run prog W=.ok (À W.heap.size n n) (W.alloc (Â (Å iG (n*7)) 306)):=by
 obtain⟨i,B,D,C,A⟩:=info_parts Sy
 have:=run_make (P:=prog) W 272 306 i _ Tryz.underlying272 B D Ä Ä n n (by omega) (by omega) (by rw[A];omega) (by omega)
 rw[C,Int.toNat_natCast]at this;exact this
theorem TK{R L M i nx dp S t}(P g:Nat)(F:Nat->Q)(w)(V:ſ R<=400)(h:Sp R L M i t nx dp S)(I:(F i).op=(aD R i).nd.op)(D:∀j,i<j->j<ſ R->(F j).en=(aD R j).en)
  (c0:w.cell? P=Ã (À g (ſ R) (ſ R))) (U:bq w g (ſ R) F):
  Î prog 228 #[Ë P,i] w λe W=>e=Í ((aD R i).en)/\∃q,W=w.drewN q:=by
 have H:(i:Int)<(ſ R:Nat):=by have:=h.lt;omega
 have E:=(U.get i h.lt).c0;rw[I]at E;have K:=h.at;rw[K]at E⊢;cases t with
 | leaf x=>
  have A:∀k:Int,k=6\/k=9\/k=7\/k=8->(x.op==k)=false:=λk X=>beq_eq_false_iff_ne.2 (by
   rcases iZ h.wf.1 h.wf.2 with e|e|e|e|e<;>omega)
  exact Ri P g (ſ R) i x.op w V H c0 E (A 6 (by omega)) (A 9 (by omega)) (A 7 (by omega)) (A 8 (by omega))
 | one x a=>
  have B:=h.one;have G:=(U.get (i+1) B.lt).c3;rw[D (i+1) (by omega) B.lt,B.at]at G
  have e:(fY (Tr.one x a) i nx dp S).en=(fY a (i+1) nx (dp+x.n.toNat) S).en:=by
   show i+(Tr.one x a).sz=i+1+a.sz;rw[pN];omega
  rw[e];exact TL P g (ſ R) i x.op _ w V H (by have:=B.lt;omega) c0 E G (jD h.wf.2.1)
 | two x a b=>
  obtain⟨O,N,B⟩:=h.two1;have C:=h.two2;have G:=(U.get (i+1) B.lt).c3;rw[D (i+1) (by omega) B.lt,B.at]at G;have J:=(U.get (i+1+a.sz) C.lt).c3;rw[D (i+1+a.sz) (by omega) C.lt,C.at]at J
  have e:(fY (Tr.two x a b) i nx dp S).en=(fY b (i+1+a.sz) nx dp S).en:=by
   show i+(Tr.two x a b).sz=i+1+a.sz+b.sz;rw[nr];omega
  rw[e];exact TM P g (ſ R) i (i+1+a.sz) x.op _ w V H (by have:=B.lt;omega) (by have:=C.lt;omega) c0 E G J (jj h.wf.2.1)
structure NP(w0 w:É)(wd n:Nat):Prop where
 c0:w.cell? ⟨w0.heap.size+1+1,0,Á⟩=Ã (À (Ã ⟨w0.heap.size+1,0,Á⟩) n n)
 c1:w.cell? ⟨w0.heap.size+1+1,1,Á⟩=Ã (Æ Ä wd)
 r0:w.cell? ⟨w0,0,Á⟩=Ã (À Á 0 0)
 r1:w.cell? ⟨w0,1,Á⟩=Ã (Æ Ä 0)
 f0:de w w0.heap.size
 bw:Ì w0 w0 w
theorem NP.belX{A w D:É}{E n B:Nat}(h:NP A w E n)(C:am B (A.heap.size+1) w D)(G:A.heap.size+1+1+1<=B):NP A D E n where
 c0:=(C.cell (p:=⟨A.heap.size+1+1,0,Á⟩) (by simp;omega) (by simp)).trans h.c0
 c1:=(C.cell (p:=⟨A.heap.size+1+1,1,Á⟩) (by simp;omega) (by simp)).trans h.c1
 r0:=(C.cell (p:=⟨A,0,Á⟩) (by simp;omega) (by simp)).trans h.r0
 r1:=(C.cell (p:=⟨A,1,Á⟩) (by simp;omega) (by simp)).trans h.r1
 f0:=h.f0.kept (C.block _ (by omega) (by omega))
 bw:=h.bw.trans ((C.mono (B':=A.heap.size) (by omega)).W (by omega))
theorem NP.same{C w A E n}(h:NP C w E n)(D:A.heap=w.heap)(G:A.os=w.os)(H:A.tape=w.tape)(I:A.output=w.output):NP C A E n:=
 h.belX (B:=C.heap.size+1+1+1) ⟨G,H,I,by rw[D];exact Nat.le_refl _,λk _ _=>by rw[D]⟩ (by omega)
theorem NP.lt{A w B n}(h:NP A w B n):A.heap.size+1+1<w.heap.size:=World.block_lt_of_cell? w ↑(A.heap.size+1+1) h.c0
theorem Vu{t D i nx dp G C}(E:C=t.N)(h:Sp (ah t) t.lf t.dsum i D nx dp G):∃r,C.drop i=D.N++r:=by
 obtain⟨A,e⟩:=h.pl;refine⟨A.map (·.nd),?_⟩;have B:(ah t).map (·.nd)=C:=by rw[E];exact oV t _ _ _ _
 rw[<-B,<-List.map_drop,e,List.map_append,oV]
theorem nL{w}{B g o:Nat}{v}:am B g w (w.setCell (g,o) v):=(am.refl B g w).setCell (p:=(g,o)) (.inl rfl) v
theorem U0(G)(H n:Nat):NP G (((G.alloc (Â #[À Á 0 0,Æ Ä 0] 274)).alloc (Â (Å iG (n*7)) 306)).alloc (Â #[À ↑(G.heap.size+1) n n,↑H] 274)) H n/\bq (((G.alloc (Â #[À Á 0 0,Æ Ä 0] 274)).alloc (Â (Å iG (n*7)) 306)).alloc (Â #[À ↑(G.heap.size+1) n n,↑H] 274)) (G.heap.size+1) n (λ_=>q0):=by
 have D:=Ð G (Â #[À Á 0 0,Æ Ä 0] 274);have B:=Ð (G.alloc (Â #[À Á 0 0,Æ Ä 0] 274)) (Â (Å iG (n*7)) 306);have E:(G.alloc (Â #[À Á 0 0,Æ Ä 0] 274)).heap.size=G.heap.size+1:=by simp
 rw[E]at B
 have A:(((G.alloc (Â #[À Á 0 0,Æ Ä 0] 274)).alloc (Â (Å iG (n*7)) 306)).alloc (Â #[À ↑(G.heap.size+1) n n,↑H] 274)).heap[G.heap.size]?=Ã (Â #[À Á 0 0,Æ Ä 0] 274 (0,0)):=
  (Below.heap_alloc _ _ _ (by simp;omega)).trans ((Below.heap_alloc _ _ _ (by simp)).trans D)
 have C:(((G.alloc (Â #[À Á 0 0,Æ Ä 0] 274)).alloc (Â (Å iG (n*7)) 306)).alloc (Â #[À ↑(G.heap.size+1) n n,↑H] 274)).heap[G.heap.size+1]?=Ã (Â (Å iG (n*7)) 306 (0,0)):=
  (Below.heap_alloc _ _ _ (by simp)).trans B
 exact⟨⟨by simp[go_sem],by simp[go_sem],by simp[World.cell?,A],by simp[World.cell?,A],⟨_,_,A⟩,(((Below.refl _ G).alloc Zl _).alloc (by simp) _).alloc (by simp;omega) _⟩,Lc C⟩
set_option maxRecDepth 100000
set_option maxHeartbeats 8000000
theorem O5(ds t)(hd:ds=t.N)(ht:t.Wf)(hl:ſ ds<=400)(a)(cap s wd:Nat)(A8:ſ ds<=cap)(w:É)(hN:cO s w a ds)(hs:s<w.heap.size):
  Î prog 202 #[À a (ſ ds) cap,Æ Ä wd] w λe a=>e=Í (.agg #[À (Ã ⟨w.heap.size+1,0,Á⟩) (ſ ds) (ſ ds),Æ Ä wd])/\bq a (w.heap.size+1) (ſ ds) (λj=>q2 (aD (ah t) j))/\Ì w w a:=by
 have Al:(ah t).length=ſ ds:=by rw[jQ,hd];rfl
 have Y:0<ſ ds:=by rw[hd];exact t.pos
 have hm:∀W:É,(Instr.makeSlice 272 (ſ ds:Int) (ſ ds:Int)).run prog W=.ok (À W.heap.size (ſ ds) (ſ ds)) (W.alloc (Â (Å iG (ſ ds*7)) 306)):=Rm (ſ ds) hl;have Ah:Hid (∀W:É,NP W (((W.alloc (Â #[À Á 0 0,Æ Ä 0] 274)).alloc (Â (Å iG (ſ ds*7)) 306)).alloc (Â #[À (Ã ⟨W.heap.size+1,0,Á⟩) (ſ ds) (ſ ds),Æ Ä wd] 274)) wd (ſ ds)/\bq (((W.alloc (Â #[À Á 0 0,Æ Ä 0] 274)).alloc (Â (Å iG (ſ ds*7)) 306)).alloc (Â #[À (Ã ⟨W.heap.size+1,0,Á⟩) (ſ ds) (ſ ds),Æ Ä wd] 274)) (W.heap.size+1) (ſ ds) (λ_=>q0)):=λW=>U0 W wd (ſ ds)
 have HD:Hid (ds=t.N):=hd;have HN:Hid (cO s w a ds):=hN;have A:Hid ((ah t).length=ſ ds):=Al;clear hd hN Al
 have ea:∃o,a=Ã ⟨s,o,Á⟩:=by
  obtain⟨o,e,_⟩:=HN.o 0 Y;exact⟨o,e⟩
 obtain⟨o,rfl⟩:=ea
 have Af:Hid (∀(W:É)i(h:i<ſ ds),Ì w w W->W.cell? (s,o+i*3)=Ã (ds[i].op)/\W.cell? (s,o+i*3+1)=Ã (Ç ds[i].tx)/\W.cell? (s,o+i*3+2)=Ã (ds[i].n)):=λW i h hW=>by
  obtain⟨o',e,d⟩:=(HN.o.kept (hW.block s hs)) i h;simp only[Option.some.injEq,Addr.mk.injEq,and_true,true_and]at e;subst e;exact d
 have Ac:Hid (∀i(h:i<ſ ds),(aD (ah t) i).nd=ds[i]):=λi h=>by
  have e1:(ah t).map (·.nd)=ds:=by rw[HD.o];exact oV t _ _ _ _
  have S:i<(ah t).length:=by rw[A.o];exact h
  have e2:((ah t).map (·.nd))[i]?=Ã ds[i]:=by rw[e1];exact È h
  rw[List.getElem?_map,È S]at e2;rw[aD,List.getD,È S];simpa using e2
 go_in;go_wp2_with fail
 go_loopw [6] (λi wr=>NP w wr wd (ſ ds)/\∃k:Nat,k<=ſ ds/\i=↑((k:Int)-1)/\bq wr (w.heap.size+1) (ſ ds) (F1 (ah t) k)) (λi _=>(Ó i+1).toNat)
 case atStart=>
  refine⟨(Ah.o w).1,ſ ds,Nat.le_refl _,rfl,(Ah.o w).2.congr λj hj=>?_⟩;simp only[F1];rw[if_neg (by omega)]
 case round=>
  obtain⟨O,k,hk,rfl,L⟩:=hrel;have b:Hid (NP w wr wd (ſ ds)):=O;have Q:Hid (bq wr (w.heap.size+1) (ſ ds) (F1 (ah t) k)):=L;have l:=O.c0;clear O L;by_cases A3:k=0
  .subst A3;have Bb:¬((0:Int)<=((0:Nat):Int)-1):=by omega
   have e4:wr.cell? (w.heap.size+1,4)=Ã ((F1 (ah t) 0 0).nx):=by have:=(Q.o.get 0 Y).c4;simpa using this
   have f4:wr.frozen? (w.heap.size+1,4)=false:=Q.o.row.frozen;have A7:(0:Int)<(ſ ds:Int):=by omega
   have I:Hid (bq (wr.setCell ↑(w.heap.size+1,4) ↑(ſ ds:Int)) (w.heap.size+1) (ſ ds) (ct (F1 (ah t) 0) 0 {F1 (ah t) 0 0 with nx:=(ſ ds:Int)})):=by
    have:=Q.o.putNx Y (ſ ds:Int)
    rw[Nat.zero_mul,Nat.zero_add]at this;exact this
   have K:Hid (Tl (ah t) t.lf t.dsum 0 (ct (F1 (ah t) 0) 0 {F1 (ah t) 0 0 with nx:=(ſ ds:Int)})):=by
    have:=Tl.start (t:=t)
    rw[<-jQ,A.o]at this;exact this
   have D:Hid (NP w (wr.setCell ↑(w.heap.size+1,4) ↑(ſ ds:Int)) wd (ſ ds)):=b.o.belX (B:=w.heap.size+1+1+1) nL Zl;go_wp2_with fail;generalize wr.setCell ↑(w.heap.size+1,4) ↑(ſ ds:Int)=w5 at *;clear l e4 f4 b Q
   go_loopw [44] (λi a=>NP w a wd (ſ ds)/\∃k:Nat,k<=ſ ds/\i=Æ Ä k/\∃F,bq a (w.heap.size+1) (ſ ds) F/\Tl (ah t) t.lf t.dsum k F) (λi _=>ſ ds-(Ó i).toNat)
   case atStart=>exact⟨D.o,0,Nat.zero_le _,rfl,_,I.o,K.o⟩
   case round=>
    clear D I K;obtain⟨O,k,hk,rfl,F,L,hT⟩:=hrel;have b:Hid (NP w wr wd (ſ ds)):=O;by_cases H:k<ſ ds
    .have Aa:k<(ah t).length:=by rw[A.o];exact H
     obtain⟨g,nx,dp,ks,P⟩:=qi ht Aa
     have h0:k=0\/∃p,p<k/\iO (ah t) t.lf t.dsum p k:=by
      rcases Nat.eq_zero_or_pos k with e|e
      .exact .inl e
      .exact .inr (DK ht e Aa)
     have hM:t.dsum<=3200:=by have:=m7 t;rw[<-HD.o]at this;omega
     have z:=Ka (w.heap.size+1+1) (w.heap.size+1) F wr (by rw[A.o];exact hl) hM P hT h0 (by omega) (by rw[A.o];exact O.c0) (by rw[A.o];exact L);rw[A.o]at z;obtain⟨r,Ao⟩:=Vu HD.o P;have Ad:=(show Hid _ from z);have G:Hid (Sp (ah t) t.lf t.dsum k g nx dp ks):=P;have Ae:Hid (ds.drop k=g.N++r):=Ao;clear O L hT z h0 P Ao Aa;have Ba:(k:Int)<(ſ ds:Int):=by omega
     have A6:(0:Int)<=(k:Int):=by omega
     go_wp2_with fail;refine Calls.mono Ad.o ?_;rintro e E⟨rfl,⟨Z,At,Am,Au⟩,An⟩;have D:Hid (NP w E wd (ſ ds)):=b.o.belX An (by have:=b.o.lt;omega);have I:Hid (bq E (w.heap.size+1) (ſ ds) Z):=At;have K:Hid (Tl (ah t) t.lf t.dsum k Z):=Am;have Ag:Hid (∀j,j<ſ ds->iO (ah t) t.lf t.dsum k j->(Z j).nx=(aD (ah t) j).nx/\(Z j).dp=(aD (ah t) j).dp):=Au;clear At Am Au An b Ad;have d0:=(Af.o E k H D.o.bw).1;have hx:ds[k]=g.root:=by rw[<-Ac.o k H,G.o.at];rfl
     rw[hx]at d0;clear hx;by_cases y:g.root.op=8
     .cases g with
      | leaf x=>
       have c:x.op=8:=y;rcases iZ G.o.wf.1 G.o.wf.2 with e|e|e|e|e<;>omega
      | two x a' b'=>
       have c:x.op=8:=y;rcases jj G.o.wf.2.1 with e|e<;>omega
      | one x a'=>
       rw[y]at d0;have l:=D.o.c0;obtain⟨_,_,_,g3,_,_,g6⟩:=I.o.get k H;have z6:E.frozen? (w.heap.size+1,k*7+6)=false:=I.o.row.frozen;have Ap:(Z k).en=((k+(Tr.one x a').N.length:Nat):Int):=by rw[K.o.en k (by rw[A.o];exact H),G.o.at];rfl
       rw[Ap]at g3
       have V:(aD (ah t) k).lg=iB a'.flat:=by
        rw[G.o.at];show Tr.lg (.one x a')=_;have c:x.op=8:=y;simp[Tr.lg,c]
       have Ar:k+(Tr.one x a').N.length<=ſ ds:=by
        have:=congrArg List.length Ae.o
        rw[List.length_drop,List.length_append]at this;omega
       have Bj:=(Tr.one x a').pos;have X:aS E (Ã ↑(s,o+k*3)) (Tr.one x a').N:=((HN.o.kept (D.o.bw.block s hs)).part Ae.o).nods (by have:=D.o.bw.size;omega);generalize hj:k+(Tr.one x a').N.length=j at g3 Ar;have Ab:(Tr.one x a').N.length=j-k:=by omega
       have m:Hid (Cp 230 #[À (Ã ⟨s,o+k*3,Á⟩) (j-k) (cap-k)] E.drew λe a=>e=Í (Æ Ä (iB a'.flat))/\Ì E.drew.heap.size E.drew a):=by
        have:=Rl (Tr.one x a').N (Tr.one x a') rfl G.o.wf (by omega) (Ã ⟨s,o+k*3,Á⟩) (cap-k) (by omega) E.drew (X.W (Below.drew (Below.refl _ E)))
        rw[Ab]at this;exact this
       have Ay:Hid ((aD (ah t) k).lg=iB a'.flat):=V;have h1:(k:Int)<=(j:Int):=by omega
       have Bi:(0:Int)<=(j:Int):=by omega
       have Bg:(k:Int)<(cap:Int):=by omega
       have Bd:¬(cap-k=0):=by omega
       have Be:¬(cap=k):=by omega
       have Bh:((j:Int)-(k:Int)).toNat=j-k:=by omega
       have A9:((cap:Int)-(k:Int)).toNat=cap-k:=by omega
       have h2:(j:Int)<=(cap:Int):=by omega
       have h3:(j:Int)<=(ſ ds:Int):=by omega
       clear X Ab Ap V hj;have A1:=D.o.lt;have Av:Hid (∀C,Ì E.drew.heap.size E.drew C->C.cell? ⟨w.heap.size+1+1,0,Á⟩=Ã (À (Ã ⟨w.heap.size+1,0,Á⟩) (ſ ds) (ſ ds))):=λC hb=>(hb.cell (p:=⟨w.heap.size+1+1,0,Á⟩) A1).trans l
       have Aw:Hid (∀C,Ì E.drew.heap.size E.drew C->C.cell? ⟨w.heap.size+1,k*7+3,Á⟩=Ã (Æ Ä (j:Int))):=λC hb=>(hb.cell (p:=⟨w.heap.size+1,k*7+3,Á⟩) (by show w.heap.size+1<E.heap.size;omega)).trans g3
       have Ax:Hid (∀C,Ì E.drew.heap.size E.drew C->bq C (w.heap.size+1) (ſ ds) Z/\NP w C wd (ſ ds)):=λC hb=>⟨I.o.kept (hb.block _ (by show w.heap.size+1<E.heap.size;omega)),D.o.belX (B:=E.heap.size) (am.of ((Below.drew (Below.refl _ E)).trans hb)) (by omega)⟩
       go_wp2_with fail
       go_region_held3 (λa=>a.cell? ⟨w.heap.size+1+1,0,Á⟩=Ã (À (Ã ⟨w.heap.size+1,0,Á⟩) (ſ ds) (ſ ds))/\a.cell? ⟨w.heap.size+1,k*7+3,Á⟩=Ã (Æ Ä (j:Int)))
        (first|exact⟨l,g3⟩|exact⟨Ai,Aj⟩|exact⟨(af (by omega)).trans Ai,(af (by omega)).trans Aj⟩)
        ((go_at_call 230;refine m.o.mono ?_;rintro e C⟨rfl,M⟩;have Ai:=Av.o C M;have Aj:=Aw.o C M;obtain⟨f,As⟩:=Ax.o C M;have Bc:=(f.get k H).c6;have Bk:C.frozen? ⟨w.heap.size+1,k*7+6,Á⟩=false:=f.row.frozen;have J:Hid (bq C (w.heap.size+1) (ſ ds) Z):=f;have U:Hid (NP w C wd (ſ ds)):=As;clear f As M))
       all_goals
        go_wp2
        go_roundw
        case rel=>exact⟨(U.o.belX (B:=w.heap.size+1+1+1) nL Zl).same rfl rfl rfl rfl,k+1,by omega,by go_num,_,(J.o.putLg H (iB a'.flat)).kept rfl,by rw[<-Ay.o];exact K.o.nextLg (by rw[A.o];exact Ag.o)⟩
        case measure=>simp[Ó];omega
     .have c:(g.root.op==8)=false:=beq_eq_false_iff_ne.2 y
      have V:(Z k).lg=(aD (ah t) k).lg:=by
       rw[K.o.l0 k (by rw[A.o];exact H) Zl,G.o.at];show 0=g.lg;cases g with
       | leaf x=>rfl
       | two x a' b'=>rfl
       | one x a'=>
        have Ak:¬x.op=8:=y;simp[Tr.lg,Ak]
      have m:Hid ((Z k).lg=(aD (ah t) k).lg):=V;clear V y;go_wp2
      go_roundw
      case rel=>exact⟨D.o,k+1,by omega,by go_num,Z,I.o,K.o.next (by rw[A.o];exact Ag.o) m.o⟩
      case measure=>simp[Ó];omega
    .have Aq:k=ſ ds:=by omega
     have hF:=Tl.all ht (by rw[A.o,<-Aq];exact hT);have Q:Hid (bq wr (w.heap.size+1) (ſ ds) (λj=>q2 (aD (ah t) j))):=L.congr (by rw[<-A.o];exact hF);have l:=O.c0;have c1:=O.c1;have r0:=O.r0;have r1:=O.r1;have f0:wr.frozen? ⟨w,0,Á⟩=false:=O.f0.frozen;have f1:wr.frozen? ⟨w,1,Á⟩=false:=O.f0.frozen;have Ab:¬((k:Int)<(ſ ds:Int)):=by omega
     clear O L hT hF Aq;go_wp2;refine bodyPost_ret (v:=.agg #[À (Ã ⟨w.heap.size+1,0,Á⟩) (ſ ds) (ſ ds),Æ Ä wd]) (by simp[results,Tryz.results202,go_sem,r0,r1]) rfl ?_;have A5:∀a b,((wr.setCell ⟨w,0,Á⟩ a).setCell ⟨w,1,Á⟩ b).heap[w.heap.size+1]?=wr.heap[w.heap.size+1]?:=λv0 v1=>(Below.heap_setCell _ _ _ _ (by simp)).trans (Below.heap_setCell _ _ _ _ (by simp))
     exact⟨rfl,Q.o.kept (A5 _ _),b.o.bw.trans (((Below.refl _ wr).setCell (p:=⟨w,0,Á⟩) Zl _).setCell (p:=⟨w,1,Á⟩) Zl _)⟩
  .obtain⟨i,rfl⟩:∃i,k=i+1:=⟨k-1,by omega⟩;have A4:(((i+1:Nat):Int)-1)=(i:Int):=by omega
   rw[A4];have S:i<ſ ds:=by omega
   obtain⟨n0,n1,n2⟩:=Af.o wr i S b.o.bw;have HX:=Ac.o i S;generalize ds[i]=x at n0 n1 n2 HX;have u:Hid ((aD (ah t) i).nd=x):=HX;clear HX;obtain⟨g0,g1,g2,_,_,_,_⟩:=Q.o.get i S;have z0:wr.frozen? ⟨w.heap.size+1,i*7,Á⟩=false:=Q.o.row.frozen;have z1:wr.frozen? ⟨w.heap.size+1,i*7+1,Á⟩=false:=Q.o.row.frozen;have z2:wr.frozen? ⟨w.heap.size+1,i*7+2,Á⟩=false:=Q.o.row.frozen;have A6:(0:Int)<=(i:Int):=by omega
   have Bf:(i:Int)<(ſ ds:Int):=by omega
   have J:Hid (bq (((wr.setCell ⟨w.heap.size+1,i*7,Á⟩ (Æ Ä x.op)).setCell ⟨w.heap.size+1,i*7+1,Á⟩ (Ç x.tx)).setCell ⟨w.heap.size+1,i*7+2,Á⟩ (Æ Ä x.n)) (w.heap.size+1) (ſ ds) (ct (F1 (ah t) (i+1)) i ⟨x.op,x.tx,x.n,0,0,0,0⟩)):=by
    have h:=((Q.o.putOp S x.op).putTx S x.tx).putN S x.n;rw[sl,sl,dX,dX]at h;have e:F1 (ah t) (i+1) i=q0:=by simp only[F1];rw[if_neg (by omega)]
    rw[e]at h;exact h
   have U:Hid (NP w (((wr.setCell ⟨w.heap.size+1,i*7,Á⟩ (Æ Ä x.op)).setCell ⟨w.heap.size+1,i*7+1,Á⟩ (Ç x.tx)).setCell ⟨w.heap.size+1,i*7+2,Á⟩ (Æ Ä x.n)) wd (ſ ds)):=b.o.belX (B:=w.heap.size+1+1+1) ((nL.trans nL).trans nL) Zl;clear Q b;go_wp2_with fail
   go_region_held3 (λa=>a.cell? ⟨w.heap.size+1+1,0,Á⟩=Ã (À (Ã ⟨w.heap.size+1,0,Á⟩) (ſ ds) (ſ ds))/\a.cell? ⟨s,o+i*3,Á⟩=Ã (Æ Ä x.op)/\a.cell? ⟨s,o+i*3+1,Á⟩=Ã (Ç x.tx)/\a.cell? ⟨s,o+i*3+2,Á⟩=Ã (Æ Ä x.n))
    (first|exact⟨l,n0,n1,n2⟩|exact⟨(af (by omega)).trans ((af (by omega)).trans ((af (by omega)).trans l)),(af (by omega)).trans ((af (by omega)).trans ((af (by omega)).trans n0)),(af (by omega)).trans ((af (by omega)).trans ((af (by omega)).trans n1)),(af (by omega)).trans ((af (by omega)).trans ((af (by omega)).trans n2))⟩) (fail)
   all_goals
    go_wp2_with fail;clear l n0 n1 n2 g0 g1 g2 z0 z1 z2
    generalize((wr.setCell ⟨w.heap.size+1,i*7,Á⟩ (Æ Ä x.op)).setCell ⟨w.heap.size+1,i*7+1,Á⟩ (Ç x.tx)).setCell ⟨w.heap.size+1,i*7+2,Á⟩ (Æ Ä x.n)=C at *
    have c3:=U.o.c0;have k3:=(J.o.get i S).c3;rw[dX]at k3;have z3:C.frozen? ⟨w.heap.size+1,i*7+3,Á⟩=false:=J.o.row.frozen
    have HB:Hid (Cp 228 #[Ë (Ã ⟨w.heap.size+1+1,0,Á⟩),Æ Ä i] C.drew.drew λe a=>e=Í (Æ Ä (aD (ah t) i).en)/\∃q,a=C.drew.drew.drewN q):=by
     have A2:i<(ah t).length:=by rw[A.o];exact S
     obtain⟨g,nx,dp,ks,P⟩:=qi ht A2;refine TK (w.heap.size+1+1) (w.heap.size+1) _ C.drew.drew (by rw[A.o];exact hl) P ?_ (λj hj hjl=>?_) (by rw[A.o];exact c3) (by rw[A.o];exact J.o.kept rfl)
     .rw[dX,u.o]
     .rw[gM (by omega)];simp only[F1];rw[if_pos (by omega)];rfl
    have HF:Hid (ct (ct (F1 (ah t) (i+1)) i ⟨x.op,x.tx,x.n,0,0,0,0⟩) i ⟨x.op,x.tx,x.n,(aD (ah t) i).en,0,0,0⟩=F1 (ah t) i):=by
     show _=_
     have:=JR (R:=ah t) (i:=i)
     rw[q1,u.o]at this;rw[sl];exact this
    have Az:Hid (bq (C.setCell ⟨w.heap.size+1,i*7+3,Á⟩ (Æ Ä (aD (ah t) i).en)) (w.heap.size+1) (ſ ds) (F1 (ah t) i)):=by
     have:=J.o.putEn S (aD (ah t) i).en
     rw[dX,HF.o]at this;exact this
    have A0:Hid (NP w (C.setCell ⟨w.heap.size+1,i*7+3,Á⟩ (Æ Ä (aD (ah t) i).en)) wd (ſ ds)):=U.o.belX (B:=w.heap.size+1+1+1) nL Zl;clear U J HF u
    generalize((aD (ah t) i).en:Int)=en at *
    go_region_held3 (λa=>a.cell? ⟨w.heap.size+1+1,0,Á⟩=Ã (À (Ã ⟨w.heap.size+1,0,Á⟩) (ſ ds) (ſ ds)))
     (first|exact c3|exact(af (by omega)).trans c3) ((go_at_call 228;refine HB.o.mono ?_;rintro e w4⟨rfl,q,rfl⟩))
    all_goals
     go_wp2
     go_roundw
     case rel=>exact⟨A0.o.same rfl rfl rfl rfl,i,by omega,by go_num,Az.o.kept rfl⟩
     case measure=>simp[Ó]
theorem vG{M:List Td}{a:Option Addr}{cap:Nat}(K:iP M):∀F:Fo,F.ok->F.exs->qY M a cap F
 | .nil,_,_=>trivial
 | .cons x k n,hok,hex=>by
  have Z:k.exs:=λy g=>hex y (by simp[Fo.N,g])
  have U:=vG (a:=a) (cap:=cap) K k hok.2.1 Z;have j:=vG (a:=a) (cap:=cap) K n hok.2.2 λy g=>hex y (by simp[Fo.N,g])
  have f:=hex x (by simp[Fo.N]);refine⟨?_,j⟩
  have L:∀(i:Nat)(r:List Td),M.drop i=(Fo.cons x k n).N++r->∀W:É,aG W a M->∃V:i<ſ M,M[i]=x/\(df k.D).N.length<=900/\(k.len≠0->∀X:É,Ì W W X->Î prog 98 #[À a (ſ M) cap,↑((i:Int)+1),↑(k.len:Int)] X λe q=>bK X (df k.D).N e q):=λi r hi W P=>by
   obtain⟨V,Y,m,_,_⟩:=jq hi hok;refine⟨V,Y,?_,λO X p=>?_⟩
   .have s:=tK K m;have t:=nT k.D;omega
   .have h:=I4 (cap:=cap) K k (i+1) _ m hok.2.1 U O X (P.W p);rw[show((i+1:Nat):Int)=(i:Int)+1 by omega]at h;exact h
  rcases iE f with⟨J,_⟩|⟨J,_⟩|⟨J,d,O,o,R⟩|⟨J,b,O,o,R⟩|⟨J,_⟩|⟨J,_⟩
  .exact zw K hok f (.inl J)
  .exact zw K hok f (.inr J)
  .intro i r hi W P;obtain⟨V,Y,S,hK⟩:=L i r hi W P;have I:k.len=x.n.toNat:=hok.1.trans R
   have c:x=⟨3,x.tx,((k.len:Nat):Int)⟩:=by
    obtain⟨H,xt,G⟩:=x;simp only at J O I⊢;rw[J,I,Int.toNat_of_nonneg O]
   have E:x.tx.size<=8:=by rw[<-aw];exact jd d
   have h:=zx 0 (.inl ⟨rfl,rfl,rfl,rfl,rfl⟩) (cap:=cap) K.l V (N:=k.len) (xt:=x.tx) (by omega) E W P (by rw[Y];exact c) (df k.D).N S hK
   have B:(ap x k.D).N=if k.len=0 then [⟨1,(x.tx++(⟨#[40]⟩:ByteArray))++(⟨#[41]⟩:ByteArray),0⟩]else⟨8,⟨#[]⟩,0⟩::(⟨6,⟨#[]⟩,0⟩::([⟨1,x.tx++(⟨#[40]⟩:ByteArray),0⟩]++(⟨6,⟨#[]⟩,0⟩::((⟨7,⟨#[]⟩,2⟩::(⟨6,⟨#[]⟩,0⟩::([⟨3,⟨#[]⟩,0⟩]++(df k.D).N)))++(⟨6,⟨#[]⟩,0⟩::([⟨3,⟨#[]⟩,0⟩]++[⟨1,(⟨#[41]⟩:ByteArray),0⟩])))))):=by
    rw[show ap x k.D=dm (ae x.tx++[40]) [41] k.D by simp[ap,J],LZ x.tx 40];by_cases A:k.len=0
    .have:k.D=[]:=Ê (by rw[jU];exact A)
     rw[if_pos A,this,DC];have C:ab (ae x.tx++[40])++(⟨#[41]⟩:ByteArray)=ab (ae x.tx++[40]++[41]):=bn _ _;rw[C]
    .rw[if_neg A,DB (by rw[jU];exact A)];rfl
   show Î _ _ _ _ _;rw[B];exact h
  .intro i r hi W P;obtain⟨V,Y,S,hK⟩:=L i r hi W P;have I:k.len=x.n.toNat:=hok.1.trans R
   have c:x=⟨4,⟨#[]⟩,((k.len:Nat):Int)⟩:=by
    obtain⟨H,xt,G⟩:=x;simp only at J O I b⊢;rw[J,b,I,Int.toNat_of_nonneg O]
   have h:=zx 1 (.inr ⟨rfl,rfl,rfl,rfl,rfl⟩) (cap:=cap) K.l V (N:=k.len) (xt:=⟨#[]⟩) (by omega) (by decide) W P (by rw[Y];exact c) (df k.D).N S hK
   have B:(ap x k.D).N=if k.len=0 then [⟨1,(⟨#[91]⟩:ByteArray)++(⟨#[93]⟩:ByteArray),0⟩]else⟨8,⟨#[]⟩,0⟩::(⟨6,⟨#[]⟩,0⟩::([⟨1,(⟨#[91]⟩:ByteArray),0⟩]++(⟨6,⟨#[]⟩,0⟩::((⟨7,⟨#[]⟩,2⟩::(⟨6,⟨#[]⟩,0⟩::([⟨3,⟨#[]⟩,0⟩]++(df k.D).N)))++(⟨6,⟨#[]⟩,0⟩::([⟨3,⟨#[]⟩,0⟩]++[⟨1,(⟨#[93]⟩:ByteArray),0⟩])))))):=by
    rw[show ap x k.D=dm [91] [93] k.D by simp[ap,J]];by_cases A:k.len=0
    .have:k.D=[]:=Ê (by rw[jU];exact A)
     rw[if_pos A,this,DC];rfl
    .rw[if_neg A,DB (by rw[jU];exact A)];rfl
   show Î _ _ _ _ _;rw[B];exact h
  .exact FL K hok hex (.inl J) U
  .exact FL K hok hex (.inr J) U
abbrev kj(W:É)(xt:ByteArray)(w:É):Prop:=fp W w/\w.cell? ⟨W,1,Á⟩=Ã (Ç xt)
theorem cc.eig{W o n t w}(h:cc W ⟨o,t,n⟩ w):kj W t w:=⟨h.six,h.n.2.2.1⟩
theorem Kp{ds a cap xt}(hl:ſ ds<=40)(hi:0<ſ ds)(Ab:xt.size<=8)(W:É)(hN:aG W a ds)(he:ds[0]=⟨7,xt,0⟩)(xs)(Aa:ſ xs<=900)
  (hD:∀b:É,Ì W W b->Î prog 68 #[À a (ſ ds) cap,Æ Ä 1] b λe a=>bK b xs e a):
  Î prog 68 #[À a (ſ ds) cap,Æ Ä 0] W λe a=>bK W (⟨8,⟨#[]⟩,0⟩::(⟨6,⟨#[]⟩,0⟩::([⟨1,(⟨#[108,101,116,32]⟩:ByteArray)++xt++(⟨#[32,61]⟩:ByteArray),0⟩]++(⟨7,⟨#[]⟩,2⟩::(⟨6,⟨#[]⟩,0⟩::([⟨2,⟨#[]⟩,0⟩]++(⟨6,⟨#[]⟩,0⟩::(xs++[⟨1,⟨#[59]⟩,0⟩])))))))) e a:=by
 obtain⟨b,o,rfl,hb,z,c2,c3⟩:=hN 0 hi;rw[he]at z c2 c3;simp only[Nat.zero_mul,Nat.add_zero]at z c2 c3;have H:=aa (pE W ⟨7,xt,0⟩);have HD:=aa hD;have hii:(0:Int)<(ſ ds:Int):=(by omega);have g1:¬9223372036854775807<4+xt.size:=(by omega);have g2:¬9223372036854775807<4+xt.size+2:=(by omega);go_in;go_wp2_with fail;refine(HD.o _ H.o.b).mono ?_;rintro e w1 h1;obtain⟨v1,rfl,n1,b1⟩:=h1.val;have Q:=aa (H.o.W b1);have c:=aa n1;go_wp2_with fail;refine(iW _ _).mono ?_;rintro e w2 h2;obtain⟨v2,rfl,n2,w⟩:=h2.val;have R:=aa (Q.o.W w);have d:=aa (c.o.W w);have V:=aa n2;go_wp2_with fail;refine(gl _ d.o V.o (by simp<;>omega)).mono ?_;rintro e A h3;obtain⟨v3,rfl,n3,b3⟩:=h3.val;have B:Hid (cc W ⟨7,xt,0⟩ A):=R.o.W b3;have f:Hid (aM A v3 (⟨6,⟨#[]⟩,0⟩::(xs++[⟨1,⟨#[59]⟩,0⟩]))):=n3;have i:Hid (kj W xt A):=B.o.eig;have p:Hid (kj W xt A.drew):=B.o.eig;have N:Hid (Ì A A A.drew):= Zb.drew;go_wp2_with fail
 go_region_held3 (λa=>kj W xt a) (first|with_reducible exact p.o|with_reducible exact i.o|with_reducible exact j.o|with_reducible exact k.o|with_reducible exact l.o|with_reducible exact m.o|with_reducible exact n.o)
  (first
     | (go_at_call 96;refine((lE ⟨8,⟨#[]⟩,0⟩ (L) P.o (by simp<;>omega))).mono ?_;rintro e v t;have U:Hid (bK W (⟨8,⟨#[]⟩,0⟩::(⟨6,⟨#[]⟩,0⟩::([⟨1,(⟨#[108,101,116,32]⟩:ByteArray)++xt++(⟨#[32,61]⟩:ByteArray),0⟩]++(⟨7,⟨#[]⟩,2⟩::(⟨6,⟨#[]⟩,0⟩::([⟨2,⟨#[]⟩,0⟩]++(⟨6,⟨#[]⟩,0⟩::(xs++[⟨1,⟨#[59]⟩,0⟩])))))))) e v):=t.from D.o.b;obtain⟨v8,rfl,n8,y⟩:=t.val;have S:Hid (cc W ⟨7,xt,0⟩ v):=D.o.W y;have n:Hid (kj W xt v):=S.o.eig;clear t n8 y)
     | (go_at_call 97;refine((gl (K) Z.o O.o (by simp<;>omega))).mono ?_;rintro e L h7;obtain⟨v7,rfl,n7,x⟩:=h7.val;have D:Hid (cc W ⟨7,xt,0⟩ L):=G.o.W x;have m:Hid (kj W xt L):=D.o.eig;have P:Hid (aM L v7 (⟨6,⟨#[]⟩,0⟩::([⟨1,(⟨#[108,101,116,32]⟩:ByteArray)++xt++(⟨#[32,61]⟩:ByteArray),0⟩]++(⟨7,⟨#[]⟩,2⟩::(⟨6,⟨#[]⟩,0⟩::([⟨2,⟨#[]⟩,0⟩]++(⟨6,⟨#[]⟩,0⟩::(xs++[⟨1,⟨#[59]⟩,0⟩])))))))):=n7;clear h7 n7 x)
     | (go_at_call 96;refine((lE ⟨7,⟨#[]⟩,2⟩ (J) M.o (by simp<;>omega))).mono ?_;rintro e K h6;obtain⟨v6,rfl,n6,s⟩:=h6.val;have G:Hid (cc W ⟨7,xt,0⟩ K):=E.o.W s;have l:Hid (kj W xt K):=G.o.eig;have Z:Hid (aM K u ([⟨1,(⟨#[108,101,116,32]⟩:ByteArray)++xt++(⟨#[32,61]⟩:ByteArray),0⟩])):=Y.o.W s;have O:Hid (aM K v6 (⟨7,⟨#[]⟩,2⟩::(⟨6,⟨#[]⟩,0⟩::([⟨2,⟨#[]⟩,0⟩]++(⟨6,⟨#[]⟩,0⟩::(xs++[⟨1,⟨#[59]⟩,0⟩])))))):=n6;clear h6 n6 s)
     | (go_at_call 97;refine((gl (I) C.o.bl g.o (by simp<;>omega))).mono ?_;rintro e J h5;obtain⟨v5,rfl,n5,r⟩:=h5.val;have E:Hid (cc W ⟨7,xt,0⟩ J):=C.o.W r;have k:Hid (kj W xt J):=E.o.eig;have Y:Hid (aM J u ([⟨1,(⟨#[108,101,116,32]⟩:ByteArray)++xt++(⟨#[32,61]⟩:ByteArray),0⟩])):=X.o.W r;have M:Hid (aM J v5 (⟨6,⟨#[]⟩,0⟩::([⟨2,⟨#[]⟩,0⟩]++(⟨6,⟨#[]⟩,0⟩::(xs++[⟨1,⟨#[59]⟩,0⟩]))))):=n5;clear h5 n5 r)
     | (go_at_call 94;refine((iW _ (A.drew)).mono λ_ _ h=>h.from N.o).mono ?_;rintro e I h4;obtain⟨u,rfl,n4,q⟩:=h4.val;have C:Hid (cc W ⟨7,xt,0⟩ I):=B.o.W q;have j:Hid (kj W xt I):=C.o.eig;have g:Hid (aM I v3 (⟨6,⟨#[]⟩,0⟩::(xs++[⟨1,⟨#[59]⟩,0⟩]))):=f.o.W q;have X:Hid (aM I u ([⟨1,(⟨#[108,101,116,32]⟩:ByteArray)++xt++(⟨#[32,61]⟩:ByteArray),0⟩])):=n4;clear h4 n4 q))
 all_goals
  go_wp2;go_ret;exact U.o
theorem Me{g a cap}(_:ſ g<=40)(hi:0<ſ g)(W:É)(l:aG W a g)(m:g[0]=⟨8,⟨#[]⟩,0⟩)(j)(R:ſ j<=900)
  (k:∀h:É,Ì W W h->Î prog 68 #[À a (ſ g) cap,Æ Ä 1] h λe i=>bK h j e i):
  Î prog 68 #[À a (ſ g) cap,Æ Ä 0] W λe i=>bK W (⟨6,⟨#[]⟩,0⟩::(j++[⟨1,⟨#[59]⟩,0⟩])) e i:=by
 obtain⟨b,o,rfl,V,J,K,L⟩:=l 0 hi;rw[m]at J K L;simp only[Nat.zero_mul,Nat.add_zero]at J K L;have A:=aa (pE W ⟨8,⟨#[]⟩,0⟩);have N:=aa k;go_in;go_wp2_with fail;refine(N.o _ A.o.b).mono ?_;rintro e c P;obtain⟨X,rfl,S,O⟩:=P.val;have B:=aa (A.o.W O);have G:=aa S;go_wp2_with fail;refine(iW _ _).mono ?_;rintro e d Q;obtain⟨Y,rfl,U,I⟩:=Q.val;have C:=aa (B.o.W I);have H:=aa (G.o.W I);have E:=aa U;go_wp2_with fail;refine(gl _ H.o E.o (by simp<;>omega)).mono ?_;rintro e f M;have D:=aa (M.from C.o.b);obtain⟨Z,rfl,_,_⟩:=M.val;go_wp2;go_ret;exact D.o
theorem PL{t a cap}(h:ag t=0)(m:aR t≠9)(W)(j:aG W a t):Î prog 68 #[À a (ſ t) cap,Æ Ä 0] W λe l=>bK W (aN t).N e l:=by
 obtain⟨K,V,_,_⟩:=lF h;have R:iP t:=⟨K,V⟩;obtain⟨x,y,k,rfl,H,L,Y,Z⟩:=tS h m;have B:0<(x::(Fo.cons y k .nil).N).length:=by simp
 have E:=vG (a:=a) (cap:=cap) R (.cons y k .nil) H L;have Q:(x::(Fo.cons y k .nil).N).drop 1=(Fo.cons y k .nil).N++[]:=by simp
 have P:∀i:É,Ì W W i->Î prog 68 #[À a (x::(Fo.cons y k .nil).N).length cap,Æ Ä 1] i λe l=>bK i (ap y k.D).N e l:=λi n=>E.1 1 [] Q i (j.W n)
 have G:(ap y k.D).N.length<=900:=by
  have O:=tK R Q;rw[Fo.D,jc]at O;simp only at O;omega
 have S:=tR H Y;rw[S];rcases Z with⟨C,M,A⟩|⟨C,I,A⟩
 .have X:x.tx.size<=8:=by rw[<-aw];exact jd M
  have J:=Kp (cap:=cap) K B X W j (by obtain⟨f,g,d⟩:=x;simp only at C A;subst C A;rfl) _ G P
  have U:(⟨#[108,101,116,32]⟩:ByteArray)++x.tx++(⟨#[32,61]⟩:ByteArray)=ab ([108,101,116,32]++ae x.tx++[32,61]):=by
   have b:ab [108,101,116,32]++ab (ae x.tx)=ab ([108,101,116,32]++ae x.tx):=bn _ _;have c:ab ([108,101,116,32]++ae x.tx)++ab [32,61]=ab ([108,101,116,32]++ae x.tx++[32,61]):=bn _ _;rw[<-c,<-b];rfl
  rw[U]at J;rw[gp,if_pos C];exact J
 .have J:=Me (cap:=cap) K B W j (by obtain⟨f,g,d⟩:=x;simp only at C A I;subst C A I;rfl) _ G P;rw[gp,if_neg (by omega)];exact J
end Go.Proofs.YtelcnplcpboonaaGreatDoor
namespace Go.Proofs.YtelcnplcpboonaaGreatDoor
open Go Go.RowKit Go.Shelf
attribute [local go_sem] Oper.semAt_some
set_option maxRecDepth 100000
set_option maxHeartbeats 2000000
theorem zV(s):(aX s).length<=s.size+1:=by
 have:=KZ s.data.toList
 rw[<-Lib.size_eq]at this;unfold aX;simpa using this
def mx(pre:List gb):List Value:=strCells (pre.map (·.1))
theorem UN(A x):mx (A++[x])=mx A++[Ç x.1]:=by simp[mx,strCells]
theorem Rc(n)(hn:3<=n)(s)(hs:s.size<=100000000)(Bn)(w:É)(V:Bn<w.heap.size)(hc:w.cell? ⟨Bn,0,Á⟩=Ã (Ç s)):
  CallsIn Fence.wide n prog 123 #[À Á 0 0,.func (.func 124) #[] #[Ë (Ã ⟨Bn,0,Á⟩)]] w λe a=>∃A c,e=Í (À A (aX s).length c)/\cP w (À A (aX s).length c) (aX s) a/\Ì w w a:=by
 have u:1<=n:=by omega
 have j:(aX s).length<=100000001:=by have:=zV s;omega
 obtain⟨i0,hi,a,b,d⟩:=info_parts j7;obtain⟨F,E⟩:∃F,F=Fence.wide:=⟨_,rfl⟩;rw[<-E];have i:∀f,F.fn f:=λf=>by rw[E];trivial
 have Q:F.round=none:=by rw[E];rfl
 have U:Hid (F=Fence.wide):=E;have m:=Boxed.new w 72 (À Á 0 0);have N:Ì w w (w.alloc (Â #[À Á 0 0] 72)):=(Below.refl _ w).alloc Zl _;have I:=I7 (n-1) (by omega) Bn w.heap.size s hs (w.alloc (Â #[À Á 0 0] 72)) (by simp;omega) ((N.cell (p:=⟨Bn,0,Á⟩) V).trans hc);rw[<-U.o]at I;clear E;refine callsIn_of_wp_marks func123 rfl (i 123) ?_ Q;simp only[ntmps123,List.size_toArray,List.length_cons,List.length_nil,Nat.reduceAdd,Nat.reduceSub,Array.replicate_succ,Array.replicate_zero,List.push_toArray,List.append_toArray,List.nil_append,List.cons_append]
 gi_wp2
 refine wpIn_rangeFunc_ownF Q u (gf:=124) (lb:=#[Ë (Ã ⟨Bn,0,Á⟩)]) rfl (i 124) (enters_of func124 (by kernel_rfl) rfl)
  I belowK_t (belowK_b (by simp)) Zb (λ_=>rfl)
  (λC W=>(∃v,Boxed W w.heap.size 72 v/\W.ownsRow w.heap.size 9 1 v (ſ C) (mx C)/\True)/\Ì w w W)
  (λ_ _ _=>False)
  (OwnFrom.and (Own.from (holdsRow_own w.heap.size w.heap.size 72 9 1 (λC:List gb=>ſ C) (λC=>mx C) (λ_ _=>True)) _) (ownFrom_below Zl (by simp)))
  (λ_ _ _ _ _ a _ _=>a)
  ⟨⟨_,m,World.ownsRow_nil _ _ _ _,trivial⟩,N⟩
  (λx=>{tmps:=#[À Á 0 0,.func (.func 124) #[] #[Ë (Ã ⟨Bn,0,Á⟩)],Ë (Ã ⟨w,0,Á⟩),Ò,À Á 0 0,Ç x.1,.func (.func 124) #[] #[Ë (Ã ⟨Bn,0,Á⟩)],Ç x.1,Ò,Ò,Ò,Ò,Ò],defers:=[]}) ?assign ?body ?done ?stop
 case assign=>
  intro l x W K O
  gi_wp2
  exact O
 case body=>
  rintro l C x W⟨⟨v,J,B,_⟩,M⟩Ab;have hc:=J.cell
  gi_wp2_with (gi_at_builtin;refine wpListIn_append_own _ rfl _ _ 72 rfl w.heap.size 9 i0 (Ç ⟨#[]⟩) 1 16 Tryz.underlying72 hi a b d rfl (by decide) _ _ _ rfl (B.alloc _) ⟨W,0,Á⟩ 1 1 [Ç x.1] rfl rfl (cell_one_new _ _ _) (by simp[Value.oneCell']) (by unfold maxLen;omega) (by omega) (by have:=M.size;simp;omega) ?_;intro v' w1 G L _;obtain⟨r,g,rfl⟩:=ownsRow_succ G;obtain⟨R,Z,Y,X,P⟩:=J.appended (by decide) B M.size Zl G L;have z:=R.cell;have Aa:=R.frozen)
  exact⟨X,P,⟨_,Z,by rw[UN];simpa using Y,trivial⟩,M.trans P⟩
 case done=>
  rintro D k W y S⟨⟨v,J,B,_⟩,M⟩O;have hc:=J.cell;have hl:ſ k=(aX s).length:=by rw[<-S,List.length_map]
  have H:mx k=strCells (aX s):=by rw[mx,S]
  rw[hl,H]at B
  obtain⟨A,c,rfl⟩:∃A c,v=À A (aX s).length c:=by
   rcases B.2 with⟨J,t⟩|⟨r,o,q,J,_⟩
   .exact⟨Á,0,by rw[J,t]⟩
   .exact⟨_,o,J⟩
  gi_wp2
  refine⟨by simp,.inl ⟨_,_,rfl,run_takeDeferred O,?_⟩⟩;exact⟨_,results_tmp rfl _ _ _,A,c,rfl,ownsRow_putObj B _ O rfl,M.trans (belowK_b (w:=w) Zl W D _ _ (by simp at y;omega) O rfl rfl)⟩
 case stop=>
  rintro D c C W _ _ h _;exact h.elim
theorem Pp(s)(L:s.size<=100000000)(I:Nat)(w:É)(B:I<w.heap.size)(K:w.cell? I=Ã (Ç s)):
  Î prog 90 #[.func (.func 124) #[] #[Ë I]] w λe J=>∃A c,e=Í (À A (aX s).length c)/\cP w (À A (aX s).length c) (aX s) J/\Ì w w J:=by
 have C:=aa (callsIn_wide.1 (Rc 3 Zl s L I w B K))
 generalize(aX s).length=nl at C⊢
 go_in;go_wp2_with fail;refine C.o.mono ?_;rintro e H⟨A,c,rfl,G,E⟩;have D:=aa G;go_wp2;go_ret;exact⟨A,c,rfl,D.o,E⟩
end Go.Proofs.YtelcnplcpboonaaGreatDoor
namespace Go.Proofs.YtelcnplcpboonaaGreatDoor
open Go Go.RowKit
def dP{α:Type}[DecidableEq α]:List α->List α->Nat
 | x::a,y::b=>if x=y then dP a b+1 else 0
 | _,_=>0
theorem tP(c r):∃h t,cy r=h::t/\cy (c::r)=if c=10 then []::h::t else(c::h)::t:=by
 cases B:cy r with
 | nil=>exact absurd B (pJ r)
 | cons h t=>
  refine⟨h,t,rfl,?_⟩;rw[cy,B];by_cases A:c=10
  .rw[if_pos A,if_pos (by simp[A])]
  .rw[if_neg A,if_neg (by simp[A])];rfl
theorem wB:∀(a b:List UInt8)(l:Nat),a≠b->((l+dP (cy a) (cy b):Nat):Int)=cL a b l
 | [],[],_,h=>absurd rfl h
 | [],c::r,l,_=>by
  obtain⟨h,t,_,e⟩:=tP c r;rw[e,cL];by_cases C:c=10
  .rw[if_pos C,if_pos C];simp[cy,dP]
  .rw[if_neg C,if_neg C];simp[cy,dP]
 | c::r,[],l,_=>by
  obtain⟨h,t,_,e⟩:=tP c r;rw[e,cL];by_cases C:c=10
  .rw[if_pos C,if_pos C];simp[cy,dP]
  .rw[if_neg C,if_neg C];simp[cy,dP]
 | x::a,y::b,l,h=>by
  obtain⟨I,K,G,M⟩:=tP x a;obtain⟨J,L,H,N⟩:=tP y b;rw[M,N,cL];by_cases D:x=y
  .subst D;have E:a≠b:=λe=>h (by rw[e])
   rw[if_pos rfl];by_cases B:x=10
   .have ih:=wB a b (l+1) E;rw[G,H]at ih;rw[if_pos B,if_pos B,if_pos B,<-ih,dP,if_pos rfl];omega
   .have ih:=wB a b l E;rw[G,H]at ih;rw[if_neg B,if_neg B,if_neg B,<-ih,dP,dP];simp
  .rw[if_neg D]
   have O:dP (if x=10 then []::I::K else(x::I)::K) (if y=10 then []::J::L else(y::J)::L)=0:=by
    by_cases B:x=10
    .have A:y≠10:=λe=>D (by rw[B,e])
     rw[if_pos B,if_neg A,dP,if_neg (by simp)]
    .by_cases A:y=10
     .rw[if_neg B,if_pos A,dP,if_neg (by simp)]
     .rw[if_neg B,if_neg A,dP,if_neg (by simp[D])]
   rw[O];rfl
theorem FG{α β:Type}[DecidableEq α] [DecidableEq β](f:α->β)(A:∀x y,f x=f y->x=y):∀a b:List α,dP (a.map f) (b.map f)=dP a b
 | [],b=>by simp[dP]
 | x::a,[]=>by simp[dP]
 | x::a,y::b=>by
  rw[Ñ,Ñ,dP,dP,FG f A a b];by_cases h:x=y
  .rw[if_pos h,if_pos (by rw[h])]
  .rw[if_neg h,if_neg (λe=>h (A x y e))]
theorem Ht{α:Type}[DecidableEq α]:∀(a b:List α)(n:Nat),a.take n=b.take n->n<=ſ a->n<=ſ b->(∀(A:n<ſ a)(B:n<ſ b),a[n]≠b[n])->dP a b=n
 | [],b,n,_,h,_,_=>by
  have:n=0:=Nat.le_zero.1 h
  subst this;simp[dP]
 | x::a,[],n,_,_,h,_=>by
  have:n=0:=Nat.le_zero.1 h
  subst this;simp[dP]
 | x::a,y::b,0,_,_,_,hd=>by
  have:=hd (by simp) (by simp)
  rw[dP,if_neg (by simpa using this)]
 | x::a,y::b,n+1,ht,ha,hb,hd=>by
  rw[Ï,Ï]at ht;obtain⟨rfl,C⟩:=List.cons.inj ht
  rw[dP,if_pos rfl,Ht a b n C (by simpa using ha) (by simpa using hb) (λA B=>by
   have:=hd (by simpa using A) (by simpa using B)
   simpa using this)]
theorem Lf(x y:List UInt8)(h:(⟨x.toArray⟩:ByteArray)=⟨y.toArray⟩):x=y:=by grind
theorem FF(a b n)(D:(aX a).take n=(aX b).take n)(A:n<=(aX a).length)(B:n<=(aX b).length)(C:∀(h1:n<(aX a).length)(h2:n<(aX b).length),(aX a)[n]≠(aX b)[n]):dP (cy a.data.toList) (cy b.data.toList)=n:=by
 rw[<-FG (λl:List UInt8=>(⟨l.toArray⟩:ByteArray)) Lf];exact Ht _ _ n D A B C
