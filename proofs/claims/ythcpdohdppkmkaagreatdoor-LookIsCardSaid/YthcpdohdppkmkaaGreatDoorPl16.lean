import Derived.Test.YthcpdohdppkmkaaGreatDoorPl15
open Go.Proofs.Tryz
namespace Go.Proofs.YthcpdohdppkmkaaGreatDoor
open Go Go.RowKit
set_option maxRecDepth 100000
set_option maxHeartbeats 8000000
theorem k0j(ds:List Nd)(t:Tr)(hd:ds=t.N)(ht:t.Wf)(hl:ds.length<=400)(a:Option Addr)(cap s wd:Nat)(A8:ds.length<=cap)(w:World)(hN:q1k s w a ds)(hs:s<w.heap.size):
  Calls prog 62 #[.slice a ds.length cap,.int .i64 wd] w fun e w'=>e=.returned (.agg #[.slice (some ⟨w.heap.size+1,0,none⟩) ds.length ds.length,.int .i64 wd])/\PwR w' (w.heap.size+1) ds.length (fun j=>q2 (q1p (q0a t) j))/\Below w w w':=by
 have Al:(q0a t).length=ds.length:=by rw[q2y,hd];rfl
 have Y:0<ds.length:=by rw[hd];exact t.pos
 have hm:∀W:World,(Instr.makeSlice 113 (.int .i64 (ds.length:Int)) (.int .i64 (ds.length:Int))).run prog W=.ok (.slice (some ⟨W,0,none⟩) ds.length ds.length) (W.alloc (.cells (madeCells q5q (ds.length*7)) 182)):=j2q ds.length hl;have Ah:Hid (∀W:World,NP W (((W.alloc (.cells #[.slice none 0 0,.int .i64 0] 115)).alloc (.cells (madeCells q5q (ds.length*7)) 182)).alloc (.cells #[.slice (some ⟨W.heap.size+1,0,none⟩) ds.length ds.length,.int .i64 wd] 115)) wd ds.length/\PwR (((W.alloc (.cells #[.slice none 0 0,.int .i64 0] 115)).alloc (.cells (madeCells q5q (ds.length*7)) 182)).alloc (.cells #[.slice (some ⟨W.heap.size+1,0,none⟩) ds.length ds.length,.int .i64 wd] 115)) (W.heap.size+1) ds.length (fun _=>q0)):=fun W=>v4y W wd ds.length
 have HD:Hid (ds=t.N):=hd;have HN:Hid (q1k s w a ds):=hN;have A:Hid ((q0a t).length=ds.length):=Al;clear hd hN Al
 have ea:∃o,a=some ⟨s,o,none⟩:=by
  obtain⟨o,e,_⟩:=HN.o 0 Y;exact⟨o,e⟩
 obtain⟨o,rfl⟩:=ea
 have Af:Hid (∀(W:World)i(h:i<ds.length),Below w w W->W.cell? ⟨s,o+i*3,none⟩=some (.int .i64 ds[i].op)/\W.cell? ⟨s,o+i*3+1,none⟩=some (.string ds[i].tx)/\W.cell? ⟨s,o+i*3+2,none⟩=some (.int .i64 ds[i].n)):=fun W i h hW=>by
  obtain⟨o',e,d⟩:=(HN.o.kept (hW.block s hs)) i h;simp only[Option.some.injEq,Addr.mk.injEq,and_true,true_and]at e;subst e;exact d
 have Ac:Hid (∀i(h:i<ds.length),(q1p (q0a t) i).nd=ds[i]):=fun i h=>by
  have e1:(q0a t).map (·.nd)=ds:=by rw[HD.o];exact z2a t _ _ _ _
  have S:i<(q0a t).length:=by rw[A.o];exact h
  have e2:((q0a t).map (·.nd))[i]?=some ds[i]:=by rw[e1];exact List.getElem?_eq_getElem h
  rw[List.getElem?_map,List.getElem?_eq_getElem S]at e2;rw[q1p,List.getD,List.getElem?_eq_getElem S];simpa using e2
 go_in;go_wp2_with fail
 go_loopw [6] (fun i wr=>NP w wr wd ds.length/\∃k:Nat,k<=ds.length/\i=.int .i64 ((k:Int)-1)/\PwR wr (w.heap.size+1) ds.length (F1 (q0a t) k)) (fun i _=>(intOf i+1).toNat)
 case atStart=>
  refine⟨(Ah.o w).1,ds.length,Nat.le_refl _,rfl,(Ah.o w).2.congr fun j hj=>?_⟩;simp only[F1];rw[if_neg (by omega)]
 case round=>
  obtain⟨O,k,hk,rfl,L⟩:=hrel;have b:Hid (NP w wr wd ds.length):=O;have Q:Hid (PwR wr (w.heap.size+1) ds.length (F1 (q0a t) k)):=L;have l:=O.c0;clear O L;by_cases A3:k=0
  ·subst A3;have Bb:¬((0:Int)<=((0:Nat):Int)-1):=by omega
   have e4:wr.cell? ⟨w.heap.size+1,4,none⟩=some (.int .i64 (F1 (q0a t) 0 0).nx):=by have:=(Q.o.get 0 Y).c4;simpa using this
   have f4:wr.frozen? ⟨w.heap.size+1,4,none⟩=false:=Q.o.row.frozen;have A7:(0:Int)<(ds.length:Int):=by omega
   have I:Hid (PwR (wr.setCell ⟨w.heap.size+1,4,none⟩ (.int .i64 (ds.length:Int))) (w.heap.size+1) ds.length (upd (F1 (q0a t) 0) 0 {F1 (q0a t) 0 0 with nx:=(ds.length:Int)})):=by
    have:=Q.o.putNx Y (ds.length:Int)
    rw[Nat.zero_mul,Nat.zero_add]at this;exact this
   have K:Hid (Tl (q0a t) t.lf t.dsum 0 (upd (F1 (q0a t) 0) 0 {F1 (q0a t) 0 0 with nx:=(ds.length:Int)})):=by
    have:=Tl.start (t:=t)
    rw[<-q2y,A.o]at this;exact this
   have D:Hid (NP w (wr.setCell ⟨w.heap.size+1,4,none⟩ (.int .i64 (ds.length:Int))) wd ds.length):=b.o.belX (B:=w.heap.size+1+1+1) y3x Zl;go_wp2_with fail;generalize wr.setCell ⟨w.heap.size+1,4,none⟩ (.int .i64 (ds.length:Int))=w5 at *;clear l e4 f4 b Q
   go_loopw [44] (fun i wq=>NP w wq wd ds.length/\∃k:Nat,k<=ds.length/\i=.int .i64 k/\∃F,PwR wq (w.heap.size+1) ds.length F/\Tl (q0a t) t.lf t.dsum k F) (fun i _=>ds.length-(intOf i).toNat)
   case atStart=>exact⟨D.o,0,Nat.zero_le _,rfl,_,I.o,K.o⟩
   case round=>
    clear D I K;obtain⟨O,k,hk,rfl,F,L,hT⟩:=hrel;have b:Hid (NP w wr wd ds.length):=O;by_cases H:k<ds.length
    ·have Aa:k<(q0a t).length:=by rw[A.o];exact H
     obtain⟨g,nx,dp,ks,P⟩:=j9s ht Aa
     have h0:k=0\/∃p,p<k/\j1l (q0a t) t.lf t.dsum p k:=by
      rcases Nat.eq_zero_or_pos k with e|e
      ·exact .inl e
      ·exact .inr (k2c ht e Aa)
     have hM:t.dsum<=3200:=by have:=q9l t;rw[<-HD.o]at this;omega
     have z:=y0l (w.heap.size+1+1) (w.heap.size+1) F wr (by rw[A.o];exact hl) hM P hT h0 (by omega) (by rw[A.o];exact O.c0) (by rw[A.o];exact L);rw[A.o]at z;obtain⟨r,Ao⟩:=v5z HD.o P;have Ad:=(show Hid _ from z);have G:Hid (Sp (q0a t) t.lf t.dsum k g nx dp ks):=P;have Ae:Hid (ds.drop k=g.N++r):=Ao;clear O L hT z h0 P Ao Aa;have Ba:(k:Int)<(ds.length:Int):=by omega
     have A6:(0:Int)<=(k:Int):=by omega
     go_wp2_with fail;refine Calls.mono Ad.o ?_;rintro e E⟨rfl,⟨Z,At,Am,Au⟩,An⟩;have D:Hid (NP w E wd ds.length):=b.o.belX An (by have:=b.o.lt;omega);have I:Hid (PwR E (w.heap.size+1) ds.length Z):=At;have K:Hid (Tl (q0a t) t.lf t.dsum k Z):=Am;have Ag:Hid (∀j,j<ds.length->j1l (q0a t) t.lf t.dsum k j->(Z j).nx=(q1p (q0a t) j).nx/\(Z j).dp=(q1p (q0a t) j).dp):=Au;clear At Am Au An b Ad;have d0:=(Af.o E k H D.o.bw).1;have hx:ds[k]=g.root:=by rw[<-Ac.o k H,G.o.at];rfl
     rw[hx]at d0;clear hx;by_cases y:g.root.op=8
     ·cases g with
      | leaf x=>
       have c:x.op=8:=y;rcases q3y G.o.wf.1 G.o.wf.2 with e|e|e|e|e<;>omega
      | two x a' b'=>
       have c:x.op=8:=y;rcases q7k G.o.wf.2.1 with e|e<;>omega
      | one x a'=>
       rw[y]at d0;have l:=D.o.c0;obtain⟨_,_,_,g3,_,_,g6⟩:=I.o.get k H;have z6:E.frozen? ⟨w.heap.size+1,k*7+6,none⟩=false:=I.o.row.frozen;have Ap:(Z k).en=((k+(Tr.one x a').N.length:Nat):Int):=by rw[K.o.en k (by rw[A.o];exact H),G.o.at];rfl
       rw[Ap]at g3
       have V:(q1p (q0a t) k).lg=lgF a'.flat:=by
        rw[G.o.at];show Tr.lg (.one x a')=_;have c:x.op=8:=y;simp[Tr.lg,c]
       have Ar:k+(Tr.one x a').N.length<=ds.length:=by
        have:=congrArg List.length Ae.o
        rw[List.length_drop,List.length_append]at this;omega
       have Bj:=(Tr.one x a').pos;have X:q1u E (some ⟨s,o+k*3,none⟩) (Tr.one x a').N:=((HN.o.kept (D.o.bw.block s hs)).part Ae.o).nods (by have:=D.o.bw.size;omega);generalize hj:k+(Tr.one x a').N.length=j at g3 Ar;have Ab:(Tr.one x a').N.length=j-k:=by omega
       have m:Hid (Calls prog 109 #[.slice (some ⟨s,o+k*3,none⟩) (j-k) (cap-k)] E.drew fun e w'=>e=.returned (.int .i64 (lgF a'.flat))/\Below E.drew.heap.size E.drew w'):=by
        have:=j2p (Tr.one x a').N (Tr.one x a') rfl G.o.wf (by omega) (some ⟨s,o+k*3,none⟩) (cap-k) (by omega) E.drew (X.W (Below.drew (Below.refl _ E)))
        rw[Ab]at this;exact this
       have Ay:Hid ((q1p (q0a t) k).lg=lgF a'.flat):=V;have h1:(k:Int)<=(j:Int):=by omega
       have Bi:(0:Int)<=(j:Int):=by omega
       have Bg:(k:Int)<(cap:Int):=by omega
       have Bd:¬(cap-k=0):=by omega
       have Be:¬(cap=k):=by omega
       have Bh:((j:Int)-(k:Int)).toNat=j-k:=by omega
       have A9:((cap:Int)-(k:Int)).toNat=cap-k:=by omega
       have h2:(j:Int)<=(cap:Int):=by omega
       have h3:(j:Int)<=(ds.length:Int):=by omega
       clear X Ab Ap V hj;have A1:=D.o.lt;have Av:Hid (∀C,Below E.drew.heap.size E.drew C->C.cell? ⟨w.heap.size+1+1,0,none⟩=some (.slice (some ⟨w.heap.size+1,0,none⟩) ds.length ds.length)):=fun C hb=>(hb.cell (p:=⟨w.heap.size+1+1,0,none⟩) A1).trans l
       have Aw:Hid (∀C,Below E.drew.heap.size E.drew C->C.cell? ⟨w.heap.size+1,k*7+3,none⟩=some (.int .i64 (j:Int))):=fun C hb=>(hb.cell (p:=⟨w.heap.size+1,k*7+3,none⟩) (by show w.heap.size+1<E.heap.size;omega)).trans g3
       have Ax:Hid (∀C,Below E.drew.heap.size E.drew C->PwR C (w.heap.size+1) ds.length Z/\NP w C wd ds.length):=fun C hb=>⟨I.o.kept (hb.block _ (by show w.heap.size+1<E.heap.size;omega)),D.o.belX (B:=E.heap.size) (q0v.of ((Below.drew (Below.refl _ E)).trans hb)) (by omega)⟩
       go_wp2_with fail
       go_region_held3 (fun w'=>w'.cell? ⟨w.heap.size+1+1,0,none⟩=some (.slice (some ⟨w.heap.size+1,0,none⟩) ds.length ds.length)/\w'.cell? ⟨w.heap.size+1,k*7+3,none⟩=some (.int .i64 (j:Int)))
        (first|exact⟨l,g3⟩|exact⟨Ai,Aj⟩|exact⟨(cso (by omega)).trans Ai,(cso (by omega)).trans Aj⟩)
        ((go_at_call 109;refine m.o.mono ?_;rintro e C⟨rfl,M⟩;have Ai:=Av.o C M;have Aj:=Aw.o C M;obtain⟨f,As⟩:=Ax.o C M;have Bc:=(f.get k H).c6;have Bk:C.frozen? ⟨w.heap.size+1,k*7+6,none⟩=false:=f.row.frozen;have J:Hid (PwR C (w.heap.size+1) ds.length Z):=f;have U:Hid (NP w C wd ds.length):=As;clear f As M))
       all_goals
        go_wp2
        go_roundw
        case rel=>exact⟨(U.o.belX (B:=w.heap.size+1+1+1) y3x Zl).same rfl rfl rfl rfl,k+1,by omega,by go_num,_,(J.o.putLg H (lgF a'.flat)).kept rfl,by rw[<-Ay.o];exact K.o.nextLg (by rw[A.o];exact Ag.o)⟩
        case measure=>simp[intOf];omega
     ·have c:(g.root.op==8)=false:=beq_eq_false_iff_ne.2 y
      have V:(Z k).lg=(q1p (q0a t) k).lg:=by
       rw[K.o.l0 k (by rw[A.o];exact H) Zl,G.o.at];show 0=g.lg;cases g with
       | leaf x=>rfl
       | two x a' b'=>rfl
       | one x a'=>
        have Ak:¬x.op=8:=y;simp[Tr.lg,Ak]
      have m:Hid ((Z k).lg=(q1p (q0a t) k).lg):=V;clear V y;go_wp2
      go_roundw
      case rel=>exact⟨D.o,k+1,by omega,by go_num,Z,I.o,K.o.next (by rw[A.o];exact Ag.o) m.o⟩
      case measure=>simp[intOf];omega
    ·have Aq:k=ds.length:=by omega
     have hF:=Tl.all ht (by rw[A.o,<-Aq];exact hT);have Q:Hid (PwR wr (w.heap.size+1) ds.length (fun j=>q2 (q1p (q0a t) j))):=L.congr (by rw[<-A.o];exact hF);have l:=O.c0;have c1:=O.c1;have r0:=O.r0;have r1:=O.r1;have f0:wr.frozen? ⟨w,0,none⟩=false:=O.f0.frozen;have f1:wr.frozen? ⟨w,1,none⟩=false:=O.f0.frozen;have Ab:¬((k:Int)<(ds.length:Int)):=by omega
     clear O L hT hF Aq;go_wp2;refine bodyPost_ret (v:=.agg #[.slice (some ⟨w.heap.size+1,0,none⟩) ds.length ds.length,.int .i64 wd]) (by simp[results,Tryz.results62,go_sem,r0,r1]) rfl ?_;have A5:∀v0 v1,((wr.setCell ⟨w,0,none⟩ v0).setCell ⟨w,1,none⟩ v1).heap[w.heap.size+1]?=wr.heap[w.heap.size+1]?:=fun v0 v1=>(Below.heap_setCell _ _ _ _ (by simp)).trans (Below.heap_setCell _ _ _ _ (by simp))
     exact⟨rfl,Q.o.kept (A5 _ _),b.o.bw.trans (((Below.refl _ wr).setCell (p:=⟨w,0,none⟩) Zl _).setCell (p:=⟨w,1,none⟩) Zl _)⟩
  ·obtain⟨i,rfl⟩:∃i,k=i+1:=⟨k-1,by omega⟩;have A4:(((i+1:Nat):Int)-1)=(i:Int):=by omega
   rw[A4];have S:i<ds.length:=by omega
   obtain⟨n0,n1,n2⟩:=Af.o wr i S b.o.bw;have HX:=Ac.o i S;generalize ds[i]=x at n0 n1 n2 HX;have u:Hid ((q1p (q0a t) i).nd=x):=HX;clear HX;obtain⟨g0,g1,g2,_,_,_,_⟩:=Q.o.get i S;have z0:wr.frozen? ⟨w.heap.size+1,i*7,none⟩=false:=Q.o.row.frozen;have z1:wr.frozen? ⟨w.heap.size+1,i*7+1,none⟩=false:=Q.o.row.frozen;have z2:wr.frozen? ⟨w.heap.size+1,i*7+2,none⟩=false:=Q.o.row.frozen;have A6:(0:Int)<=(i:Int):=by omega
   have Bf:(i:Int)<(ds.length:Int):=by omega
   have J:Hid (PwR (((wr.setCell ⟨w.heap.size+1,i*7,none⟩ (.int .i64 x.op)).setCell ⟨w.heap.size+1,i*7+1,none⟩ (.string x.tx)).setCell ⟨w.heap.size+1,i*7+2,none⟩ (.int .i64 x.n)) (w.heap.size+1) ds.length (upd (F1 (q0a t) (i+1)) i ⟨x.op,x.tx,x.n,0,0,0,0⟩)):=by
    have h:=((Q.o.putOp S x.op).putTx S x.tx).putN S x.n;rw[z9r,z9r,q0n,q0n]at h;have e:F1 (q0a t) (i+1) i=q0:=by simp only[F1];rw[if_neg (by omega)]
    rw[e]at h;exact h
   have U:Hid (NP w (((wr.setCell ⟨w.heap.size+1,i*7,none⟩ (.int .i64 x.op)).setCell ⟨w.heap.size+1,i*7+1,none⟩ (.string x.tx)).setCell ⟨w.heap.size+1,i*7+2,none⟩ (.int .i64 x.n)) wd ds.length):=b.o.belX (B:=w.heap.size+1+1+1) ((y3x.trans y3x).trans y3x) Zl;clear Q b;go_wp2_with fail
   go_region_held3 (fun w'=>w'.cell? ⟨w.heap.size+1+1,0,none⟩=some (.slice (some ⟨w.heap.size+1,0,none⟩) ds.length ds.length)/\w'.cell? ⟨s,o+i*3,none⟩=some (.int .i64 x.op)/\w'.cell? ⟨s,o+i*3+1,none⟩=some (.string x.tx)/\w'.cell? ⟨s,o+i*3+2,none⟩=some (.int .i64 x.n))
    (first|exact⟨l,n0,n1,n2⟩|exact⟨(cso (by omega)).trans ((cso (by omega)).trans ((cso (by omega)).trans l)),(cso (by omega)).trans ((cso (by omega)).trans ((cso (by omega)).trans n0)),(cso (by omega)).trans ((cso (by omega)).trans ((cso (by omega)).trans n1)),(cso (by omega)).trans ((cso (by omega)).trans ((cso (by omega)).trans n2))⟩) (fail)
   all_goals
    go_wp2_with fail;clear l n0 n1 n2 g0 g1 g2 z0 z1 z2
    generalize((wr.setCell ⟨w.heap.size+1,i*7,none⟩ (.int .i64 x.op)).setCell ⟨w.heap.size+1,i*7+1,none⟩ (.string x.tx)).setCell ⟨w.heap.size+1,i*7+2,none⟩ (.int .i64 x.n)=C at *
    have c3:=U.o.c0;have k3:=(J.o.get i S).c3;rw[q0n]at k3;have z3:C.frozen? ⟨w.heap.size+1,i*7+3,none⟩=false:=J.o.row.frozen
    have HB:Hid (Calls prog 107 #[.pointer (some ⟨w.heap.size+1+1,0,none⟩),.int .i64 i] C.drew.drew fun e w'=>e=.returned (.int .i64 (q1p (q0a t) i).en)/\∃q,w'=C.drew.drew.drewN q):=by
     have A2:i<(q0a t).length:=by rw[A.o];exact S
     obtain⟨g,nx,dp,ks,P⟩:=j9s ht A2;refine v2e (w.heap.size+1+1) (w.heap.size+1) _ C.drew.drew (by rw[A.o];exact hl) P ?_ (fun j hj hjl=>?_) (by rw[A.o];exact c3) (by rw[A.o];exact J.o.kept rfl)
     ·rw[q0n,u.o]
     ·rw[q1l (by omega)];simp only[F1];rw[if_pos (by omega)];rfl
    have HF:Hid (upd (upd (F1 (q0a t) (i+1)) i ⟨x.op,x.tx,x.n,0,0,0,0⟩) i ⟨x.op,x.tx,x.n,(q1p (q0a t) i).en,0,0,0⟩=F1 (q0a t) i):=by
     show _=_
     have:=v9r (R:=q0a t) (i:=i)
     rw[q1,u.o]at this;rw[z9r];exact this
    have Az:Hid (PwR (C.setCell ⟨w.heap.size+1,i*7+3,none⟩ (.int .i64 (q1p (q0a t) i).en)) (w.heap.size+1) ds.length (F1 (q0a t) i)):=by
     have:=J.o.putEn S (q1p (q0a t) i).en
     rw[q0n,HF.o]at this;exact this
    have A0:Hid (NP w (C.setCell ⟨w.heap.size+1,i*7+3,none⟩ (.int .i64 (q1p (q0a t) i).en)) wd ds.length):=U.o.belX (B:=w.heap.size+1+1+1) y3x Zl;clear U J HF u
    generalize((q1p (q0a t) i).en:Int)=en at *
    go_region_held3 (fun w'=>w'.cell? ⟨w.heap.size+1+1,0,none⟩=some (.slice (some ⟨w.heap.size+1,0,none⟩) ds.length ds.length))
     (first|exact c3|exact(cso (by omega)).trans c3) ((go_at_call 107;refine HB.o.mono ?_;rintro e w4⟨rfl,q,rfl⟩))
    all_goals
     go_wp2
     go_roundw
     case rel=>exact⟨A0.o.same rfl rfl rfl rfl,i,by omega,by go_num,Az.o.kept rfl⟩
     case measure=>simp[intOf]
theorem k4q(c:Int)(h:c=0\/c=1)(w:World):Calls prog 68 #[.int .i64 c] w fun e w'=>e=.returned (.bool false)/\w=w':=by
 rcases h with rfl|rfl
 all_goals
  go_in;go_wp2;go_ret;exact⟨rfl,rfl⟩
theorem k1w(c:Int)(h0:c≠0)(h1:c≠1)(w:World):Calls prog 68 #[.int .i64 c] w fun e w'=>e=.returned (.bool true)/\w=w':=by
 have A:(c != 0)=true:=by simp[h0]
 have B:(c != 1)=true:=by simp[h1]
 clear h0 h1;go_in;go_wp2;go_ret;exact⟨rfl,rfl⟩
theorem z0c(ws:List Int)(wa:Option Addr)(wc:Nat)(w:World)(hI:q8x w wa ws)(hl:ws.length<=9223372036854775807):
  Calls prog 113 #[.slice wa ws.length wc,.func (.func 68) #[] #[]] w fun e w'=>((q2q ws/\e=.returned (.int .i64 (-1)))\/(¬q2q ws/\∃k:Nat,e=.returned (.int .i64 k)))/\w=w':=by
 have L:Hid (q8x w wa ws):=hI;clear hI;go_in;go_wp2_with fail
 go_loopw [8] (fun i wr=>wr=w/\∃k:Nat,k<=ws.length/\i=.int .i64 k/\∀j(h:j<ws.length),j<k->ws[j]=0\/ws[j]=1) (fun i _=>ws.length-(intOf i).toNat)
 case atStart=>exact⟨rfl,0,Nat.zero_le _,rfl,fun j _ I=>by omega⟩
 case round=>
  obtain⟨rfl,k,R,rfl,C⟩:=hrel;have K:Hid (∀j(h:j<ws.length),j<k->ws[j]=0\/ws[j]=1):=C;clear C;by_cases E:k<ws.length
  ·obtain⟨P,S,M,N,Q⟩:=L.o k E;subst M;by_cases A:ws[k]=0\/ws[k]=1
   ·have G:Hid (∀j(h:j<ws.length),j<k+1->ws[j]=0\/ws[j]=1):=fun j h I=>by
     by_cases J:j=k
     ·subst J;exact A
     ·exact K.o j h (by omega)
    have D:Hid (ws[k]=0\/ws[k]=1):=A;clear A;go_wp2_with fail;refine(k4q _ D.o _).mono ?_;rintro e O⟨rfl,rfl⟩;go_wp2
    go_roundw
    case rel=>exact⟨by trivial,k+1,by omega,by go_num,G.o⟩
    case measure=>simp[intOf];omega
   ·have D:Hid (¬(ws[k]=0\/ws[k]=1)):=A;clear A;go_wp2_with fail;refine(k1w _ (fun h=>D.o (.inl h)) (fun h=>D.o (.inr h)) _).mono ?_;rintro e O⟨rfl,rfl⟩;go_wp2;go_ret;exact⟨.inr ⟨fun B=>D.o (B _ (List.getElem_mem E)),k,rfl⟩,rfl⟩
  ·have B:q2q ws:=fun c hc=>by
    obtain⟨j,I,rfl⟩:=List.getElem_of_mem hc;exact K.o j I (by omega)
   have H:Hid (q2q ws):=B;clear B;go_wp2;go_ret;exact⟨.inl ⟨H.o,rfl⟩,rfl⟩
theorem y8j(ws:List Int)(wa:Option Addr)(wc:Nat)(w:World)(hI:q8x w wa ws)(hl:ws.length<=9223372036854775807)(h:q2q ws):
  Calls prog 67 #[.slice wa ws.length wc,.func (.func 68) #[] #[]] w fun e w'=>e=.returned (.bool false)/\w=w':=by
 have B:Hid (q8x w wa ws):=hI;have H:Hid (q2q ws):=h;clear hI h;go_in;go_wp2_with fail;refine(z0c ws wa wc _ B.o hl).mono ?_;rintro e C⟨A,rfl⟩;rcases A with⟨_,rfl⟩|⟨A,_⟩
 ·go_wp2;go_ret;exact⟨rfl,rfl⟩
 ·exact absurd H.o A
theorem y4p(ws:List Int)(wa:Option Addr)(wc:Nat)(w:World)(hI:q8x w wa ws)(hl:ws.length<=9223372036854775807)(h:¬q2q ws):
  Calls prog 67 #[.slice wa ws.length wc,.func (.func 68) #[] #[]] w fun e w'=>e=.returned (.bool true)/\w=w':=by
 have B:Hid (q8x w wa ws):=hI;have H:Hid (¬q2q ws):=h;clear hI h;go_in;go_wp2_with fail;refine(z0c ws wa wc _ B.o hl).mono ?_;rintro e D⟨A,rfl⟩;rcases A with⟨A,_⟩|⟨_,k,rfl⟩
 ·exact absurd A H.o
 ·have C:(0:Int)<=(k:Int):=by omega
  go_wp2;go_ret;exact⟨rfl,rfl⟩
theorem y7e(B b s be bf:Nat)(_hb:s<B/\be<B/\bf<B)(hB:B<=b)(ds:List Nd)(a:Option Addr)(cap:Nat)(_hl:ds.length<=400)(tx:ByteArray)(n:Int):q3k B b s be bf ds a cap (⟨5,tx,n⟩::[]) (fun _ ws=>.ok ([],ws)):=by
 intro i r Q ws K wc l w H E U _ J C D I;obtain⟨d,R,S⟩:=q1w (x:=⟨5,tx,n⟩) (A:=[]++r) H;obtain⟨V,c,M,N,P⟩:=E.nd i d;subst c;rw[R]at M N P;dsimp only at M N P;have k:=C.c0;have m:=C.c1;have o:=C.c2;have p:=C.c5;have f:=C.lt;have g:s<w.heap.size:=by omega
 have G:B<=w.heap.size:=by omega
 have e:(i:Int)<(ds.length:Int):=by omega
 have j:Hid (ds.drop i=⟨5,tx,n⟩::([]++r)):=H;have X:Hid (ds.drop (i+1)=[]++r):=S;have h:Hid (LC B s be bf (some ⟨s,V,none⟩) ds w):=E;have Y:Hid (q1j B w K ws):=U;have Z:Hid (WS B b (q6z be bf ds.length cap (some ⟨s,V,none⟩)) l (.slice K ws.length wc) w):=C;have L:Hid (∀O:Obj,Below B w (w.alloc O)):=fun O=>(Below.refl _ w).alloc G O
 clear E U C H R S;simp only[List.length_cons,List.length_nil]at D I;go_in;go_wp2;go_ret;exact⟨⟨rfl,K,wc,by rw[List.append_nil];exact Z.o.alloc _,Y.o.W (L.o _),J⟩,L.o _⟩
theorem y7a(B b s be bf:Nat)(_hb:s<B/\be<B/\bf<B)(hB:B<=b)(ds:List Nd)(a:Option Addr)(cap:Nat)(_hl:ds.length<=400)(tx:ByteArray)(n:Int)(ht:tx.size<=20):q3k B b s be bf ds a cap (⟨1,tx,n⟩::[]) (fun _ ws=>.ok (tx.data.toList,ws)):=by
 intro i r R ws M wc l w J G V _ L C D K;obtain⟨h,S,U⟩:=q1w (x:=⟨1,tx,n⟩) (A:=[]++r) J;obtain⟨X,f,N,P,Q⟩:=G.nd i h;subst f;rw[S]at N P Q;dsimp only at N P Q;have t:=C.c0;have u:=C.c1;have v:=C.c2;have y:=C.c5;have k:=C.lt;have m:s<w.heap.size:=by omega
 have I:B<=w.heap.size:=by omega
 have j:(i:Int)<(ds.length:Int):=by omega
 have q:Hid (ds.drop i=⟨1,tx,n⟩::([]++r)):=J;have Z:Hid (ds.drop (i+1)=[]++r):=U;have p:Hid (LC B s be bf (some ⟨s,X,none⟩) ds w):=G;have c:Hid (q1j B w M ws):=V;have d:Hid (WS B b (q6z be bf ds.length cap (some ⟨s,X,none⟩)) l (.slice M ws.length wc) w):=C;have Y:Hid (∀O:Obj,Below B w (w.alloc O)):=fun O=>(Below.refl _ w).alloc I O
 clear G V C J S U;simp only[List.length_cons,List.length_nil]at D K;go_in;go_wp2_with fail
 go_region_with (go_at_call 47;refine(y7k (WS.drew (d.o.alloc _)) hB tx (by omega)).mono ?_;rintro e o⟨⟨z,rfl⟩,g,H⟩)
 all_goals
  go_wp2;go_ret;have E:Below B w o:=(Below.drew (Y.o _)).trans H;exact⟨⟨rfl,M,wc,g,c.o.W E,L⟩,E⟩
theorem y7b(B b s be bf:Nat)(_hb:s<B/\be<B/\bf<B)(hB:B<=b)(ds:List Nd)(a:Option Addr)(cap:Nat)(_hl:ds.length<=400)(tx:ByteArray)(n:Int):q3k B b s be bf ds a cap (⟨2,tx,n⟩::[]) (fun deep ws=>.ok (10::List.replicate deep 32,ws)):=by
 intro i r deep ws S wc l w N K d _ R D E Q;obtain⟨t,Y,Z⟩:=q1w (x:=⟨2,tx,n⟩) (A:=[]++r) N;obtain⟨f,q,U,V,X⟩:=K.nd i t;subst q;rw[Y]at U V X;dsimp only at U V X;have c0:=D.c0;have c1:=D.c1;have c2:=D.c2;have c5:=D.c5;have v:=D.lt;have y:s<w.heap.size:=by omega
 have M:B<=w.heap.size:=by omega
 have u:(i:Int)<(ds.length:Int):=by omega
 have HD:Hid (ds.drop i=⟨2,tx,n⟩::([]++r)):=N;have h:Hid (ds.drop (i+1)=[]++r):=Z;have HC:Hid (LC B s be bf (some ⟨s,f,none⟩) ds w):=K;have j:Hid (q1j B w S ws):=d;have p:Hid (WS B b (q6z be bf ds.length cap (some ⟨s,f,none⟩)) l (.slice S ws.length wc) w):=D;have g:Hid (∀O:Obj,Below B w (w.alloc O)):=fun O=>(Below.refl _ w).alloc M O
 clear K d D N Y Z;simp only[List.length_cons,List.length_nil]at E Q;have P:(⟨(List.replicate deep 32).toArray⟩:ByteArray).size<=3300:=by rw[<-q0x];simp;omega
 have C:∀W:World,Calls prog 115 #[.string ⟨#[32]⟩,.int .i64 deep] W fun e w'=>e=.returned (.string ⟨(List.replicate deep 32).toArray⟩)/\Below W W w':=fun W=>z4q deep (by omega) W
 generalize G:(⟨(List.replicate deep 32).toArray⟩:ByteArray)=rs at P C;have m:Hid ((⟨(List.replicate deep 32).toArray⟩:ByteArray)=rs):=G;have k:Hid (∀W:World,Calls prog 115 #[.string ⟨#[32]⟩,.int .i64 deep] W fun e w'=>e=.returned (.string rs)/\Below W W w'):=C;have o:Hid (l++(⟨#[10]⟩++rs:ByteArray).data.toList=l++10::List.replicate deep 32):=(show _=_ by rw[<-G];simp);have J:Hid (l.length+(⟨#[10]⟩++rs:ByteArray).size<=2000000000):=(show _<=_ by rw[<-q0x];simp;omega);clear G C;go_in;go_wp2_with fail
 go_region_with (first
  | (go_at_call 115;refine(k.o _).mono ?_;rintro e w2⟨rfl,I⟩)
  | (go_at_call 47;refine(y7k (WS.W (WS.drew (p.o.alloc _)) I) hB _ J.o).mono ?_;rintro e w3⟨⟨z,rfl⟩,c,L⟩))
 all_goals
  go_wp2;go_ret;have H:Below B w w3:=((Below.drew (g.o _)).trans (I.mono (by simp;omega))).trans L;rw[o.o]at c;exact⟨⟨rfl,S,wc,c,j.o.W H,R⟩,H⟩
theorem y7c(B b s be bf:Nat)(_hb:s<B/\be<B/\bf<B)(hB:B<=b)(ds:List Nd)(a:Option Addr)(cap:Nat)(_hl:ds.length<=400)(tx:ByteArray)(n:Int):q3k B b s be bf ds a cap (⟨3,tx,n⟩::[]) (fun deep ws=>.ok (10::List.replicate deep 32,ws)):=by
 intro i r deep ws S wc l w N K d _ R D E Q;obtain⟨t,Y,Z⟩:=q1w (x:=⟨3,tx,n⟩) (A:=[]++r) N;obtain⟨f,q,U,V,X⟩:=K.nd i t;subst q;rw[Y]at U V X;dsimp only at U V X;have c0:=D.c0;have c1:=D.c1;have c2:=D.c2;have c5:=D.c5;have v:=D.lt;have y:s<w.heap.size:=by omega
 have M:B<=w.heap.size:=by omega
 have u:(i:Int)<(ds.length:Int):=by omega
 have HD:Hid (ds.drop i=⟨3,tx,n⟩::([]++r)):=N;have h:Hid (ds.drop (i+1)=[]++r):=Z;have HC:Hid (LC B s be bf (some ⟨s,f,none⟩) ds w):=K;have j:Hid (q1j B w S ws):=d;have p:Hid (WS B b (q6z be bf ds.length cap (some ⟨s,f,none⟩)) l (.slice S ws.length wc) w):=D;have g:Hid (∀O:Obj,Below B w (w.alloc O)):=fun O=>(Below.refl _ w).alloc M O
 clear K d D N Y Z;simp only[List.length_cons,List.length_nil]at E Q;have P:(⟨(List.replicate deep 32).toArray⟩:ByteArray).size<=3300:=by rw[<-q0x];simp;omega
 have C:∀W:World,Calls prog 115 #[.string ⟨#[32]⟩,.int .i64 deep] W fun e w'=>e=.returned (.string ⟨(List.replicate deep 32).toArray⟩)/\Below W W w':=fun W=>z4q deep (by omega) W
 generalize G:(⟨(List.replicate deep 32).toArray⟩:ByteArray)=rs at P C;have m:Hid ((⟨(List.replicate deep 32).toArray⟩:ByteArray)=rs):=G;have k:Hid (∀W:World,Calls prog 115 #[.string ⟨#[32]⟩,.int .i64 deep] W fun e w'=>e=.returned (.string rs)/\Below W W w'):=C;have o:Hid (l++(⟨#[10]⟩++rs:ByteArray).data.toList=l++10::List.replicate deep 32):=(show _=_ by rw[<-G];simp);have J:Hid (l.length+(⟨#[10]⟩++rs:ByteArray).size<=2000000000):=(show _<=_ by rw[<-q0x];simp;omega);clear G C;go_in;go_wp2_with fail
 go_region_with (first
  | (go_at_call 115;refine(k.o _).mono ?_;rintro e w2⟨rfl,I⟩)
  | (go_at_call 47;refine(y7k (WS.W (WS.drew (p.o.alloc _)) I) hB _ J.o).mono ?_;rintro e w3⟨⟨z,rfl⟩,c,L⟩))
 all_goals
  go_wp2;go_ret;have H:Below B w w3:=((Below.drew (g.o _)).trans (I.mono (by simp;omega))).trans L;rw[o.o]at c;exact⟨⟨rfl,S,wc,c,j.o.W H,R⟩,H⟩
theorem y7d(B b s be bf:Nat)(_hb:s<B/\be<B/\bf<B)(hB:B<=b)(ds:List Nd)(a:Option Addr)(cap:Nat)(_hl:ds.length<=400)(tx:ByteArray)(n:Int):q3k B b s be bf ds a cap (⟨4,tx,n⟩::[]) (fun deep ws=>.ok (10::List.replicate deep 32,ws)):=by
 intro i r deep ws S wc l w N K d _ R D E Q;obtain⟨t,Y,Z⟩:=q1w (x:=⟨4,tx,n⟩) (A:=[]++r) N;obtain⟨f,q,U,V,X⟩:=K.nd i t;subst q;rw[Y]at U V X;dsimp only at U V X;have c0:=D.c0;have c1:=D.c1;have c2:=D.c2;have c5:=D.c5;have v:=D.lt;have y:s<w.heap.size:=by omega
 have M:B<=w.heap.size:=by omega
 have u:(i:Int)<(ds.length:Int):=by omega
 have HD:Hid (ds.drop i=⟨4,tx,n⟩::([]++r)):=N;have h:Hid (ds.drop (i+1)=[]++r):=Z;have HC:Hid (LC B s be bf (some ⟨s,f,none⟩) ds w):=K;have j:Hid (q1j B w S ws):=d;have p:Hid (WS B b (q6z be bf ds.length cap (some ⟨s,f,none⟩)) l (.slice S ws.length wc) w):=D;have g:Hid (∀O:Obj,Below B w (w.alloc O)):=fun O=>(Below.refl _ w).alloc M O
 clear K d D N Y Z;simp only[List.length_cons,List.length_nil]at E Q;have P:(⟨(List.replicate deep 32).toArray⟩:ByteArray).size<=3300:=by rw[<-q0x];simp;omega
 have C:∀W:World,Calls prog 115 #[.string ⟨#[32]⟩,.int .i64 deep] W fun e w'=>e=.returned (.string ⟨(List.replicate deep 32).toArray⟩)/\Below W W w':=fun W=>z4q deep (by omega) W
 generalize G:(⟨(List.replicate deep 32).toArray⟩:ByteArray)=rs at P C;have m:Hid ((⟨(List.replicate deep 32).toArray⟩:ByteArray)=rs):=G;have k:Hid (∀W:World,Calls prog 115 #[.string ⟨#[32]⟩,.int .i64 deep] W fun e w'=>e=.returned (.string rs)/\Below W W w'):=C;have o:Hid (l++(⟨#[10]⟩++rs:ByteArray).data.toList=l++10::List.replicate deep 32):=(show _=_ by rw[<-G];simp);have J:Hid (l.length+(⟨#[10]⟩++rs:ByteArray).size<=2000000000):=(show _<=_ by rw[<-q0x];simp;omega);clear G C;go_in;go_wp2_with fail
 go_region_with (first
  | (go_at_call 115;refine(k.o _).mono ?_;rintro e w2⟨rfl,I⟩)
  | (go_at_call 47;refine(y7k (WS.W (WS.drew (p.o.alloc _)) I) hB _ J.o).mono ?_;rintro e w3⟨⟨z,rfl⟩,c,L⟩))
 all_goals
  go_wp2;go_ret;have H:Below B w w3:=((Below.drew (g.o _)).trans (I.mono (by simp;omega))).trans L;rw[o.o]at c;exact⟨⟨rfl,S,wc,c,j.o.W H,R⟩,H⟩
theorem y7f(B b s be bf:Nat)(hb:s<B/\be<B/\bf<B)(hB:B<=b)(ds:List Nd)(a:Option Addr)(cap:Nat)(hl:ds.length<=400)(tx:ByteArray)(n:Int)(A C:List Nd)(f g:Nat->List Int->Except Int (List UInt8 × List Int))(hA:q3k B b s be bf ds a cap A f)(hG:q3k B b s be bf ds a cap C g)(hE:∀i r,ds.drop i=A++r->r≠[]->∃t:Tr,t.Wf/\A=t.N)(hp:C≠[])(K:∀deep ws u v,f deep ws=.ok (u,v)->deep+8*A.length<=3300->u.length<=4000*A.length)(j:∀deep ws u v,q2q ws->f deep ws=.ok (u,v)->q2q v):q3k B b s be bf ds a cap (⟨6,tx,n⟩::(A++C)) (q6v f g):=by
 intro i r deep ws wa wc l w hd hC hI q Ah Q S Af;obtain⟨hi,e1,e2⟩:=q1w (x:=⟨6,tx,n⟩) (A:=(A++C)++r) hd;obtain⟨V,ea,d1,d2,d3⟩:=hC.nd i hi;subst ea;rw[e1]at d1 d2 d3;dsimp only at d1 d2 d3;have c0:=Q.c0;have c1:=Q.c1;have c2:=Q.c2;have c5:=Q.c5;have Ak:=Q.lt;have Al:s<w.heap.size:=by omega
 have Ae:B<=w.heap.size:=by omega
 have Aj:(i:Int)<(ds.length:Int):=by omega
 have HD:Hid (ds.drop i=⟨6,tx,n⟩::((A++C)++r)):=hd;have Ab:Hid (ds.drop (i+1)=(A++C)++r):=e2;have HC:Hid (LC B s be bf (some ⟨s,V,none⟩) ds w):=hC;have HI:Hid (q1j B w wa ws):=hI;have HW:Hid (WS B b (q6z be bf ds.length cap (some ⟨s,V,none⟩)) l (.slice wa ws.length wc) w):=Q;have HA:Hid (∀O:Obj,Below B w (w.alloc O)):=fun O=>(Below.refl _ w).alloc Ae O
 clear hC hI Q hd e1 e2;simp only[List.length_cons,List.length_append]at S Af;have HF:Hid (q3k B b s be bf ds (some ⟨s,V,none⟩) cap A f):=hA;have HG:Hid (q3k B b s be bf ds (some ⟨s,V,none⟩) cap C g):=hG;have HX:Hid (((i+1:Nat):Int)=(i:Int)+1):=(show _=_ by omega);have c:Hid (q2q ws):=q;have H:=Ab.o;rw[List.append_assoc]at H;have P:Hid (ds.drop (i+1)=A++(C++r)):=H;obtain⟨t,ht,et⟩:=hE _ _ H (fun h=>hp (List.append_eq_nil_iff.1 h).1);have HT:Hid (t.Wf/\A=t.N):=⟨ht,et⟩
 have Ai:(i:Int)+1<(ds.length:Int):=by
  have:=congrArg List.length H
  have J:=List.length_pos_iff.2 hp;rw[List.length_drop,List.length_append,List.length_append]at this;omega
 have HL:Hid (∀deep ws u v,f deep ws=.ok (u,v)->deep+8*A.length<=3300->u.length<=4000*A.length):=K;have Aa:Hid (∀deep ws u v,q2q ws->f deep ws=.ok (u,v)->q2q v):=j;clear hA hG q H ht et hE K j hp;go_in;go_wp2_with fail;rw[<-HX.o];refine(HF.o (i+1) (C++r) deep ws wa wc l _ P.o (HC.o.W hb (HA.o _)) (HI.o.W (HA.o _)) c.o Ah (HW.o.alloc _) (by omega) (by omega)).mono ?_;rintro e y⟨J,R⟩;cases D:f deep ws with
 | error er=>
  rw[D]at J;obtain⟨E,rfl⟩:=J;have Z:Hid (er≠0):=E;rw[q0l E];clear E;go_wp2;go_ret;refine⟨?_,(HA.o _).trans R⟩;rw[q6v,D];exact⟨Z.o,by rw[q0l Z.o];rfl⟩
 | ok p=>
  obtain⟨u0,L⟩:=p;rw[D]at J;obtain⟨rfl,X,z,U,o,Ag⟩:=J;have M:Hid (Below B w y):=(HA.o _).trans R;have Y:Hid (LC B s be bf (some ⟨s,V,none⟩) ds y):=HC.o.W hb M.o;have Ad:Hid (WS B b (q6z be bf ds.length cap (some ⟨s,V,none⟩)) (l++u0) (.slice X L.length z) y):=U;have Ac:Hid (q1j B y X L):=o;have g1:=U.c1;have Am:=HL.o deep ws u0 L D (by omega);have d:Hid (q2q L):=Aa.o deep ws u0 L c.o D
  have ge:y.cell? ⟨be,i+1,none⟩=some (.int .i64 ((i+1+A.length:Nat):Int)):=by
   have m:=P.o;rw[HT.o.2]at m⊢;exact(Y.o.kn (i+1) t (C++r) (Nat.zero_le _) HT.o.1 m).1
  have I:Hid (f deep ws=.ok (u0,L)):=D;clear U o R D;go_wp2_with fail;refine(HG.o (i+1+A.length) r deep L X z (l++u0) _ (z8d P.o) Y.o Ac.o d.o Ag Ad.o (by omega) (by rw[List.length_append];omega)).mono ?_;rintro e w3⟨J,k⟩;cases G:g deep L with
  | error er=>
   rw[G]at J;obtain⟨E,rfl⟩:=J;have Z:Hid (er≠0):=E;rw[q0l E];clear E;go_wp2;go_ret;refine⟨?_,(M.o.trans k)⟩;rw[q6v,I.o];dsimp only;rw[G];exact⟨Z.o,by rw[q0l Z.o];rfl⟩
  | ok p=>
   obtain⟨u,v⟩:=p;rw[G]at J;obtain⟨rfl,h3⟩:=J;have H3:Hid (∃wa' wc',WS B b (q6z be bf ds.length cap (some ⟨s,V,none⟩)) ((l++u0)++u) (.slice wa' v.length wc') w3/\q1j B w3 wa' v/\v.length<=wc'):=h3;clear h3;go_wp2;go_ret;refine⟨?_,(M.o.trans k)⟩;rw[q6v,I.o];dsimp only;rw[G];rw[List.append_assoc]at H3;exact⟨rfl,H3.o⟩
theorem y7g(B b s be bf:Nat)(hb:s<B/\be<B/\bf<B)(hB:B<=b)(ds:List Nd)(a:Option Addr)(cap:Nat)(hl:ds.length<=400)(tx:ByteArray)(n:Int)(Ac:0<=n)(Ad:n<=8)(A:List Nd)(f:Nat->List Int->Except Int (List UInt8 × List Int))(hA:q3k B b s be bf ds a cap A f):q3k B b s be bf ds a cap (⟨7,tx,n⟩::A) (fun deep ws=>f (deep+n.toNat) ws):=by
 intro i r deep ws V wc l w R P j I U D E S;obtain⟨hi,d,g⟩:=q1w (x:=⟨7,tx,n⟩) (A:=A++r) R;obtain⟨L,ea,Y,Z,c⟩:=P.nd i hi;subst ea;rw[d]at Y Z c;dsimp only at Y Z c;have c0:=D.c0;have c1:=D.c1;have c2:=D.c2;have c5:=D.c5;have Ab:=D.lt;have Ae:s<w.heap.size:=by omega
 have Q:B<=w.heap.size:=by omega
 have Aa:(i:Int)<(ds.length:Int):=by omega
 have HD:Hid (ds.drop i=⟨7,tx,n⟩::(A++r)):=R;have M:Hid (ds.drop (i+1)=A++r):=g;have o:Hid (LC B s be bf (some ⟨s,L,none⟩) ds w):=P;have t:Hid (q1j B w V ws):=j;have y:Hid (WS B b (q6z be bf ds.length cap (some ⟨s,L,none⟩)) l (.slice V ws.length wc) w):=D;have J:Hid (∀O:Obj,Below B w (w.alloc O)):=fun O=>(Below.refl _ w).alloc Q O
 clear P j D R d g;simp only[List.length_cons]at E S;have q:Hid (q3k B b s be bf ds (some ⟨s,L,none⟩) cap A f):=hA;have z:Hid (((i+1:Nat):Int)=(i:Int)+1):=(show _=_ by omega);have HY:Hid (((deep+n.toNat:Nat):Int)=(deep:Int)+n):=(show _=_ by omega);have N:Hid (q2q ws):=I;clear hA I;go_in;go_wp2_with fail;rw[<-z.o,<-HY.o];refine(q.o (i+1) r (deep+n.toNat) ws V wc l _ M.o (o.o.W hb (J.o _)) (t.o.W (J.o _)) N.o U (y.o.alloc _) (by omega) (by omega)).mono ?_;rintro e k⟨K,H⟩;cases C:f (deep+n.toNat) ws with
 | error er=>
  rw[C]at K;obtain⟨G,rfl⟩:=K;have X:Hid (er≠0):=G;rw[q0l G];clear G;go_wp2;go_ret;refine⟨?_,(J.o _).trans H⟩;rw[C];exact⟨X.o,by rw[q0l X.o];rfl⟩
 | ok p=>
  obtain⟨u,v⟩:=p;rw[C]at K;obtain⟨rfl,h⟩:=K;have m:Hid (∃wa' wc',WS B b (q6z be bf ds.length cap (some ⟨s,L,none⟩)) (l++u) (.slice wa' v.length wc') k/\q1j B k wa' v/\v.length<=wc'):=h;clear h;go_wp2;go_ret;refine⟨?_,(J.o _).trans H⟩;rw[C];exact⟨rfl,m.o⟩
end Go.Proofs.YthcpdohdppkmkaaGreatDoor
