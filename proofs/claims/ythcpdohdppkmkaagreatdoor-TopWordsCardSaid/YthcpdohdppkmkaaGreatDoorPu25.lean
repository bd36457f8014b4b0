import Derived.Test.YthcpdohdppkmkaaGreatDoorPu23
import Derived.Test.YthcpdohdppkmkaaGreatDoorPu24
open Go.Proofs.Tryz
namespace Go.Proofs.YthcpdohdppkmkaaGreatDoor
open Go Go.RowKit
abbrev q5m:Array Value:=#[.int .i64 0,.string ⟨#[]⟩,.int .i64 0,.int .i64 0,.int .i64 0,.int .i64 0,.int .i64 0]
theorem v1q:(prog.info? 182).map (fun i=>(i.zero,i.size,i.bytes))=some (some (.agg q5m),7,64):=by kernel_rfl
theorem z9u{z:Array Value}{n k:Nat}(h:k<n):(madeCells z n)[k]?=some (z[k % z.size]!):=by
 simp[madeCells,h]
theorem y6j{w:World}{g n:Nat}(h:w.heap[g]?=some (.cells (madeCells q5m (n*7)) 182 (0,0))):PwR w g n (fun _=>q0) where
 get j hj:=by
  have hc:∀f,f<7->w.cell? ⟨g,j*7+f,none⟩=some (q5m[f]!):=fun f hf=>by
   simp only[World.cell?,h];rw[z9u (by omega),show q5m.size=7 from rfl,show(j*7+f) % 7=f by omega];rfl
  exact⟨hc 0 (by omega),hc 1 (by omega),hc 2 (by omega),hc 3 (by omega),hc 4 (by omega),hc 5 (by omega),hc 6 (by omega)⟩
 row:=⟨_,_,h⟩
theorem j6b(n:Nat)(hn:n<=400)(W:World):(Instr.makeSlice 113 (.int .i64 (n:Int)) (.int .i64 (n:Int))).run prog W=.ok (.slice (some ⟨W,0,none⟩) n n) (W.alloc (.cells (madeCells q5m (n*7)) 182)):=by
 obtain⟨i,hi,hz,hs,hb⟩:=info_parts v1q
 have:=run_make (P:=prog) W 113 182 i _ Tryz.underlying113 hi hz .i64 .i64 n n (by omega) (by omega) (by rw[hb];omega) (by omega)
 rw[hs,Int.toNat_natCast]at this;exact this
theorem v5e{R:List Pl}{L M i nx dp:Nat}{ks:List (Nat × Tr)}{t:Tr}(bp g:Nat)(F:Nat->Q)(w:World)(hR:R.length<=400)(h:Sp R L M i t nx dp ks)(hop:(F i).op=(q1g R i).nd.op)(hen:∀j,i<j->j<R.length->(F j).en=(q1g R j).en)
  (c0:w.cell? ⟨bp,0,none⟩=some (.slice (some ⟨g,0,none⟩) R.length R.length)) (hp:PwR w g R.length F):
  Calls prog 107 #[.pointer (some ⟨bp,0,none⟩),.int .i64 i] w fun e w'=>e=.returned (.int .i64 (q1g R i).en)/\∃q,w'=w.drewN q:=by
 have hi:(i:Int)<(R.length:Nat):=by have:=h.lt;omega
 have d0:=(hp.get i h.lt).c0;rw[hop]at d0;have ha:=h.at;rw[ha]at d0⊢;cases t with
 | leaf x=>
  have hne:∀k:Int,k=6\/k=9\/k=7\/k=8->(x.op==k)=false:=fun k hk=>beq_eq_false_iff_ne.2 (by
   rcases q5o h.wf.1 h.wf.2 with e|e|e|e|e<;>omega)
  exact j5u bp g R.length i x.op w hR hi c0 d0 (hne 6 (by omega)) (hne 9 (by omega)) (hne 7 (by omega)) (hne 8 (by omega))
 | one x a=>
  have hs:=h.one;have d3:=(hp.get (i+1) hs.lt).c3;rw[hen (i+1) (by omega) hs.lt,hs.at]at d3
  have e:(z7z (Tr.one x a) i nx dp ks).en=(z7z a (i+1) nx (dp+x.n.toNat) ks).en:=by
   show i+(Tr.one x a).sz=i+1+a.sz;rw[k4h];omega
  rw[e];exact v5f bp g R.length i x.op _ w hR hi (by have:=hs.lt;omega) c0 d0 d3 (z3e h.wf.2.1)
 | two x a b=>
  obtain⟨nx',ks',hs⟩:=h.two1;have hs2:=h.two2;have d3:=(hp.get (i+1) hs.lt).c3;rw[hen (i+1) (by omega) hs.lt,hs.at]at d3;have d4:=(hp.get (i+1+a.sz) hs2.lt).c3;rw[hen (i+1+a.sz) (by omega) hs2.lt,hs2.at]at d4
  have e:(z7z (Tr.two x a b) i nx dp ks).en=(z7z b (i+1+a.sz) nx dp ks).en:=by
   show i+(Tr.two x a b).sz=i+1+a.sz+b.sz;rw[z5u];omega
  rw[e];exact v5g bp g R.length i (i+1+a.sz) x.op _ w hR hi (by have:=hs.lt;omega) (by have:=hs2.lt;omega) c0 d0 d3 d4 (z1m h.wf.2.1)
structure NP(w0 w:World)(wd n:Nat):Prop where
 c0:w.cell? ⟨w0.heap.size+1+1,0,none⟩=some (.slice (some ⟨w0.heap.size+1,0,none⟩) n n)
 c1:w.cell? ⟨w0.heap.size+1+1,1,none⟩=some (.int .i64 wd)
 r0:w.cell? ⟨w0,0,none⟩=some (.slice none 0 0)
 r1:w.cell? ⟨w0,1,none⟩=some (.int .i64 0)
 f0:z4i w w0.heap.size
 bw:Below w0 w0 w
theorem NP.belX{w0 w w':World}{wd n B:Nat}(h:NP w0 w wd n)(hb:q0p B (w0.heap.size+1) w w')(hB:w0.heap.size+1+1+1<=B):NP w0 w' wd n where
 c0:=(hb.cell (p:=⟨w0.heap.size+1+1,0,none⟩) (by simp;omega) (by simp)).trans h.c0
 c1:=(hb.cell (p:=⟨w0.heap.size+1+1,1,none⟩) (by simp;omega) (by simp)).trans h.c1
 r0:=(hb.cell (p:=⟨w0,0,none⟩) (by simp;omega) (by simp)).trans h.r0
 r1:=(hb.cell (p:=⟨w0,1,none⟩) (by simp;omega) (by simp)).trans h.r1
 f0:=h.f0.kept (hb.block _ (by omega) (by omega))
 bw:=h.bw.trans ((hb.mono (B':=w0.heap.size) (by omega)).W (by omega))
theorem NP.same{w0 w w':World}{wd n:Nat}(h:NP w0 w wd n)(e1:w'.heap=w.heap)(e2:w'.os=w.os)(e3:w'.tape=w.tape)(e4:w'.output=w.output):NP w0 w' wd n:=
 h.belX (B:=w0.heap.size+1+1+1) ⟨e2,e3,e4,by rw[e1];exact Nat.le_refl _,fun k _ _=>by rw[e1]⟩ (by omega)
theorem NP.lt{w0 w:World}{wd n:Nat}(h:NP w0 w wd n):w0.heap.size+1+1<w.heap.size:=World.block_lt_of_cell? w ⟨w0.heap.size+1+1,0,none⟩ h.c0
theorem v9o{t t':Tr}{i nx dp:Nat}{ks:List (Nat × Tr)}{ds:List Nd}(hd:ds=t.N)(h:Sp (q0a t) t.lf t.dsum i t' nx dp ks):∃r,ds.drop i=t'.N++r:=by
 obtain⟨post,e⟩:=h.pl;refine⟨post.map (·.nd),?_⟩;have e1:(q0a t).map (·.nd)=ds:=by rw[hd];exact z2t t _ _ _ _
 rw[<-e1,<-List.map_drop,e,List.map_append,z2t]
theorem y9c{w:World}{B g o:Nat}{v:Value}:q0p B g w (w.setCell ⟨g,o,none⟩ v):=(q0p.refl B g w).setCell (p:=⟨g,o,none⟩) (.inl rfl) v
theorem v8g(w0:World)(wd n:Nat):NP w0 (((w0.alloc (.cells #[.slice none 0 0,.int .i64 0] 115)).alloc (.cells (madeCells q5m (n*7)) 182)).alloc (.cells #[.slice (some ⟨w0.heap.size+1,0,none⟩) n n,.int .i64 wd] 115)) wd n/\PwR (((w0.alloc (.cells #[.slice none 0 0,.int .i64 0] 115)).alloc (.cells (madeCells q5m (n*7)) 182)).alloc (.cells #[.slice (some ⟨w0.heap.size+1,0,none⟩) n n,.int .i64 wd] 115)) (w0.heap.size+1) n (fun _=>q0):=by
 have n0:=heap_alloc_new w0 (.cells #[.slice none 0 0,.int .i64 0] 115);have n1:=heap_alloc_new (w0.alloc (.cells #[.slice none 0 0,.int .i64 0] 115)) (.cells (madeCells q5m (n*7)) 182);have s1:(w0.alloc (.cells #[.slice none 0 0,.int .i64 0] 115)).heap.size=w0.heap.size+1:=by simp
 rw[s1]at n1
 have k0:(((w0.alloc (.cells #[.slice none 0 0,.int .i64 0] 115)).alloc (.cells (madeCells q5m (n*7)) 182)).alloc (.cells #[.slice (some ⟨w0.heap.size+1,0,none⟩) n n,.int .i64 wd] 115)).heap[w0.heap.size]?=some (.cells #[.slice none 0 0,.int .i64 0] 115 (0,0)):=
  (Below.heap_alloc _ _ _ (by simp;omega)).trans ((Below.heap_alloc _ _ _ (by simp)).trans n0)
 have k1:(((w0.alloc (.cells #[.slice none 0 0,.int .i64 0] 115)).alloc (.cells (madeCells q5m (n*7)) 182)).alloc (.cells #[.slice (some ⟨w0.heap.size+1,0,none⟩) n n,.int .i64 wd] 115)).heap[w0.heap.size+1]?=some (.cells (madeCells q5m (n*7)) 182 (0,0)):=
  (Below.heap_alloc _ _ _ (by simp)).trans n1
 exact⟨⟨by simp[go_sem],by simp[go_sem],by simp[World.cell?,k0],by simp[World.cell?,k0],⟨_,_,k0⟩,(((Below.refl _ w0).alloc Zl _).alloc (by simp) _).alloc (by simp;omega) _⟩,y6j k1⟩
set_option maxRecDepth 100000
set_option maxHeartbeats 8000000
theorem k1v(ds:List Nd)(t:Tr)(hd:ds=t.N)(ht:t.Wf)(hl:ds.length<=400)(a:Option Addr)(cap s wd:Nat)(hcap:ds.length<=cap)(w:World)(hN:q0x s w a ds)(hs:s<w.heap.size):
  Calls prog 62 #[.slice a ds.length cap,.int .i64 wd] w fun e w'=>e=.returned (.agg #[.slice (some ⟨w.heap.size+1,0,none⟩) ds.length ds.length,.int .i64 wd])/\PwR w' (w.heap.size+1) ds.length (fun j=>q2 (q1g (q0a t) j))/\Below w w w':=by
 have hRl:(q0a t).length=ds.length:=by rw[q2u,hd];rfl
 have hpos:0<ds.length:=by rw[hd];exact t.pos
 have hm:∀W:World,(Instr.makeSlice 113 (.int .i64 (ds.length:Int)) (.int .i64 (ds.length:Int))).run prog W=.ok (.slice (some ⟨W,0,none⟩) ds.length ds.length) (W.alloc (.cells (madeCells q5m (ds.length*7)) 182)):=j6b ds.length hl;have HST:Hid (∀W:World,NP W (((W.alloc (.cells #[.slice none 0 0,.int .i64 0] 115)).alloc (.cells (madeCells q5m (ds.length*7)) 182)).alloc (.cells #[.slice (some ⟨W.heap.size+1,0,none⟩) ds.length ds.length,.int .i64 wd] 115)) wd ds.length/\PwR (((W.alloc (.cells #[.slice none 0 0,.int .i64 0] 115)).alloc (.cells (madeCells q5m (ds.length*7)) 182)).alloc (.cells #[.slice (some ⟨W.heap.size+1,0,none⟩) ds.length ds.length,.int .i64 wd] 115)) (W.heap.size+1) ds.length (fun _=>q0)):=fun W=>v8g W wd ds.length
 have HD:Hid (ds=t.N):=hd;have HN:Hid (q0x s w a ds):=hN;have HRL:Hid ((q0a t).length=ds.length):=hRl;clear hd hN hRl
 have ea:∃o,a=some ⟨s,o,none⟩:=by
  obtain⟨o,e,_⟩:=HN.o 0 hpos;exact⟨o,e⟩
 obtain⟨o,rfl⟩:=ea
 have HNO:Hid (∀(W:World)i(h:i<ds.length),Below w w W->W.cell? ⟨s,o+i*3,none⟩=some (.int .i64 ds[i].op)/\W.cell? ⟨s,o+i*3+1,none⟩=some (.string ds[i].tx)/\W.cell? ⟨s,o+i*3+2,none⟩=some (.int .i64 ds[i].n)):=fun W i h hW=>by
  obtain⟨o',e,d⟩:=(HN.o.kept (hW.block s hs)) i h;simp only[Option.some.injEq,Addr.mk.injEq,and_true,true_and]at e;subst e;exact d
 have HAT:Hid (∀i(h:i<ds.length),(q1g (q0a t) i).nd=ds[i]):=fun i h=>by
  have e1:(q0a t).map (·.nd)=ds:=by rw[HD.o];exact z2t t _ _ _ _
  have hi:i<(q0a t).length:=by rw[HRL.o];exact h
  have e2:((q0a t).map (·.nd))[i]?=some ds[i]:=by rw[e1];exact List.getElem?_eq_getElem h
  rw[List.getElem?_map,List.getElem?_eq_getElem hi]at e2;rw[q1g,List.getD,List.getElem?_eq_getElem hi];simpa using e2
 go_in;go_wp2_with fail
 go_loopw [6] (fun i wr=>NP w wr wd ds.length/\∃k:Nat,k<=ds.length/\i=.int .i64 ((k:Int)-1)/\PwR wr (w.heap.size+1) ds.length (F1 (q0a t) k)) (fun i _=>(intOf i+1).toNat)
 case atStart=>
  refine⟨(HST.o w).1,ds.length,Nat.le_refl _,rfl,(HST.o w).2.congr fun j hj=>?_⟩;simp only[F1];rw[if_neg (by omega)]
 case round=>
  obtain⟨hp,k,hk,rfl,hpr⟩:=hrel;have HR:Hid (NP w wr wd ds.length):=hp;have HP:Hid (PwR wr (w.heap.size+1) ds.length (F1 (q0a t) k)):=hpr;have c0:=hp.c0;clear hp hpr;by_cases hk0:k=0
  ·subst hk0;have hneg:¬((0:Int)<=((0:Nat):Int)-1):=by omega
   have e4:wr.cell? ⟨w.heap.size+1,4,none⟩=some (.int .i64 (F1 (q0a t) 0 0).nx):=by have:=(HP.o.get 0 hpos).c4;simpa using this
   have f4:wr.frozen? ⟨w.heap.size+1,4,none⟩=false:=HP.o.row.frozen;have hposI:(0:Int)<(ds.length:Int):=by omega
   have HP2:Hid (PwR (wr.setCell ⟨w.heap.size+1,4,none⟩ (.int .i64 (ds.length:Int))) (w.heap.size+1) ds.length (upd (F1 (q0a t) 0) 0 {F1 (q0a t) 0 0 with nx:=(ds.length:Int)})):=by
    have:=HP.o.putNx hpos (ds.length:Int)
    rw[Nat.zero_mul,Nat.zero_add]at this;exact this
   have HT2:Hid (Tl (q0a t) t.lf t.dsum 0 (upd (F1 (q0a t) 0) 0 {F1 (q0a t) 0 0 with nx:=(ds.length:Int)})):=by
    have:=Tl.start (t:=t)
    rw[<-q2u,HRL.o]at this;exact this
   have HR2:Hid (NP w (wr.setCell ⟨w.heap.size+1,4,none⟩ (.int .i64 (ds.length:Int))) wd ds.length):=HR.o.belX (B:=w.heap.size+1+1+1) y9c Zl;go_wp2_with fail;generalize wr.setCell ⟨w.heap.size+1,4,none⟩ (.int .i64 (ds.length:Int))=w5 at *;clear c0 e4 f4 HR HP
   go_loopw [44] (fun i wq=>NP w wq wd ds.length/\∃k:Nat,k<=ds.length/\i=.int .i64 k/\∃F,PwR wq (w.heap.size+1) ds.length F/\Tl (q0a t) t.lf t.dsum k F) (fun i _=>ds.length-(intOf i).toNat)
   case atStart=>exact⟨HR2.o,0,Nat.zero_le _,rfl,_,HP2.o,HT2.o⟩
   case round=>
    clear HR2 HP2 HT2;obtain⟨hp,k,hk,rfl,F,hpr,hT⟩:=hrel;have HR:Hid (NP w wr wd ds.length):=hp;by_cases hlt:k<ds.length
    ·have hkR:k<(q0a t).length:=by rw[HRL.o];exact hlt
     obtain⟨t',nx,dp,ks,hsp⟩:=v2k ht hkR
     have h0:k=0\/∃p,p<k/\j4z (q0a t) t.lf t.dsum p k:=by
      rcases Nat.eq_zero_or_pos k with e|e
      ·exact .inl e
      ·exact .inr (k3v ht e hkR)
     have hM:t.dsum<=3200:=by have:=q7v t;rw[<-HD.o]at this;omega
     have hbt:=y4j (w.heap.size+1+1) (w.heap.size+1) F wr (by rw[HRL.o];exact hl) hM hsp hT h0 (by omega) (by rw[HRL.o];exact hp.c0) (by rw[HRL.o];exact hpr);rw[HRL.o]at hbt;obtain⟨r,hdr⟩:=v9o HD.o hsp;have HBT:=(show Hid _ from hbt);have HSP:Hid (Sp (q0a t) t.lf t.dsum k t' nx dp ks):=hsp;have HDR:Hid (ds.drop k=t'.N++r):=hdr;clear hp hpr hT hbt h0 hsp hdr hkR;have hltI:(k:Int)<(ds.length:Int):=by omega
     have hp0:(0:Int)<=(k:Int):=by omega
     go_wp2_with fail;refine Calls.mono HBT.o ?_;rintro e w2⟨rfl,⟨F',hp2,hT2,hpt⟩,hb2⟩;have HR2:Hid (NP w w2 wd ds.length):=HR.o.belX hb2 (by have:=HR.o.lt;omega);have HP2:Hid (PwR w2 (w.heap.size+1) ds.length F'):=hp2;have HT2:Hid (Tl (q0a t) t.lf t.dsum k F'):=hT2;have HPT:Hid (∀j,j<ds.length->j4z (q0a t) t.lf t.dsum k j->(F' j).nx=(q1g (q0a t) j).nx/\(F' j).dp=(q1g (q0a t) j).dp):=hpt;clear hp2 hT2 hpt hb2 HR HBT;have d0:=(HNO.o w2 k hlt HR2.o.bw).1;have hx:ds[k]=t'.root:=by rw[<-HAT.o k hlt,HSP.o.at];rfl
     rw[hx]at d0;clear hx;by_cases h8:t'.root.op=8
     ·cases t' with
      | leaf x=>
       have h8':x.op=8:=h8;rcases q5o HSP.o.wf.1 HSP.o.wf.2 with e|e|e|e|e<;>omega
      | two x a' b'=>
       have h8':x.op=8:=h8;rcases z1m HSP.o.wf.2.1 with e|e<;>omega
      | one x a'=>
       rw[h8]at d0;have c0:=HR2.o.c0;obtain⟨_,_,_,g3,_,_,g6⟩:=HP2.o.get k hlt;have z6:w2.frozen? ⟨w.heap.size+1,k*7+6,none⟩=false:=HP2.o.row.frozen;have hen:(F' k).en=((k+(Tr.one x a').N.length:Nat):Int):=by rw[HT2.o.en k (by rw[HRL.o];exact hlt),HSP.o.at];rfl
       rw[hen]at g3
       have hlg:(q1g (q0a t) k).lg=lgF a'.flat:=by
        rw[HSP.o.at];show Tr.lg (.one x a')=_;have h8':x.op=8:=h8;simp[Tr.lg,h8']
       have hlen:k+(Tr.one x a').N.length<=ds.length:=by
        have:=congrArg List.length HDR.o
        rw[List.length_drop,List.length_append]at this;omega
       have hpp:=(Tr.one x a').pos;have hnods:q3p w2 (some ⟨s,o+k*3,none⟩) (Tr.one x a').N:=((HN.o.kept (HR2.o.bw.block s hs)).part HDR.o).nods (by have:=HR2.o.bw.size;omega);generalize hj:k+(Tr.one x a').N.length=j at g3 hlen;have hnl:(Tr.one x a').N.length=j-k:=by omega
       have HLG:Hid (Calls prog 109 #[.slice (some ⟨s,o+k*3,none⟩) (j-k) (cap-k)] w2.drew fun e w'=>e=.returned (.int .i64 (lgF a'.flat))/\Below w2.drew.heap.size w2.drew w'):=by
        have:=j6a (Tr.one x a').N (Tr.one x a') rfl HSP.o.wf (by omega) (some ⟨s,o+k*3,none⟩) (cap-k) (by omega) w2.drew (hnods.W (Below.drew (Below.refl _ w2)))
        rw[hnl]at this;exact this
       have HLF:Hid ((q1g (q0a t) k).lg=lgF a'.flat):=hlg;have h1:(k:Int)<=(j:Int):=by omega
       have hpj:(0:Int)<=(j:Int):=by omega
       have hic:(k:Int)<(cap:Int):=by omega
       have hci:¬(cap-k=0):=by omega
       have hcj:¬(cap=k):=by omega
       have hij:((j:Int)-(k:Int)).toNat=j-k:=by omega
       have hcij:((cap:Int)-(k:Int)).toNat=cap-k:=by omega
       have h2:(j:Int)<=(cap:Int):=by omega
       have h3:(j:Int)<=(ds.length:Int):=by omega
       clear hnods hnl hen hlg hj;have hb3:=HR2.o.lt;have HC0:Hid (∀w3,Below w2.drew.heap.size w2.drew w3->w3.cell? ⟨w.heap.size+1+1,0,none⟩=some (.slice (some ⟨w.heap.size+1,0,none⟩) ds.length ds.length)):=fun w3 hb=>(hb.cell (p:=⟨w.heap.size+1+1,0,none⟩) hb3).trans c0
       have HG3:Hid (∀w3,Below w2.drew.heap.size w2.drew w3->w3.cell? ⟨w.heap.size+1,k*7+3,none⟩=some (.int .i64 (j:Int))):=fun w3 hb=>(hb.cell (p:=⟨w.heap.size+1,k*7+3,none⟩) (by show w.heap.size+1<w2.heap.size;omega)).trans g3
       have HG6:Hid (∀w3,Below w2.drew.heap.size w2.drew w3->PwR w3 (w.heap.size+1) ds.length F'/\NP w w3 wd ds.length):=fun w3 hb=>⟨HP2.o.kept (hb.block _ (by show w.heap.size+1<w2.heap.size;omega)),HR2.o.belX (B:=w2.heap.size) (q0p.of ((Below.drew (Below.refl _ w2)).trans hb)) (by omega)⟩
       go_wp2_with fail
       go_region_held3 (fun w'=>w'.cell? ⟨w.heap.size+1+1,0,none⟩=some (.slice (some ⟨w.heap.size+1,0,none⟩) ds.length ds.length)/\w'.cell? ⟨w.heap.size+1,k*7+3,none⟩=some (.int .i64 (j:Int)))
        (first|exact⟨c0,g3⟩|exact⟨c03,g33⟩|exact⟨(cso (by omega)).trans c03,(cso (by omega)).trans g33⟩)
        ((go_at_call 109;refine HLG.o.mono ?_;rintro e w3⟨rfl,hb3'⟩;have c03:=HC0.o w3 hb3';have g33:=HG3.o w3 hb3';obtain⟨hp3,hn3⟩:=HG6.o w3 hb3';have g63:=(hp3.get k hlt).c6;have z63:w3.frozen? ⟨w.heap.size+1,k*7+6,none⟩=false:=hp3.row.frozen;have HP3:Hid (PwR w3 (w.heap.size+1) ds.length F'):=hp3;have HR3:Hid (NP w w3 wd ds.length):=hn3;clear hp3 hn3 hb3'))
       all_goals
        go_wp2
        go_roundw
        case rel=>exact⟨(HR3.o.belX (B:=w.heap.size+1+1+1) y9c Zl).same rfl rfl rfl rfl,k+1,by omega,by go_num,_,(HP3.o.putLg hlt (lgF a'.flat)).kept rfl,by rw[<-HLF.o];exact HT2.o.nextLg (by rw[HRL.o];exact HPT.o)⟩
        case measure=>simp[intOf];omega
     ·have h8':(t'.root.op==8)=false:=beq_eq_false_iff_ne.2 h8
      have hlg:(F' k).lg=(q1g (q0a t) k).lg:=by
       rw[HT2.o.l0 k (by rw[HRL.o];exact hlt) Zl,HSP.o.at];show 0=t'.lg;cases t' with
       | leaf x=>rfl
       | two x a' b'=>rfl
       | one x a'=>
        have h8'':¬x.op=8:=h8;simp[Tr.lg,h8'']
      have HLG:Hid ((F' k).lg=(q1g (q0a t) k).lg):=hlg;clear hlg h8;go_wp2
      go_roundw
      case rel=>exact⟨HR2.o,k+1,by omega,by go_num,F',HP2.o,HT2.o.next (by rw[HRL.o];exact HPT.o) HLG.o⟩
      case measure=>simp[intOf];omega
    ·have hke:k=ds.length:=by omega
     have hF:=Tl.all ht (by rw[HRL.o,<-hke];exact hT);have HP:Hid (PwR wr (w.heap.size+1) ds.length (fun j=>q2 (q1g (q0a t) j))):=hpr.congr (by rw[<-HRL.o];exact hF);have c0:=hp.c0;have c1:=hp.c1;have r0:=hp.r0;have r1:=hp.r1;have f0:wr.frozen? ⟨w,0,none⟩=false:=hp.f0.frozen;have f1:wr.frozen? ⟨w,1,none⟩=false:=hp.f0.frozen;have hnl:¬((k:Int)<(ds.length:Int)):=by omega
     clear hp hpr hT hF hke;go_wp2;refine bodyPost_ret (v:=.agg #[.slice (some ⟨w.heap.size+1,0,none⟩) ds.length ds.length,.int .i64 wd]) (by simp[results,Tryz.results62,go_sem,r0,r1]) rfl ?_;have hkk:∀v0 v1,((wr.setCell ⟨w,0,none⟩ v0).setCell ⟨w,1,none⟩ v1).heap[w.heap.size+1]?=wr.heap[w.heap.size+1]?:=fun v0 v1=>(Below.heap_setCell _ _ _ _ (by simp)).trans (Below.heap_setCell _ _ _ _ (by simp))
     exact⟨rfl,HP.o.kept (hkk _ _),HR.o.bw.trans (((Below.refl _ wr).setCell (p:=⟨w,0,none⟩) Zl _).setCell (p:=⟨w,1,none⟩) Zl _)⟩
  ·obtain⟨i,rfl⟩:∃i,k=i+1:=⟨k-1,by omega⟩;have hki:(((i+1:Nat):Int)-1)=(i:Int):=by omega
   rw[hki];have hi:i<ds.length:=by omega
   obtain⟨n0,n1,n2⟩:=HNO.o wr i hi HR.o.bw;have HX:=HAT.o i hi;generalize ds[i]=x at n0 n1 n2 HX;have HXX:Hid ((q1g (q0a t) i).nd=x):=HX;clear HX;obtain⟨g0,g1,g2,_,_,_,_⟩:=HP.o.get i hi;have z0:wr.frozen? ⟨w.heap.size+1,i*7,none⟩=false:=HP.o.row.frozen;have z1:wr.frozen? ⟨w.heap.size+1,i*7+1,none⟩=false:=HP.o.row.frozen;have z2:wr.frozen? ⟨w.heap.size+1,i*7+2,none⟩=false:=HP.o.row.frozen;have hp0:(0:Int)<=(i:Int):=by omega
   have hiI:(i:Int)<(ds.length:Int):=by omega
   have HP3:Hid (PwR (((wr.setCell ⟨w.heap.size+1,i*7,none⟩ (.int .i64 x.op)).setCell ⟨w.heap.size+1,i*7+1,none⟩ (.string x.tx)).setCell ⟨w.heap.size+1,i*7+2,none⟩ (.int .i64 x.n)) (w.heap.size+1) ds.length (upd (F1 (q0a t) (i+1)) i ⟨x.op,x.tx,x.n,0,0,0,0⟩)):=by
    have h:=((HP.o.putOp hi x.op).putTx hi x.tx).putN hi x.n;rw[k1g,k1g,q0o,q0o]at h;have e:F1 (q0a t) (i+1) i=q0:=by simp only[F1];rw[if_neg (by omega)]
    rw[e]at h;exact h
   have HR3:Hid (NP w (((wr.setCell ⟨w.heap.size+1,i*7,none⟩ (.int .i64 x.op)).setCell ⟨w.heap.size+1,i*7+1,none⟩ (.string x.tx)).setCell ⟨w.heap.size+1,i*7+2,none⟩ (.int .i64 x.n)) wd ds.length):=HR.o.belX (B:=w.heap.size+1+1+1) ((y9c.trans y9c).trans y9c) Zl;clear HP HR;go_wp2_with fail
   go_region_held3 (fun w'=>w'.cell? ⟨w.heap.size+1+1,0,none⟩=some (.slice (some ⟨w.heap.size+1,0,none⟩) ds.length ds.length)/\w'.cell? ⟨s,o+i*3,none⟩=some (.int .i64 x.op)/\w'.cell? ⟨s,o+i*3+1,none⟩=some (.string x.tx)/\w'.cell? ⟨s,o+i*3+2,none⟩=some (.int .i64 x.n))
    (first|exact⟨c0,n0,n1,n2⟩|exact⟨(cso (by omega)).trans ((cso (by omega)).trans ((cso (by omega)).trans c0)),(cso (by omega)).trans ((cso (by omega)).trans ((cso (by omega)).trans n0)),(cso (by omega)).trans ((cso (by omega)).trans ((cso (by omega)).trans n1)),(cso (by omega)).trans ((cso (by omega)).trans ((cso (by omega)).trans n2))⟩) (fail)
   all_goals
    go_wp2_with fail;clear c0 n0 n1 n2 g0 g1 g2 z0 z1 z2
    generalize((wr.setCell ⟨w.heap.size+1,i*7,none⟩ (.int .i64 x.op)).setCell ⟨w.heap.size+1,i*7+1,none⟩ (.string x.tx)).setCell ⟨w.heap.size+1,i*7+2,none⟩ (.int .i64 x.n)=w3 at *
    have c3:=HR3.o.c0;have k3:=(HP3.o.get i hi).c3;rw[q0o]at k3;have z3:w3.frozen? ⟨w.heap.size+1,i*7+3,none⟩=false:=HP3.o.row.frozen
    have HB:Hid (Calls prog 107 #[.pointer (some ⟨w.heap.size+1+1,0,none⟩),.int .i64 i] w3.drew.drew fun e w'=>e=.returned (.int .i64 (q1g (q0a t) i).en)/\∃q,w'=w3.drew.drew.drewN q):=by
     have hiR:i<(q0a t).length:=by rw[HRL.o];exact hi
     obtain⟨t',nx,dp,ks,hsp⟩:=v2k ht hiR;refine v5e (w.heap.size+1+1) (w.heap.size+1) _ w3.drew.drew (by rw[HRL.o];exact hl) hsp ?_ (fun j hj hjl=>?_) (by rw[HRL.o];exact c3) (by rw[HRL.o];exact HP3.o.kept rfl)
     ·rw[q0o,HXX.o]
     ·rw[q1b (by omega)];simp only[F1];rw[if_pos (by omega)];rfl
    have HF:Hid (upd (upd (F1 (q0a t) (i+1)) i ⟨x.op,x.tx,x.n,0,0,0,0⟩) i ⟨x.op,x.tx,x.n,(q1g (q0a t) i).en,0,0,0⟩=F1 (q0a t) i):=by
     show _=_
     have:=y3k (R:=q0a t) (i:=i)
     rw[q1,HXX.o]at this;rw[k1g];exact this
    have HP4:Hid (PwR (w3.setCell ⟨w.heap.size+1,i*7+3,none⟩ (.int .i64 (q1g (q0a t) i).en)) (w.heap.size+1) ds.length (F1 (q0a t) i)):=by
     have:=HP3.o.putEn hi (q1g (q0a t) i).en
     rw[q0o,HF.o]at this;exact this
    have HR4:Hid (NP w (w3.setCell ⟨w.heap.size+1,i*7+3,none⟩ (.int .i64 (q1g (q0a t) i).en)) wd ds.length):=HR3.o.belX (B:=w.heap.size+1+1+1) y9c Zl;clear HR3 HP3 HF HXX
    generalize((q1g (q0a t) i).en:Int)=en at *
    go_region_held3 (fun w'=>w'.cell? ⟨w.heap.size+1+1,0,none⟩=some (.slice (some ⟨w.heap.size+1,0,none⟩) ds.length ds.length))
     (first|exact c3|exact(cso (by omega)).trans c3) ((go_at_call 107;refine HB.o.mono ?_;rintro e w4⟨rfl,q,rfl⟩))
    all_goals
     go_wp2
     go_roundw
     case rel=>exact⟨HR4.o.same rfl rfl rfl rfl,i,by omega,by go_num,HP4.o.kept rfl⟩
     case measure=>simp[intOf]
theorem k6v(c:Int)(h:c=0\/c=1)(w:World):Calls prog 68 #[.int .i64 c] w fun e w'=>e=.returned (.bool false)/\w=w':=by
 rcases h with rfl|rfl
 all_goals
  go_in;go_wp2;go_ret;exact⟨rfl,rfl⟩
theorem k3o(c:Int)(h0:c≠0)(h1:c≠1)(w:World):Calls prog 68 #[.int .i64 c] w fun e w'=>e=.returned (.bool true)/\w=w':=by
 have g0:(c != 0)=true:=by simp[h0]
 have g1:(c != 1)=true:=by simp[h1]
 clear h0 h1;go_in;go_wp2;go_ret;exact⟨rfl,rfl⟩
theorem z0o(ws:List Int)(wa:Option Addr)(wc:Nat)(w:World)(hI:z1r w wa ws)(hl:ws.length<=9223372036854775807):
  Calls prog 113 #[.slice wa ws.length wc,.func (.func 68) #[] #[]] w fun e w'=>((q2k ws/\e=.returned (.int .i64 (-1)))\/(¬q2k ws/\∃k:Nat,e=.returned (.int .i64 k)))/\w=w':=by
 have HI:Hid (z1r w wa ws):=hI;clear hI;go_in;go_wp2_with fail
 go_loopw [8] (fun i wr=>wr=w/\∃k:Nat,k<=ws.length/\i=.int .i64 k/\∀j(h:j<ws.length),j<k->ws[j]=0\/ws[j]=1) (fun i _=>ws.length-(intOf i).toNat)
 case atStart=>exact⟨rfl,0,Nat.zero_le _,rfl,fun j _ hj=>by omega⟩
 case round=>
  obtain⟨rfl,k,hk,rfl,hall⟩:=hrel;have HA:Hid (∀j(h:j<ws.length),j<k->ws[j]=0\/ws[j]=1):=hall;clear hall;by_cases hlt:k<ws.length
  ·obtain⟨b0,o0,ea,hb0,c0⟩:=HI.o k hlt;subst ea;by_cases h01:ws[k]=0\/ws[k]=1
   ·have HA':Hid (∀j(h:j<ws.length),j<k+1->ws[j]=0\/ws[j]=1):=fun j h hj=>by
     by_cases hjk:j=k
     ·subst hjk;exact h01
     ·exact HA.o j h (by omega)
    have HC:Hid (ws[k]=0\/ws[k]=1):=h01;clear h01;go_wp2_with fail;refine(k6v _ HC.o _).mono ?_;rintro e w2⟨rfl,rfl⟩;go_wp2
    go_roundw
    case rel=>exact⟨by trivial,k+1,by omega,by go_num,HA'.o⟩
    case measure=>simp[intOf];omega
   ·have HC:Hid (¬(ws[k]=0\/ws[k]=1)):=h01;clear h01;go_wp2_with fail;refine(k3o _ (fun h=>HC.o (.inl h)) (fun h=>HC.o (.inr h)) _).mono ?_;rintro e w2⟨rfl,rfl⟩;go_wp2;go_ret;exact⟨.inr ⟨fun hok=>HC.o (hok _ (List.getElem_mem hlt)),k,rfl⟩,rfl⟩
  ·have hok:q2k ws:=fun c hc=>by
    obtain⟨j,hj,rfl⟩:=List.getElem_of_mem hc;exact HA.o j hj (by omega)
   have HOK:Hid (q2k ws):=hok;clear hok;go_wp2;go_ret;exact⟨.inl ⟨HOK.o,rfl⟩,rfl⟩
theorem g4y(ws:List Int)(wa:Option Addr)(wc:Nat)(w:World)(hI:z1r w wa ws)(hl:ws.length<=9223372036854775807)(h:q2k ws):
  Calls prog 67 #[.slice wa ws.length wc,.func (.func 68) #[] #[]] w fun e w'=>e=.returned (.bool false)/\w=w':=by
 have HI:Hid (z1r w wa ws):=hI;have H:Hid (q2k ws):=h;clear hI h;go_in;go_wp2_with fail;refine(z0o ws wa wc _ HI.o hl).mono ?_;rintro e w2⟨h1,rfl⟩;rcases h1 with⟨_,rfl⟩|⟨h1,_⟩
 ·go_wp2;go_ret;exact⟨rfl,rfl⟩
 ·exact absurd H.o h1
theorem y9u(ws:List Int)(wa:Option Addr)(wc:Nat)(w:World)(hI:z1r w wa ws)(hl:ws.length<=9223372036854775807)(h:¬q2k ws):
  Calls prog 67 #[.slice wa ws.length wc,.func (.func 68) #[] #[]] w fun e w'=>e=.returned (.bool true)/\w=w':=by
 have HI:Hid (z1r w wa ws):=hI;have H:Hid (¬q2k ws):=h;clear hI h;go_in;go_wp2_with fail;refine(z0o ws wa wc _ HI.o hl).mono ?_;rintro e w2⟨h1,rfl⟩;rcases h1 with⟨h1,_⟩|⟨_,k,rfl⟩
 ·exact absurd h1 H.o
 ·have hk:(0:Int)<=(k:Int):=by omega
  go_wp2;go_ret;exact⟨rfl,rfl⟩
theorem g3t(B b s be bf:Nat)(_hb:s<B/\be<B/\bf<B)(hB:B<=b)(ds:List Nd)(a:Option Addr)(cap:Nat)(_hl:ds.length<=400)(tx:ByteArray)(n:Int):q3i B b s be bf ds a cap (⟨5,tx,n⟩::[]) (fun _ ws=>.ok ([],ws)):=by
 intro i r deep ws wa wc l w hd hC hI _ hwc hW hdeep hsz;obtain⟨hi,e1,e2⟩:=q1l (x:=⟨5,tx,n⟩) (A:=[]++r) hd;obtain⟨o0,ea,d1,d2,d3⟩:=hC.nd i hi;subst ea;rw[e1]at d1 d2 d3;dsimp only at d1 d2 d3;have c0:=hW.c0;have c1:=hW.c1;have c2:=hW.c2;have c5:=hW.c5;have hlt:=hW.lt;have hs0:s<w.heap.size:=by omega
 have hbs:B<=w.heap.size:=by omega
 have hiI:(i:Int)<(ds.length:Int):=by omega
 have HD:Hid (ds.drop i=⟨5,tx,n⟩::([]++r)):=hd;have HD1:Hid (ds.drop (i+1)=[]++r):=e2;have HC:Hid (LC B s be bf (some ⟨s,o0,none⟩) ds w):=hC;have HI:Hid (q2x B w wa ws):=hI;have HW:Hid (WS B b (q6v be bf ds.length cap (some ⟨s,o0,none⟩)) l (.slice wa ws.length wc) w):=hW;have HA:Hid (∀O:Obj,Below B w (w.alloc O)):=fun O=>(Below.refl _ w).alloc hbs O
 clear hC hI hW hd e1 e2;simp only[List.length_cons,List.length_nil]at hdeep hsz;go_in;go_wp2;go_ret;exact⟨⟨rfl,wa,wc,by rw[List.append_nil];exact HW.o.alloc _,HI.o.W (HA.o _),hwc⟩,HA.o _⟩
theorem g3p(B b s be bf:Nat)(_hb:s<B/\be<B/\bf<B)(hB:B<=b)(ds:List Nd)(a:Option Addr)(cap:Nat)(_hl:ds.length<=400)(tx:ByteArray)(n:Int)(ht:tx.size<=20):q3i B b s be bf ds a cap (⟨1,tx,n⟩::[]) (fun _ ws=>.ok (tx.data.toList,ws)):=by
 intro i r deep ws wa wc l w hd hC hI _ hwc hW hdeep hsz;obtain⟨hi,e1,e2⟩:=q1l (x:=⟨1,tx,n⟩) (A:=[]++r) hd;obtain⟨o0,ea,d1,d2,d3⟩:=hC.nd i hi;subst ea;rw[e1]at d1 d2 d3;dsimp only at d1 d2 d3;have c0:=hW.c0;have c1:=hW.c1;have c2:=hW.c2;have c5:=hW.c5;have hlt:=hW.lt;have hs0:s<w.heap.size:=by omega
 have hbs:B<=w.heap.size:=by omega
 have hiI:(i:Int)<(ds.length:Int):=by omega
 have HD:Hid (ds.drop i=⟨1,tx,n⟩::([]++r)):=hd;have HD1:Hid (ds.drop (i+1)=[]++r):=e2;have HC:Hid (LC B s be bf (some ⟨s,o0,none⟩) ds w):=hC;have HI:Hid (q2x B w wa ws):=hI;have HW:Hid (WS B b (q6v be bf ds.length cap (some ⟨s,o0,none⟩)) l (.slice wa ws.length wc) w):=hW;have HA:Hid (∀O:Obj,Below B w (w.alloc O)):=fun O=>(Below.refl _ w).alloc hbs O
 clear hC hI hW hd e1 e2;simp only[List.length_cons,List.length_nil]at hdeep hsz;go_in;go_wp2_with fail
 go_region_with (go_at_call 47;refine(g3z (WS.drew (HW.o.alloc _)) hB tx (by omega)).mono ?_;rintro e w2⟨⟨z,rfl⟩,h2,hb2⟩)
 all_goals
  go_wp2;go_ret;have hB2:Below B w w2:=(Below.drew (HA.o _)).trans hb2;exact⟨⟨rfl,wa,wc,h2,HI.o.W hB2,hwc⟩,hB2⟩
end Go.Proofs.YthcpdohdppkmkaaGreatDoor
