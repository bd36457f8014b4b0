import Derived.Test.YtchdplceopegoaaGreatDoorPi08
import Derived.Deep.DeepFit
open Go.Proofs.Tryz
open List (getElem_cons_zero length_append length_cons)
open Nat (add_zero le_of_eq le_trans zero_le zero_mul)
namespace Go.Proofs.YtchdplceopegoaaGreatDoor
open Go Go.RowKit
set_option maxRecDepth 100000
set_option maxHeartbeats 8000000
theorem j1v{w w':World}{m:Nat}(hg:w.grownBy w' (some m)):q0n w m w w':=
 ⟨hg.os,hg.tape,hg.output,hg.size,fun k hk hne=>hg.block k hk (by intro e;exact hne (Option.some.inj e))⟩
structure SkB(w w2:World)(i c:Nat)(k:Cv):Prop where
 a0:w2.cell? ⟨w,0,none⟩=some (.int .i64 i)
 a1:w2.cell? ⟨w,1,none⟩=some (.int .i64 c)
 r0:w2.cell? ⟨w.heap.size+1,0,none⟩=some (.int .i64 0)
 r1:w2.cell? ⟨w.heap.size+1,1,none⟩=some (.int .i64 0)
 r2:w2.cell? ⟨w.heap.size+1,2,none⟩=some (.int .i64 0)
 r3:w2.cell? ⟨w.heap.size+1,3,none⟩=some (.int .i64 0)
 r4:w2.cell? ⟨w.heap.size+1,4,none⟩=some (.int .i64 0)
 t0:w2.cell? ⟨w.heap.size+1+1,0,none⟩=some (.int .i64 k.o)
 t1:w2.cell? ⟨w.heap.size+1+1,1,none⟩=some (.int .i64 k.l)
 t2:w2.cell? ⟨w.heap.size+1+1,2,none⟩=some (.int .i64 k.ch)
 t3:w2.cell? ⟨w.heap.size+1+1,3,none⟩=some (.int .i64 k.np)
 t4:w2.cell? ⟨w.heap.size+1+1,4,none⟩=some (.int .i64 k.nc)
 fr:q7w w2 (w.heap.size+1)
 ft:q7w w2 (w.heap.size+1+1)
theorem SkB.kept{w w2 w3:World}{i c m:Nat}{k:Cv}(h:SkB w w2 i c k)(hb:q0n w2 m w2 w3)(hm:m<w.heap.size):SkB w w3 i c k:=by
 have B:=h.ft.lt;have A:∀b o v,b=w.heap.size\/b=w.heap.size+1\/b=w.heap.size+1+1->w2.cell? ⟨b,o,none⟩=some v->w3.cell? ⟨b,o,none⟩=some v:=fun b o v he hv=>(hb.cell (p:=⟨b,o,none⟩) (by simp;omega) (by simp;omega)).trans hv
 exact⟨A _ _ _ (.inl rfl) h.a0,A _ _ _ (.inl rfl) h.a1,A _ _ _ (.inr (.inl rfl)) h.r0,A _ _ _ (.inr (.inl rfl)) h.r1,A _ _ _ (.inr (.inl rfl)) h.r2,A _ _ _ (.inr (.inl rfl)) h.r3,A _ _ _ (.inr (.inl rfl)) h.r4,
  A _ _ _ (.inr (.inr rfl)) h.t0,A _ _ _ (.inr (.inr rfl)) h.t1,A _ _ _ (.inr (.inr rfl)) h.t2,A _ _ _ (.inr (.inr rfl)) h.t3,A _ _ _ (.inr (.inr rfl)) h.t4,h.fr.kept (hb.block _ (by omega) (by omega)),h.ft.kept (hb.block _ (by omega) (by omega))⟩
theorem y9i{sb g mb wd i c:Nat}{R:List Pl}{S:Nat->Nat->Bool}{w w1:World}(h:Sk1 sb g mb wd i c R S w w1):SkB w (w1.alloc (.cells #[.int .i64 0,.int .i64 0,.int .i64 0,.int .i64 0,.int .i64 0] 218)).drew i c zCv:=by
 have B:=heap_alloc_new w1 (.cells #[.int .i64 0,.int .i64 0,.int .i64 0,.int .i64 0,.int .i64 0] 218);rw[h.sz]at B;have A:∀o v,(w1.alloc (.cells #[.int .i64 0,.int .i64 0,.int .i64 0,.int .i64 0,.int .i64 0] 218)).cell? ⟨w.heap.size+1+1,o,none⟩=v->(w1.alloc (.cells #[.int .i64 0,.int .i64 0,.int .i64 0,.int .i64 0,.int .i64 0] 218)).drew.cell? ⟨w.heap.size+1+1,o,none⟩=v:=fun _ _ h=>h
 refine⟨ka h.a0 _,ka h.a1 _,ka h.r0 _,ka h.r1 _,ka h.r2 _,ka h.r3 _,ka h.r4 _,A _ _ ?_,A _ _ ?_,A _ _ ?_,A _ _ ?_,A _ _ ?_,h.fr.kept (Below.heap_alloc _ _ _ h.fr.lt),⟨_,_,B⟩⟩
 all_goals simp[World.cell?,B,zCv]
theorem SkB.put{w w2:World}{i c:Nat}{k k':Cv}(h:SkB w w2 i c k):SkB w (((((w2.setCell ⟨w.heap.size+1+1,0,none⟩ (.int .i64 k'.o)).setCell ⟨w.heap.size+1+1,1,none⟩ (.int .i64 k'.l)).setCell ⟨w.heap.size+1+1,2,none⟩ (.int .i64 k'.ch)).setCell ⟨w.heap.size+1+1,3,none⟩ (.int .i64 k'.np)).setCell ⟨w.heap.size+1+1,4,none⟩ (.int .i64 k'.nc)) i c k':=by
 have A:∀b o v v0 v1 v2 v3 v4,b≠w.heap.size+1+1->w2.cell? ⟨b,o,none⟩=some v->(((((w2.setCell ⟨w.heap.size+1+1,0,none⟩ v0).setCell ⟨w.heap.size+1+1,1,none⟩ v1).setCell ⟨w.heap.size+1+1,2,none⟩ v2).setCell ⟨w.heap.size+1+1,3,none⟩ v3).setCell ⟨w.heap.size+1+1,4,none⟩ v4).cell? ⟨b,o,none⟩=some v:=
  fun b o v v0 v1 v2 v3 v4 hb hv=>(cso (.inl hb.symm)).trans ((cso (.inl hb.symm)).trans ((cso (.inl hb.symm)).trans ((cso (.inl hb.symm)).trans ((cso (.inl hb.symm)).trans hv))))
 have B:=h.t0;have C:=h.t1;have D:=h.t2;have E:=h.t3;have G:=h.t4;refine⟨A _ _ _ _ _ _ _ _ (by omega) h.a0,A _ _ _ _ _ _ _ _ (by omega) h.a1,A _ _ _ _ _ _ _ _ (by omega) h.r0,A _ _ _ _ _ _ _ _ (by omega) h.r1,A _ _ _ _ _ _ _ _ (by omega) h.r2,A _ _ _ _ _ _ _ _ (by omega) h.r3,A _ _ _ _ _ _ _ _ (by omega) h.r4,?_,?_,?_,?_,?_,?_,?_⟩
 ·exact(cso (by omega)).trans ((cso (by omega)).trans ((cso (by omega)).trans ((cso (by omega)).trans (css B))))
 ·exact(cso (by omega)).trans ((cso (by omega)).trans ((cso (by omega)).trans (css ((cso (by omega)).trans C))))
 ·exact(cso (by omega)).trans ((cso (by omega)).trans (css ((cso (by omega)).trans ((cso (by omega)).trans D))))
 ·exact(cso (by omega)).trans (css ((cso (by omega)).trans ((cso (by omega)).trans ((cso (by omega)).trans E))))
 ·exact css ((cso (by omega)).trans ((cso (by omega)).trans ((cso (by omega)).trans ((cso (by omega)).trans G))))
 ·exact h.fr.set.set.set.set.set
 ·exact h.ft.set.set.set.set.set
theorem v7z(sb g mb wd i c:Nat)(R:List Pl)(hi:i<R.length)(hR:R.length<=400)(hc:c<=100)(Aa:c<=wd)(u:k5a sb g mb wd R i c)(w:World)(S:Nat->Nat->Bool)(h:Inv sb g mb wd R w S)(hS:S i c=false):
  Calls prog 126 #[.pointer (some ⟨sb,0,none⟩),.agg #[.int .i64 i,.int .i64 c]] w fun e w'=>e=.returned (cvV (crs R wd i c))/\Left sb g mb wd R S i i c w w':=by
 have c0:=h.pl.c0;have H:Hid (Inv sb g mb wd R w S):=h;have q:Hid (k5a sb g mb wd R i c):=u;have f:=h.lt;have Ai:((i:Int)==(R.length:Int))=false:=beq_eq_false_iff_ne.2 (by omega);have Ah:∀O1 O2,((w.alloc O1).alloc O2).cell? ⟨sb,0,none⟩=some (.slice (some ⟨g,0,none⟩) R.length R.length):=fun O1 O2=>ka (ka c0 O1) O2
 have HS:Hid (S i c=false):=hS
 have Q:Hid (∀W,Mem W mb (crs R wd) S->(Instr.lookup 212 (.map (some mb)) (.agg #[.int .i64 (i:Int),.int .i64 (c:Int)]) true).run prog W=.ok (.tuple #[.agg #[.int .i64 0,.int .i64 0,.int .i64 0,.int .i64 0,.int .i64 0],.bool false]) W):=fun W hW=>by
  have:=hW.look_ok (p:=i) (c:=c) (by omega) hc
  rw[HS.o,if_neg (by simp)]at this;exact this
 rw[cvV];go_in;go_wp2_with fail
 go_quiet (fail)
 go_wp2_with fail;have L:=z7w (i:=i) (c:=c) (nq:=nq) H.o
 generalize((w.alloc (.cells #[.int .i64 i,.int .i64 c] 216)).alloc (.cells #[.int .i64 0,.int .i64 0,.int .i64 0,.int .i64 0,.int .i64 0] 218)).drewN nq=w1 at *
 have M:Hid (Sk1 sb g mb wd i c R S w w1):=L;have m:=L.inv.c2;obtain⟨_,Aj,V,X,_,_,_,_,_,_,_⟩:=L;have x:=Q.o w1.drew (M.o.inv.me.kept rfl);have y:=fun O=>Q.o (w1.alloc O).drew ((M.o.inv.alloc O).me.kept rfl)
 have Af:=fun O=>ka V O
 have Ag:=fun O=>ka X O
 go_region_held3 (fun w'=>w'.cell? ⟨sb,2,none⟩=some (.map (some mb))/\w'.cell? ⟨w,0,none⟩=some (.int .i64 i)/\w'.cell? ⟨w,1,none⟩=some (.int .i64 c)/\(Instr.lookup 212 (.map (some mb)) (.agg #[.int .i64 (i:Int),.int .i64 (c:Int)]) true).run prog w'=.ok (.tuple #[.agg #[.int .i64 0,.int .i64 0,.int .i64 0,.int .i64 0,.int .i64 0],.bool false]) w')
  (first|exact⟨m,V,X,x⟩|exact⟨ka m _,ka V _,ka X _,y _⟩) (fail)
 all_goals
  go_wp2_with fail;refine(q.o (w1.alloc (.cells #[.int .i64 0,.int .i64 0,.int .i64 0,.int .i64 0,.int .i64 0] 218)).drew S ((M.o.inv.alloc _).kept fun _ _=>rfl)).mono ?_;rintro e C⟨rfl,hL⟩;obtain⟨d,D,hI,Ae,Ac,Ab⟩:=hL;have hB:=(y9i M.o).kept d f.2.2;have n:Hid (q0n w mb w C):=((q0n.of (M.o.bw.alloc M.o.bw.size _)).drew).trans (d.mono (by show w.heap.size<=(w1.alloc _).heap.size;simp;omega));have r:Hid (SkB w C i c zCv):=hB;obtain⟨_,_,_,_,_,_,_,t0,t1,t2,t3,t4,_,Z⟩:=hB;have y0:C.frozen? ⟨w.heap.size+1+1,0,none⟩=false:=Z.frozen;have y1:C.frozen? ⟨w.heap.size+1+1,1,none⟩=false:=Z.frozen;have y2:C.frozen? ⟨w.heap.size+1+1,2,none⟩=false:=Z.frozen;have y3:C.frozen? ⟨w.heap.size+1+1,3,none⟩=false:=Z.frozen;have y4:C.frozen? ⟨w.heap.size+1+1,4,none⟩=false:=Z.frozen;have HI:Hid (Inv sb g mb wd R C D):=hI;have k:Hid ((∀a b,S a b=true->D a b=true)/\(∀a b,D a b=true->S a b=true\/i+1<=a)/\((crs R wd i c).np<R.length->D (crs R wd i c).np (crs R wd i c).nc=true)):=⟨Ae,Ac,Ab⟩;rw[cvV];have I:Hid (SkB w (((((C.setCell ⟨w.heap.size+1+1,0,none⟩ (.int .i64 (crs R wd i c).o)).setCell ⟨w.heap.size+1+1,1,none⟩ (.int .i64 (crs R wd i c).l)).setCell ⟨w.heap.size+1+1,2,none⟩ (.int .i64 (crs R wd i c).ch)).setCell ⟨w.heap.size+1+1,3,none⟩ (.int .i64 (crs R wd i c).np)).setCell ⟨w.heap.size+1+1,4,none⟩ (.int .i64 (crs R wd i c).nc)) i c (crs R wd i c)):=r.o.put;have K:Hid (Inv sb g mb wd R (((((C.setCell ⟨w.heap.size+1+1,0,none⟩ (.int .i64 (crs R wd i c).o)).setCell ⟨w.heap.size+1+1,1,none⟩ (.int .i64 (crs R wd i c).l)).setCell ⟨w.heap.size+1+1,2,none⟩ (.int .i64 (crs R wd i c).ch)).setCell ⟨w.heap.size+1+1,3,none⟩ (.int .i64 (crs R wd i c).np)).setCell ⟨w.heap.size+1+1,4,none⟩ (.int .i64 (crs R wd i c).nc)) D):=HI.o.set5 (by omega) (by omega) (by omega) _ _ _ _ _;have G:Hid (q0n w mb w (((((C.setCell ⟨w.heap.size+1+1,0,none⟩ (.int .i64 (crs R wd i c).o)).setCell ⟨w.heap.size+1+1,1,none⟩ (.int .i64 (crs R wd i c).l)).setCell ⟨w.heap.size+1+1,2,none⟩ (.int .i64 (crs R wd i c).ch)).setCell ⟨w.heap.size+1+1,3,none⟩ (.int .i64 (crs R wd i c).np)).setCell ⟨w.heap.size+1+1,4,none⟩ (.int .i64 (crs R wd i c).nc))):=k5g n.o (by omega) _ _ _ _ _;go_wp2_with fail
  generalize((((C.setCell ⟨w.heap.size+1+1,0,none⟩ (.int .i64 (crs R wd i c).o)).setCell ⟨w.heap.size+1+1,1,none⟩ (.int .i64 (crs R wd i c).l)).setCell ⟨w.heap.size+1+1,2,none⟩ (.int .i64 (crs R wd i c).ch)).setCell ⟨w.heap.size+1+1,3,none⟩ (.int .i64 (crs R wd i c).np)).setCell ⟨w.heap.size+1+1,4,none⟩ (.int .i64 (crs R wd i c).nc)=w3 at *
  have z:D i c=false:=by
   cases e:D i c with
   | false=>rfl
   | true=>
    rcases k.o.2.1 i c e with t|t
    ·rw[HS.o]at t;cases t
    ·omega
  obtain⟨E,j,Ad,B⟩:=Mem.store (w:=w3.drew) (p:=i) (c:=c) (K.o.me.kept rfl) (by omega) hc z;have J:q0n w3 mb w3 E:=⟨B.os,B.tape,B.output,B.size,(j1v B).block⟩;have U:Hid (SkB w E i c (crs R wd i c)):=I.o.kept J f.2.2;have P:Hid (Inv sb g mb wd R E (k1i D i c)):=Inv.more (w:=w3.drew) (K.o.kept fun _ _=>rfl) B Ad hi Aa k.o.2.2;have N:Hid (q0n w mb w E):=G.o.trans (J.mono G.o.size);have m:=K.o.c2;have s:=P.o.c2;obtain⟨V,X,_,_,_,_,_,t0,t1,t2,t3,t4,_,_⟩:=I.o;obtain⟨b0,b1,r0,r1,r2,r3,r4,u0,u1,u2,u3,u4,Y,_⟩:=U.o;have y0:E.frozen? ⟨w.heap.size+1,0,none⟩=false:=Y.frozen;have y1:E.frozen? ⟨w.heap.size+1,1,none⟩=false:=Y.frozen;have y2:E.frozen? ⟨w.heap.size+1,2,none⟩=false:=Y.frozen;have y3:E.frozen? ⟨w.heap.size+1,3,none⟩=false:=Y.frozen;have y4:E.frozen? ⟨w.heap.size+1,4,none⟩=false:=Y.frozen;rw[cvV]at j
  go_region_held3 (fun w'=>w'.cell? ⟨sb,2,none⟩=some (.map (some mb))/\w'.cell? ⟨w,0,none⟩=some (.int .i64 i)/\w'.cell? ⟨w,1,none⟩=some (.int .i64 c)/\w'.cell? ⟨w.heap.size+1+1,0,none⟩=some (.int .i64 (crs R wd i c).o)/\w'.cell? ⟨w.heap.size+1+1,1,none⟩=some (.int .i64 (crs R wd i c).l)/\w'.cell? ⟨w.heap.size+1+1,2,none⟩=some (.int .i64 (crs R wd i c).ch)/\w'.cell? ⟨w.heap.size+1+1,3,none⟩=some (.int .i64 (crs R wd i c).np)/\w'.cell? ⟨w.heap.size+1+1,4,none⟩=some (.int .i64 (crs R wd i c).nc))
   (first|exact⟨m,V,X,t0,t1,t2,t3,t4⟩|exact⟨s,b0,b1,u0,u1,u2,u3,u4⟩) (fail)
  all_goals
   go_wp2;refine bodyPost_ret (v:=.agg #[.int .i64 (crs R wd i c).o,.int .i64 (crs R wd i c).l,.int .i64 (crs R wd i c).ch,.int .i64 (crs R wd i c).np,.int .i64 (crs R wd i c).nc]) (by simp[results,Tryz.results126,go_sem,r0,r1,r2,r3,r4]) rfl ⟨rfl,k5g N.o (by omega) _ _ _ _ _,k1i D i c,P.o.set5 (by omega) (by omega) (by omega) _ _ _ _ _,fun a b A=>?_,fun a b A=>?_,fun _=>by simp[k1i]⟩
   ·simp[k1i,k.o.1 a b A]
   ·simp only[k1i,Bool.or_eq_true,Bool.and_eq_true,decide_eq_true_eq]at A;rcases A with A|A
    ·rcases k.o.2.1 a b A with h|h
     ·exact .inl h
     ·exact .inr (by omega)
    ·exact .inr (by omega)
theorem v7y(sb g mb wd i c:Nat)(R:List Pl)(hi:i<R.length)(hR:R.length<=400)(hw:wd<=100)(B:c<=wd)(A:k5a sb g mb wd R i c):j4k sb g mb wd R i c:=by
 intro w S h;rw[if_pos hi];cases C:S i c with
 | true=>exact j2y sb g mb wd i c R hi hR (by omega) w S h C
 | false=>exact v7z sb g mb wd i c R hi hR (by omega) B A w S h C
theorem j6r(a b c d e:Value)(w:World):(Instr.field 218 (.agg #[a,b,c,d,e]) 0).run prog w=.ok (.agg #[a,b]) w:=by kernel_rfl
theorem k5u(a b c d e:Value)(w:World):(Instr.field 218 (.agg #[a,b,c,d,e]) 1).run prog w=.ok c w:=by kernel_rfl
theorem j6s(a b c d e:Value)(w:World):(Instr.field 218 (.agg #[a,b,c,d,e]) 2).run prog w=.ok (.agg #[d,e]) w:=by kernel_rfl
structure TkB(w1 wx:World)(b b7 b8:Nat)(m:Mv):Prop where
 p0:wx.cell? ⟨b7,0,none⟩=some (.int .i64 m.np)
 p1:wx.cell? ⟨b7,1,none⟩=some (.int .i64 m.nc)
 o0:wx.cell? ⟨b8,0,none⟩=some (.int .i64 m.o)
 o1:wx.cell? ⟨b8,1,none⟩=some (.int .i64 m.l)
 n7:b<b7
 n8:b<b8
 bw:Below (b+1) w1 wx
theorem q1y{w1 w2:World}{n:Nat}(h:Below n w1 w2)(hn:n<=w1.heap.size)(O:Obj):Below n w1 (w2.alloc O):=h.alloc (le_trans hn h.size) O
section
variable {w1 w2:World} {b:Nat} {m:Mv} {T7 T8:TypeId}
theorem g2s(h:Below (b+1) w1 w2)(hb:b+1=w1.heap.size):TkB w1 ((w2.alloc (.cells #[.int .i64 m.np,.int .i64 m.nc] T7)).alloc (.cells #[.int .i64 m.o,.int .i64 m.l] T8)) b w2.heap.size (w2.heap.size+1) m:=
 have hs:=h.size
 ⟨by simp[go_sem],by simp[go_sem],by simp[go_sem],by simp[go_sem],by omega,by omega,q1y (q1y h (by omega) _) (by omega) _⟩
theorem g2t(h:Below (b+1) w1 w2)(hb:b+1=w1.heap.size):TkB w1 ((w2.alloc (.cells #[.int .i64 m.o,.int .i64 m.l] T8)).alloc (.cells #[.int .i64 m.np,.int .i64 m.nc] T7)) b (w2.heap.size+1) w2.heap.size m:=
 have hs:=h.size
 ⟨by simp[go_sem],by simp[go_sem],by simp[go_sem],by simp[go_sem],by omega,by omega,q1y (q1y h (by omega) _) (by omega) _⟩
theorem z6a{W:World}{a:Nat}{u0 u1 v0 v1:Value}(h0:W.cell? ⟨a,0,none⟩=some u0)(h1:W.cell? ⟨a,1,none⟩=some u1):((W.setCell ⟨a,0,none⟩ v0).setCell ⟨a,1,none⟩ v1).cell? ⟨a,0,none⟩=some v0/\((W.setCell ⟨a,0,none⟩ v0).setCell ⟨a,1,none⟩ v1).cell? ⟨a,1,none⟩=some v1:=
 ⟨(cso (by omega)).trans (css h0),css ((cso (by omega)).trans h1)⟩
theorem q5g{n a:Nat}{v0 v1:Value}(h:Below n w1 w2)(hn:n<=a):Below n w1 ((w2.setCell ⟨a,0,none⟩ v0).setCell ⟨a,1,none⟩ v1):=(h.setCell (p:=⟨a,0,none⟩) hn _).setCell (p:=⟨a,1,none⟩) hn _
theorem z7d{W:World}{a d:Nat}{u0 u1 s0 s1 v0 v1 t0 t1:Value}(A:a≠d)(h0:W.cell? a=some u0)(h1:W.cell? (a,1)=some u1)(k0:W.cell? d=some s0)(k1:W.cell? (d,1)=some s1):
  ((((W.setCell a v0).setCell (a,1) v1).setCell d t0).setCell (d,1) t1).cell? a=some v0/\((((W.setCell a v0).setCell (a,1) v1).setCell d t0).setCell (d,1) t1).cell? (a,1)=some v1/\((((W.setCell a v0).setCell (a,1) v1).setCell d t0).setCell (d,1) t1).cell? d=some t0/\((((W.setCell a v0).setCell (a,1) v1).setCell d t0).setCell (d,1) t1).cell? (d,1)=some t1:=by
 obtain⟨B,C⟩:=z6a (v0:=v0) (v1:=v1) h0 h1;obtain⟨D,E⟩:=z6a (W:=(W.setCell ⟨a,0,none⟩ v0).setCell ⟨a,1,none⟩ v1) (v0:=t0) (v1:=t1) ((cso (.inl A)).trans ((cso (.inl A)).trans k0)) ((cso (.inl A)).trans ((cso (.inl A)).trans k1));exact⟨(cso (.inl A.symm)).trans ((cso (.inl A.symm)).trans B),(cso (.inl A.symm)).trans ((cso (.inl A.symm)).trans C),D,E⟩
theorem g2u{u0 u1:Value}(h:Below (b+1) w1 w2)(hb:b+1=w1.heap.size)(x0:w2.cell? ↑(b+1)=some u0)(x1:w2.cell? ↑(b+1,1)=some u1):
  TkB w1 (((((w2.alloc (.cells #[.int .i64 0,.int .i64 0] T8)).setCell ↑(b+1) ↑m.np).setCell ↑(b+1,1) ↑m.nc).setCell ↑w2.heap.size ↑m.o).setCell ↑(w2.heap.size,1) ↑m.l) b (b+1) w2.heap.size m:=by
 have A:=World.block_lt_of_cell? w2 ↑(b+1) x0;have B:b+1<w2.heap.size:=A;obtain⟨C,D,E,G⟩:=z7d (W:=w2.alloc (.cells #[.int .i64 0,.int .i64 0] T8)) (a:=b+1) (d:=w2.heap.size) (s0:=.int .i64 0) (s1:=.int .i64 0) (v0:=m.np) (v1:=m.nc) (t0:=m.o) (t1:=m.l) (by omega) (ka x0 _) (ka x1 _) (by simp[go_sem]) (by simp[go_sem]);exact⟨C,D,E,G,by omega,by omega,q5g (q5g (q1y h (by omega) _) (by omega)) (by omega)⟩
theorem g2v{u0 u1:Value}(h:Below (b+1) w1 w2)(hb:b+1=w1.heap.size)(x0:w2.cell? ↑(b+1)=some u0)(x1:w2.cell? ↑(b+1,1)=some u1):
  TkB w1 (((w2.alloc (.cells #[↑m.np,↑m.nc] T7)).setCell ↑(b+1) ↑m.o).setCell ↑(b+1,1) ↑m.l) b w2.heap.size (b+1) m:=by
 have A:=World.block_lt_of_cell? w2 ↑(b+1) x0;have B:b+1<w2.heap.size:=A;obtain⟨C,D⟩:=z6a (W:=w2.alloc (.cells #[m.np,m.nc] T7)) (v0:=m.o) (v1:=m.l) (ka x0 _) (ka x1 _);exact⟨(cso (by omega)).trans ((cso (by omega)).trans (by simp[go_sem])),(cso (by omega)).trans ((cso (by omega)).trans (by simp[go_sem])),C,D,by omega,by omega,q5g (q1y h (by omega) _) (by omega)⟩
theorem g3e{a d:Nat}{u0 u1 s0 s1:Value}(h:Below (b+1) w1 w2)(A:a≠d)(ha:b<a)(hd:b<d)(h0:w2.cell? a=some u0)(h1:w2.cell? (a,1)=some u1)(k0:w2.cell? d=some s0)(k1:w2.cell? (d,1)=some s1):
  TkB w1 ((((w2.setCell a m.np).setCell (a,1) m.nc).setCell d m.o).setCell (d,1) m.l) b a d m:=by
 obtain⟨B,C,D,E⟩:=z7d (v0:=m.np) (v1:=m.nc) (t0:=m.o) (t1:=m.l) A h0 h1 k0 k1;exact⟨B,C,D,E,ha,hd,q5g (q5g h (by omega)) (by omega)⟩
end
theorem k7z{W:World}{b b' o:Nat}{v v0 v1 v2 v3 v4:Value}(hb:b≠b')(h:W.cell? ⟨b,o,none⟩=some v):(((((W.setCell ⟨b',0,none⟩ v0).setCell ⟨b',1,none⟩ v1).setCell ⟨b',2,none⟩ v2).setCell ⟨b',3,none⟩ v3).setCell ⟨b',4,none⟩ v4).cell? ⟨b,o,none⟩=some v:=
 (cso (.inl hb.symm)).trans ((cso (.inl hb.symm)).trans ((cso (.inl hb.symm)).trans ((cso (.inl hb.symm)).trans ((cso (.inl hb.symm)).trans h))))
structure TkF(w wx:World)(b7 b8:Nat)(m:Mv):Prop where
 p0:wx.cell? ⟨b7,0,none⟩=some (.int .i64 m.np)
 p1:wx.cell? ⟨b7,1,none⟩=some (.int .i64 m.nc)
 o0:wx.cell? ⟨b8,0,none⟩=some (.int .i64 m.o)
 o1:wx.cell? ⟨b8,1,none⟩=some (.int .i64 m.l)
 r0:wx.cell? ⟨w.heap.size+1,0,none⟩=some (.int .i64 0)
 r1:wx.cell? ⟨w.heap.size+1,1,none⟩=some (.int .i64 0)
 r2:wx.cell? ⟨w.heap.size+1,2,none⟩=some (.int .i64 0)
 r3:wx.cell? ⟨w.heap.size+1,3,none⟩=some (.int .i64 0)
 r4:wx.cell? ⟨w.heap.size+1,4,none⟩=some (.int .i64 0)
 fr:q7w wx (w.heap.size+1)
 n7:w.heap.size+1<b7
 n8:w.heap.size+1<b8
theorem TkF.kept{w wx wy:World}{b7 b8 mb:Nat}{m:Mv}(h:TkF w wx b7 b8 m)(hb:q0n wx mb wx wy)(hm:mb<w.heap.size):TkF w wy b7 b8 m:=by
 have B:=h.n7;have C:=h.n8;have A:∀b o v,b≠mb->wx.cell? ⟨b,o,none⟩=some v->wy.cell? ⟨b,o,none⟩=some v:=fun b o v he hv=>(hb.cell (p:=⟨b,o,none⟩) (World.block_lt_of_cell? wx ⟨b,o,none⟩ hv) he).trans hv
 exact⟨A _ _ _ (by omega) h.p0,A _ _ _ (by omega) h.p1,A _ _ _ (by omega) h.o0,A _ _ _ (by omega) h.o1,A _ _ _ (by omega) h.r0,A _ _ _ (by omega) h.r1,A _ _ _ (by omega) h.r2,A _ _ _ (by omega) h.r3,A _ _ _ (by omega) h.r4,h.fr.kept (hb.block _ h.fr.lt (by omega)),B,C⟩
theorem y9r{sb g mb wd i c b7 b8:Nat}{R:List Pl}{S:Nat->Nat->Bool}{w w1 wx:World}{m:Mv}(h:Sk1 sb g mb wd i c R S w w1)(hT:TkB w1 wx (w.heap.size+1) b7 b8 m):TkF w wx b7 b8 m:=by
 have A:∀o v,w1.cell? ⟨w.heap.size+1,o,none⟩=some v->wx.cell? ⟨w.heap.size+1,o,none⟩=some v:=fun o v hv=>(hT.bw.cell (p:=⟨w.heap.size+1,o,none⟩) (by simp)).trans hv
 exact⟨hT.p0,hT.p1,hT.o0,hT.o1,A _ _ h.r0,A _ _ h.r1,A _ _ h.r2,A _ _ h.r3,A _ _ h.r4,h.fr.kept (hT.bw.block _ (by omega)),hT.n7,hT.n8⟩
theorem v8r{R:List Pl}{L M i nx dp wd c ch:Nat}{ks:List (Nat × Tr)}{t:Tr}(sb g mb:Nat)(hR:R.length<=400)(Aa:Sp R L M i t nx dp ks)(hc:c<=wd)(hw:wd<=100)(hL:L<=400)(hM:M<=3200)(An:ch=0\/ch=1)(hh:t.lg=-1->ch=1)
  (Am:j4k sb g mb wd R (q3p R wd i c ch).np (q3p R wd i c ch).nc) (hV:∃k:Cv,k=(if(q3p R wd i c ch).np<R.length then crs R wd (q3p R wd i c ch).np (q3p R wd i c ch).nc else zCv)/\k.o=(vv R wd (q3p R wd i c ch).np (q3p R wd i c ch).nc).1.1/\k.l=(vv R wd (q3p R wd i c ch).np (q3p R wd i c ch).nc).1.2/\k.o<=400000/\k.l<=400000):z6k sb g mb wd R i c ch:=by
 intro w S h;have H:Hid (Inv sb g mb wd R w S):=h;have Aq:=h.lt;obtain⟨k,hk,Ap,Ao,Ax,Aw⟩:=hV;have hm:=j8y (ch:=ch) Aa hc hw hL hM;have Z:Hid (∀W:World,q6j W sb g wd R->Cb 222 #[.pointer (some ⟨sb,0,none⟩),.agg #[.int .i64 i,.int .i64 c],.int .i64 ch] W (.tuple #[.agg #[.int .i64 (q3p R wd i c ch).np,.int .i64 (q3p R wd i c ch).nc],.agg #[.int .i64 (q3p R wd i c ch).o,.int .i64 (q3p R wd i c ch).l]])):=fun W hW=>j5j sb g W hR Aa hc hw hL hM An hh hW
 have Ah:Hid (∀W S,Inv sb g mb wd R W S->Cp 126 #[.pointer (some ⟨sb,0,none⟩),.agg #[.int .i64 (q3p R wd i c ch).np,.int .i64 (q3p R wd i c ch).nc]] W fun e w'=>e=.returned (.agg #[.int .i64 k.o,.int .i64 k.l,.int .i64 k.ch,.int .i64 k.np,.int .i64 k.nc])/\Left sb g mb wd R S (q3p R wd i c ch).np (q3p R wd i c ch).np (q3p R wd i c ch).nc W w'):=fun W S hW=>by
  have:=Am W S hW
  rw[<-hk]at this;exact this
 have Al:tkC R wd i c ch=⟨(q3p R wd i c ch).o+k.o,(q3p R wd i c ch).l+k.l,ch,(q3p R wd i c ch).np,(q3p R wd i c ch).nc⟩:=by rw[tkC,j6e,Ap,Ao]
 rw[Al,cvV];dsimp only;clear hk Ap Ao Am Al h;generalize q3p R wd i c ch=m at *;have HM:Hid (g3a R wd i m):=hm;have ho:=hm.bo;have A1:=hm.bl;clear hm;go_in;go_wp2_with fail;have Y:Sk1 sb g mb wd i c R S w ((w.alloc (.cells #[.int .i64 i,.int .i64 c] 216)).alloc (.cells #[.int .i64 0,.int .i64 0,.int .i64 0,.int .i64 0,.int .i64 0] 218)):=z7w (nq:=0) H.o
 generalize(w.alloc (.cells #[.int .i64 i,.int .i64 c] 216)).alloc (.cells #[.int .i64 0,.int .i64 0,.int .i64 0,.int .i64 0,.int .i64 0] 218)=w1 at *
 have HK:Hid (Sk1 sb g mb wd i c R S w w1):=Y;have a0:=Y.a0;have a1:=Y.a1;have E:=Y.sz;clear Y
 have N:Hid (∀W,Below (w.heap.size+1+1) w1 W->W.cell? ⟨w,0,none⟩=some (.int .i64 i)/\W.cell? ⟨w,1,none⟩=some (.int .i64 c)):=fun W hb=>
  ⟨(hb.cell (p:=⟨w,0,none⟩) (by simp;omega)).trans a0,(hb.cell (p:=⟨w,1,none⟩) (by simp;omega)).trans a1⟩
 have j:Below (w.heap.size+1+1) w1 w1.drew:=(Below.refl _ w1).drew;have n:∀O,Below (w.heap.size+1+1) w1 (w1.alloc O).drew:=fun O=>(q1y (Below.refl _ w1) (by omega) O).drew
 have q:∀O1 O2,Below (w.heap.size+1+1) w1 ((w1.alloc O1).alloc O2).drew:=fun O1 O2=>(q1y (q1y (Below.refl _ w1) (by omega) O1) (by omega) O2).drew
 have f:Hid (∀W,Below (w.heap.size+1+1) w1 W->q6j W sb g wd R):=fun W hb=>HK.o.inv.pl.kept (hb.block _ (by omega)) (hb.block _ (by omega))
 have Ac:Hid (Cp 222 #[.pointer (some ⟨sb,0,none⟩),.agg #[.int .i64 i,.int .i64 c],.int .i64 ch] w1.drew fun e w'=>e=.returned (.tuple #[.agg #[.int .i64 m.np,.int .i64 m.nc],.agg #[.int .i64 m.o,.int .i64 m.l]])/\Below w1.drew.heap.size w1.drew w'):=Z.o _ (f.o _ j);have Ad:Hid (∀O,Cp 222 #[.pointer (some ⟨sb,0,none⟩),.agg #[.int .i64 i,.int .i64 c],.int .i64 ch] (w1.alloc O).drew fun e w'=>e=.returned (.tuple #[.agg #[.int .i64 m.np,.int .i64 m.nc],.agg #[.int .i64 m.o,.int .i64 m.l]])/\Below (w1.alloc O).drew.heap.size (w1.alloc O).drew w'):=fun O=>Z.o _ (f.o _ (n O))
 have Ae:Hid (∀O1 O2,Cp 222 #[.pointer (some ⟨sb,0,none⟩),.agg #[.int .i64 i,.int .i64 c],.int .i64 ch] ((w1.alloc O1).alloc O2).drew fun e w'=>e=.returned (.tuple #[.agg #[.int .i64 m.np,.int .i64 m.nc],.agg #[.int .i64 m.o,.int .i64 m.l]])/\Below ((w1.alloc O1).alloc O2).drew.heap.size ((w1.alloc O1).alloc O2).drew w'):=fun O1 O2=>Z.o _ (f.o _ (q O1 O2))
 have Ai:Hid (∀w2,Below w1.drew.heap.size w1.drew w2->Below (w.heap.size+1+1) w1 w2):=fun w2 hb=>j.trans (hb.mono (by show _<=w1.heap.size;omega))
 have Aj:Hid (∀T w2,Below (w1.alloc (.cells #[.int .i64 0,.int .i64 0] T)).drew.heap.size (w1.alloc (.cells #[.int .i64 0,.int .i64 0] T)).drew w2->Below (w.heap.size+1+1) w1 w2/\w2.cell? ⟨w.heap.size+1+1,0,none⟩=some (.int .i64 0)/\w2.cell? ⟨w.heap.size+1+1,1,none⟩=some (.int .i64 0)/\w2.frozen? ⟨w.heap.size+1+1,0,none⟩=false/\w2.frozen? ⟨w.heap.size+1+1,1,none⟩=false/\w.heap.size+1+1+1<=w2.heap.size):=fun T w2 hb=>by
  obtain⟨I,J⟩:=q0s hb;have B:(w1.alloc (.cells #[.int .i64 0,.int .i64 0] T)).drew.heap.size=w.heap.size+1+1+1:=by show(w1.alloc (.cells #[.int .i64 0,.int .i64 0] T)).heap.size=_;simp[E]
  have X:=hb.size;rw[B]at X;refine⟨(n _).trans (hb.mono (by rw[B];omega)),(I _ _ (by rw[B];omega)).trans ?_,(I _ _ (by rw[B];omega)).trans ?_,(J _ _ (by rw[B];omega)).trans ?_,(J _ _ (by rw[B];omega)).trans ?_,X⟩
  ·rw[<-E];simp[go_sem]
  ·rw[<-E];simp[go_sem]
  ·rw[<-E];simp[go_sem]
  ·rw[<-E];simp[go_sem]
 have Ak:Hid (∀T1 T2 w2,Below ((w1.alloc (.cells #[.int .i64 0,.int .i64 0] T1)).alloc (.cells #[.int .i64 0,.int .i64 0] T2)).drew.heap.size ((w1.alloc (.cells #[.int .i64 0,.int .i64 0] T1)).alloc (.cells #[.int .i64 0,.int .i64 0] T2)).drew w2->Below (w.heap.size+1+1) w1 w2/\(w2.cell? ⟨w.heap.size+1+1,0,none⟩=some (.int .i64 0)/\w2.cell? ⟨w.heap.size+1+1,1,none⟩=some (.int .i64 0)/\w2.frozen? ⟨w.heap.size+1+1,0,none⟩=false/\w2.frozen? ⟨w.heap.size+1+1,1,none⟩=false)/\w2.cell? ⟨w.heap.size+1+1+1,0,none⟩=some (.int .i64 0)/\w2.cell? ⟨w.heap.size+1+1+1,1,none⟩=some (.int .i64 0)/\w2.frozen? ⟨w.heap.size+1+1+1,0,none⟩=false/\w2.frozen? ⟨w.heap.size+1+1+1,1,none⟩=false):=fun T1 T2 w2 hb=>by
  obtain⟨I,J⟩:=q0s hb;have B:((w1.alloc (.cells #[.int .i64 0,.int .i64 0] T1)).alloc (.cells #[.int .i64 0,.int .i64 0] T2)).drew.heap.size=w.heap.size+1+1+1+1:=by show((w1.alloc (.cells #[.int .i64 0,.int .i64 0] T1)).alloc (.cells #[.int .i64 0,.int .i64 0] T2)).heap.size=_;simp[E]
  refine⟨(q _ _).trans (hb.mono (by rw[B];omega)),⟨(I _ _ (by rw[B];omega)).trans ?_,(I _ _ (by rw[B];omega)).trans ?_,(J _ _ (by rw[B];omega)).trans ?_,(J _ _ (by rw[B];omega)).trans ?_⟩,(I _ _ (by rw[B];omega)).trans ?_,(I _ _ (by rw[B];omega)).trans ?_,(J _ _ (by rw[B];omega)).trans ?_,(J _ _ (by rw[B];omega)).trans ?_⟩
  all_goals rw[<-E];simp[go_sem]
 have D:Hid (w1.heap.size=w.heap.size+1+1):=E;clear Z An hh Aa
 go_cut [0,2,6,7,8] (fun s0 s2 s6 s7 s8 wx=>s0=.pointer (some ⟨sb,0,none⟩)/\s2=.int .i64 ch/\s6=.pointer (some ⟨w.heap.size+1,0,none⟩)/\∃P Q,s7=.pointer (some ⟨P,0,none⟩)/\s8=.pointer (some ⟨Q,0,none⟩)/\TkB w1 wx (w.heap.size+1) P Q m)
 case first=>
  go_region_held3 (fun w'=>w'.cell? ⟨w,0,none⟩=some (.int .i64 i)/\w'.cell? ⟨w,1,none⟩=some (.int .i64 c))
   (first|with_reducible exact N.o _ j|with_reducible exact N.o _ (n _)|with_reducible exact N.o _ (q _ _)|with_reducible exact N.o _ C|with_reducible exact N.o _ (q1y C (le_of_eq D.o.symm) _)|with_reducible exact N.o _ (q1y (q1y C (le_of_eq D.o.symm) _) (le_of_eq D.o.symm) _)|with_reducible exact N.o _ (q5g C (by omega))|with_reducible exact N.o _ (q5g (q5g C (by omega)) (by omega))|with_reducible exact N.o _ (q5g (q1y C (le_of_eq D.o.symm) _) (by omega))|with_reducible exact N.o _ (q5g (q5g (q1y C (le_of_eq D.o.symm) _) (by omega)) (by omega)))
   (first|(go_at_call 222;go_fit Ac.o;rintro e w2⟨rfl,V⟩;have C:=Ai.o _ V)|(go_at_call 222;go_fit (Ad.o _);rintro e w2⟨rfl,V⟩;obtain⟨C,x0,x1,f0,f1,X⟩:=Aj.o _ _ V;have A3:=fun O=>ka x0 O;have A4:=fun O=>ka x1 O;have Ay:=fun O=>kaf (Nat.lt_of_succ_le X) f0 O;have Az:=fun O=>kaf (Nat.lt_of_succ_le X) f1 O)|(go_at_call 222;go_fit (Ae.o _ _);rintro e w2⟨rfl,V⟩;obtain⟨C,⟨x0,x1,f0,f1⟩,x2,x3,f2,f3⟩:=Ak.o _ _ _ V))
  all_goals
   go_wp2
   go_meet
   first
    | with_reducible exact⟨rfl,rfl,rfl,w2.heap.size,w2.heap.size+1,rfl,rfl,g2s (w2:=w2) (b:=w.heap.size+1) (m:=m) (T7:=216) (T8:=94) C D.o.symm⟩
    | with_reducible exact⟨rfl,rfl,rfl,w2.heap.size+1,w2.heap.size,rfl,rfl,g2t (w2:=w2) (b:=w.heap.size+1) (m:=m) (T7:=216) (T8:=94) C D.o.symm⟩
    | with_reducible exact⟨rfl,rfl,rfl,w.heap.size+1+1,w2.heap.size,rfl,rfl,g2u (w2:=w2) (b:=w.heap.size+1) (m:=m) (T8:=94) C D.o.symm x0 x1⟩
    | with_reducible exact⟨rfl,rfl,rfl,w2.heap.size,w.heap.size+1+1,rfl,rfl,g2v (w2:=w2) (b:=w.heap.size+1) (m:=m) (T7:=216) C D.o.symm x0 x1⟩
    | with_reducible exact⟨rfl,rfl,rfl,w.heap.size+1+1,w.heap.size+1+1+1,rfl,rfl,g3e (w2:=w2) (b:=w.heap.size+1) (m:=m) (a:=w.heap.size+1+1) (d:=w.heap.size+1+1+1) C (by omega) (by omega) (by omega) x0 x1 x2 x3⟩
    | with_reducible exact⟨rfl,rfl,rfl,w.heap.size+1+1+1,w.heap.size+1+1,rfl,rfl,g3e (w2:=w2) (b:=w.heap.size+1) (m:=m) (a:=w.heap.size+1+1+1) (d:=w.heap.size+1+1) C (by omega) (by omega) (by omega) x2 x3 x0 x1⟩
 case rest=>
  obtain⟨rfl,rfl,rfl,P,Q,rfl,rfl,hT⟩:=hcut;have G:Hid (TkF w wc P Q m):=y9r HK.o hT;have Ar:Hid (Inv sb g mb wd R wc.drew S):=HK.o.inv.kept3 (hT.bw.block _ (by omega)) (hT.bw.block _ (by omega)) (hT.bw.block _ (by omega));have Ab:Hid (q0n w mb w wc.drew):=(q0n.of (HK.o.bw.trans (hT.bw.mono (by omega)))).drew;have o0:wc.drew.cell? ⟨Q,0,none⟩=some (.int .i64 m.o):=G.o.o0;have o1:wc.drew.cell? ⟨Q,1,none⟩=some (.int .i64 m.l):=G.o.o1;have p0:wc.drew.cell? ⟨P,0,none⟩=some (.int .i64 m.np):=G.o.p0;have p1:wc.drew.cell? ⟨P,1,none⟩=some (.int .i64 m.nc):=G.o.p1;have Af:Hid (P≠w.heap.size+1):=(show P≠w.heap.size+1 by have:=G.o.n7;omega);have Ag:Hid (Q≠w.heap.size+1):=(show Q≠w.heap.size+1 by have:=G.o.n8;omega)
  have As:Hid (Cp 126 #[.pointer (some ⟨sb,0,none⟩),.agg #[.int .i64 m.np,.int .i64 m.nc]] wc.drew fun e w'=>e=.returned (.agg #[.int .i64 k.o,.int .i64 k.l,.int .i64 k.ch,.int .i64 k.np,.int .i64 k.nc])/\TkF w w' P Q m/\q0n w mb w w'/\∃r,Inv sb g mb wd R w' r/\(∀a b,S a b=true->r a b=true)/\(∀a b,r a b=true->S a b=true\/i+1<=a)/\(m.np<R.length->r m.np m.nc=true)):=by
   refine(Ah.o wc.drew S Ar.o).mono ?_;rintro e w6⟨rfl,K,r,hI,z,y,x⟩;have A2:=HM.o.lo;refine⟨rfl,G.o.kept (mb:=mb) ⟨K.os,K.tape,K.output,K.size,K.block⟩ Aq.2.2,Ab.o.trans (K.mono Ab.o.size),r,hI,z,fun a b hab=>?_,x⟩;rcases y a b hab with h|h
   ·exact .inl h
   ·exact .inr (by omega)
  have At:Hid (∀W,Cb 223 #[.agg #[.int .i64 m.o,.int .i64 m.l],.agg #[.int .i64 k.o,.int .i64 k.l]] W (.agg #[.int .i64 ((m.o+k.o:Nat):Int),.int .i64 ((m.l+k.l:Nat):Int)])):=fun W=>v4u m.o m.l k.o k.l (by omega) (by omega) Ax Aw W
  clear hT Ah Ac Ad Ae Ai Aj Ak N f j n q a0 a1 E;have A0:=j6r;go_wp2_with fail
  go_region_held3 (fun w'=>w'.cell? ⟨Q,0,none⟩=some (.int .i64 m.o)/\w'.cell? ⟨Q,1,none⟩=some (.int .i64 m.l)/\w'.cell? ⟨P,0,none⟩=some (.int .i64 m.np)/\w'.cell? ⟨P,1,none⟩=some (.int .i64 m.nc))
   (first|with_reducible exact⟨o0,o1,p0,p1⟩|with_reducible exact⟨U.o0,U.o1,U.p0,U.p1⟩|with_reducible exact⟨A.o0,A.o1,A.p0,A.p1⟩|with_reducible exact⟨k7z Ag.o A.o0,k7z Ag.o A.o1,k7z Af.o A.p0,k7z Af.o A.p1⟩)
   (first|(go_at_call 126;refine As.o.mono ?_;rintro e w6⟨rfl,U,Av⟩)|(go_at_call 223;refine(At.o _).mono ?_;rintro e w7⟨rfl,u⟩;have A:=U.kept (q0n.of u) Aq.2.2;have r0:=A.r0;have r1:=A.r1;have r2:=A.r2;have r3:=A.r3;have r4:=A.r4;have y0:w7.frozen? ⟨w.heap.size+1,0,none⟩=false:=A.fr.frozen;have y1:w7.frozen? ⟨w.heap.size+1,1,none⟩=false:=A.fr.frozen;have y2:w7.frozen? ⟨w.heap.size+1,2,none⟩=false:=A.fr.frozen;have y3:w7.frozen? ⟨w.heap.size+1,3,none⟩=false:=A.fr.frozen;have y4:w7.frozen? ⟨w.heap.size+1,4,none⟩=false:=A.fr.frozen))
  all_goals
   obtain⟨s,r,Au,z,y,x⟩:=Av;go_wp2;exact bodyPost_ret (v:=.agg #[.int .i64 ((m.o:Int)+k.o),.int .i64 ((m.l:Int)+k.l),.int .i64 ch,.int .i64 m.np,.int .i64 m.nc]) (by simp[results,Tryz.results194,go_sem,r0,r1,r2,r3,r4]) rfl ⟨rfl,k5g (s.trans (q0n.of (u.mono s.size))) (by omega) _ _ _ _ _,r,(Au.W u).set5 (by omega) (by omega) (by omega) _ _ _ _ _,z,y,x⟩
def Ln(B b:Nat)(l:List UInt8)(k:Bool)(w:World):Prop:=IsX 328 B b (Lib.byteCells l) [.bool k] w
theorem y0p:z2a 328 3:=by unfold z2a;kernel_rfl
theorem Ln.cell{B b:Nat}{l:List UInt8}{k:Bool}{w:World}(h:Ln B b l k w):w.cell? ⟨b,2,none⟩=some (.bool k):=IsX.cellR h 0
theorem Ln.frozen{B b:Nat}{l:List UInt8}{k:Bool}{w:World}(h:Ln B b l k w):w.frozen? ⟨b,2,none⟩=false:=IsX.frozen h 2
theorem Ln.stored{B b:Nat}{l:List UInt8}{k:Bool}{w:World}(h:Ln B b l k w)(k':Bool):Ln B b l k' (w.setCell ⟨b,2,none⟩ (.bool k')):=IsX.stored h 0 (.bool k')
theorem g2f{B b:Nat}{l:List UInt8}{k:Bool}{w:World}(h:Ln B b l k w)(hB:B<=w.heap.size)(c:UInt8)(z:Int)(hz:z=(c.toNat:Int))(hl:l.length<=1000000):
  Calls prog 96 #[.pointer b,.int .u8 z] w fun e w'=>e=.returned .nilIface/\Ln B b (l++[c]) k w'/\q0n B b w w'/\Lib.OthersKept 5 (some b) w w':=by
 subst hz;refine(k4s 328 B b _ [.bool k] _ w y0p (by decide) h (by rw[Lib.byteCells_length];omega) hB).mono ?_;rintro e w'⟨rfl,A,C,D⟩;refine⟨rfl,?_,C,D⟩;rw[Ln,Lib.byteCells_append];exact A
theorem g3j{B b:Nat}{l:List UInt8}{k:Bool}{w:World}(h:Ln B b l k w)(hB:B<=w.heap.size)(s:ByteArray)(hl:l.length+s.size<=2000000):
  Calls prog 33 #[.pointer (some ⟨b,0,none⟩),.string s] w fun e w'=>(∃z,e=.returned (.tuple #[.int .i64 z,.nilIface]))/\Ln B b (l++s.data.toList) k w'/\q0n B b w w'/\Lib.OthersKept 5 (some b) w w':=by
 refine(z0h 328 B b _ [.bool k] s w y0p (by decide) h (by rw[Lib.byteCells_length];omega) hB).mono ?_;rintro e w'⟨rfl,A,C,D⟩;refine⟨⟨_,rfl⟩,?_,C,D⟩;rw[Ln,Lib.byteCells_append];exact A
def y6w(B b s:Nat)(r:List Nd)(l:List UInt8)(k:Bool)(w:World)(e:Ending)(w':World):Prop:=
 (∃a' cap',e=.returned (.slice a' r.length cap')/\q1j s w' a' r/\r.length<=cap')/\Ln B b l k w'/\q0n B b w w'/\Lib.OthersKept 5 (some b) w w'
def k1e(A:List Nd)(tA:List UInt8)(kA:Bool):Prop:=∀(B b s:Nat)(ds r:List Nd)(a:Option Addr)(cap:Nat)(l:List UInt8)(k:Bool)(w:World),ds=A++r->q1j s w a ds->s<B->s≠b->ds.length<=cap->Ln B b l k w->B<=w.heap.size->l.length+20*ds.length<=1000000->
  Calls prog 242 #[.pointer (some ⟨b,0,none⟩),.slice a ds.length cap] w (y6w B b s r (l++tA) (k||kA) w)
def k5c(B b s:Nat)(n0:Nat)(x:Nd)(r:List Nd)(l:List UInt8)(k:Bool)(w:World)(t p q:Value)(wx:World):Prop:=
 t=.pointer (some ⟨b,0,none⟩)/\p=.pointer (some ⟨n0,0,none⟩)/\(∃a' cap',q=.slice a' r.length cap'/\q1j s wx a' r/\r.length<=cap')/\wx.cell? ⟨n0,0,none⟩=some (.int .i64 x.op)/\wx.cell? ⟨n0,1,none⟩=some (.string x.tx)/\wx.cell? ⟨n0,2,none⟩=some (.int .i64 x.n)/\Ln B b l k wx/\q0n B b w wx/\Lib.OthersKept 5 (some b) w wx
theorem q0n.weak{B B' b x:Nat}{w w':World}(h:q0n B' x w w')(hB:B<=B')(hx:B<=x):q0n B b w w':=⟨h.os,h.tape,h.output,h.size,fun k hk _=>h.block k (by omega) (by omega)⟩
theorem v6f{e:TypeId}{b x:Nat}{w w3 w4:World}(h:Lib.OthersKept e (some b) w w3)(h':Lib.OthersKept e (some x) w3 w4)(hx:w.heap.size<=x):Lib.OthersKept e (some b) w w4:=by
 intro k o A C B;have D:k<w.heap.size:=(Array.getElem?_eq_some_iff.1 A).1;exact h' k o (h k o A C B) (fun e=>by cases e;omega) B
theorem y4h(tx:ByteArray)(n:Int)(ht:tx.size<=20):k1e (⟨1,tx,n⟩::[]) (tx.data.toList) (false):=by
 intro B b s y I a P l k w hd R X Y d hW D hl;generalize W:[]++I=r;have i:Hid ([]++I=r):=W;have j:Hid (r.length=([]:List Nd).length+I.length):=(show _=_ by rw[<-W,length_append]);obtain rfl:y=⟨1,tx,n⟩::r:=by rw[hd,<-W];rfl
 obtain⟨f,ea,u,v,x⟩:=R 0 (by simp);subst ea;simp only[length_cons]at d hl⊢;have M:Hid (q1j s w (some ⟨s,f+3,none⟩) r):=R.rest
 have C:Hid (P=1->q1j s w (some ⟨s,f,none⟩) r):=fun h=>by
  have c:=R.slid d;rw[if_pos h]at c;exact c
 have m:Hid (Ln B b l k w):=hW;simp only[zero_mul,add_zero,getElem_cons_zero]at u v x;have Aa:s<w.heap.size:=by omega
 have Ab:(1:Int)<=(r.length:Int)+1:=by omega
 have H:Hid (∀O:Obj,q0n B b w (w.alloc O).drew):=fun O=>q0n.drew ((q0n.refl B b w).alloc D O)
 have g:Hid (∀O:Obj,Lib.OthersKept 5 (some b) w (w.alloc O).drew):=fun O=>((Lib.OthersKept.refl _ _ w).alloc O).drew
 have A:Hid (s<B/\s≠b):=⟨X,Y⟩;go_in
 go_upto_region 1 with fail
 go_cut [0,1,5,6] (fun t _ p q wx=>k5c B b s w.heap.size ⟨1,tx,n⟩ r l k w t p q wx)
 case first=>
  go_region
  all_goals (go_wp2_with fail)
  all_goals
   go_meet
   refine⟨rfl,rfl,⟨_,_,rfl,?_,by omega⟩,by simp[go_sem],by simp[go_sem],by simp[go_sem],IsX.drew (IsX.alloc m.o _),H.o _,g.o _⟩
   first
    | exact M.o.kept ((H.o _).block s A.o.1 A.o.2)
    | exact(C.o (by assumption)).kept ((H.o _).block s A.o.1 A.o.2)
    | exact(C.o rfl).kept ((H.o _).block s A.o.1 A.o.2)
 case rest=>
  obtain⟨rfl,rfl,⟨o,Z,rfl,hn,S⟩,e1,e2,e3,hw,G,V⟩:=hcut;dsimp only at e1 e2 e3;have L:Hid (q1j s wc o r):=hn;have N:Hid (Ln B b l k wc):=hw;have J:Hid (q0n B b w wc):=G;have K:Hid (Lib.OthersKept 5 (some b) w wc):=V;have Q:B<=wc.heap.size:=le_trans D G.size;go_wp2_with fail
  go_region_with (go_at_call 33;refine(g3j (w:=wc.drew) N.o Q tx (by omega)).mono ?_;rintro e w2⟨⟨z,rfl⟩,h2,E,U⟩)
  all_goals
   go_wp2;go_ret;obtain rfl:I=r:=i.o;rw[Bool.or_false];exact⟨⟨_,_,rfl,q1j.kept (w:=wc.drew) L.o (E.block s A.o.1 A.o.2),S⟩,h2,J.o.drew.trans E,K.o.drew.trans U⟩
theorem y4i(tx:ByteArray)(n:Int):k1e (⟨2,tx,n⟩::[]) ([32]) (false):=by
 intro B b s y I a P l k w hd R X Y d hW D hl;generalize W:[]++I=r;have i:Hid ([]++I=r):=W;have j:Hid (r.length=([]:List Nd).length+I.length):=(show _=_ by rw[<-W,length_append]);obtain rfl:y=⟨2,tx,n⟩::r:=by rw[hd,<-W];rfl
 obtain⟨f,ea,u,v,x⟩:=R 0 (by simp);subst ea;simp only[length_cons]at d hl⊢;have M:Hid (q1j s w (some ⟨s,f+3,none⟩) r):=R.rest
 have C:Hid (P=1->q1j s w (some ⟨s,f,none⟩) r):=fun h=>by
  have c:=R.slid d;rw[if_pos h]at c;exact c
 have m:Hid (Ln B b l k w):=hW;simp only[zero_mul,add_zero,getElem_cons_zero]at u v x;have Aa:s<w.heap.size:=by omega
 have Ab:(1:Int)<=(r.length:Int)+1:=by omega
 have H:Hid (∀O:Obj,q0n B b w (w.alloc O).drew):=fun O=>q0n.drew ((q0n.refl B b w).alloc D O)
 have g:Hid (∀O:Obj,Lib.OthersKept 5 (some b) w (w.alloc O).drew):=fun O=>((Lib.OthersKept.refl _ _ w).alloc O).drew
 have A:Hid (s<B/\s≠b):=⟨X,Y⟩;go_in
 go_upto_region 1 with fail
 go_cut [0,1,5,6] (fun t _ p q wx=>k5c B b s w.heap.size ⟨2,tx,n⟩ r l k w t p q wx)
 case first=>
  go_region
  all_goals (go_wp2_with fail)
  all_goals
   go_meet
   refine⟨rfl,rfl,⟨_,_,rfl,?_,by omega⟩,by simp[go_sem],by simp[go_sem],by simp[go_sem],IsX.drew (IsX.alloc m.o _),H.o _,g.o _⟩
   first
    | exact M.o.kept ((H.o _).block s A.o.1 A.o.2)
    | exact(C.o (by assumption)).kept ((H.o _).block s A.o.1 A.o.2)
    | exact(C.o rfl).kept ((H.o _).block s A.o.1 A.o.2)
 case rest=>
  obtain⟨rfl,rfl,⟨o,Z,rfl,hn,S⟩,z,e2,e3,hw,G,V⟩:=hcut;dsimp only at z e2 e3;have L:Hid (q1j s wc o r):=hn;have N:Hid (Ln B b l k wc):=hw;have J:Hid (q0n B b w wc):=G;have K:Hid (Lib.OthersKept 5 (some b) w wc):=V;have Q:B<=wc.heap.size:=le_trans D G.size;go_wp2_with fail;refine(g2f N.o Q 32 32 rfl (by omega)).mono ?_;rintro e w2⟨rfl,h2,E,U⟩;go_wp2;go_ret;obtain rfl:I=r:=i.o;rw[Bool.or_false];exact⟨⟨_,_,rfl,L.o.kept (E.block s A.o.1 A.o.2),S⟩,h2,J.o.trans E,K.o.trans U⟩
theorem k9a(k:Nat){o:Int}(hk:k=0/\o=3\/k=1/\o=5)(tx:ByteArray)(n:Int):k1e (⟨o,tx,n⟩::[]) ([]) (false):=by
 have c:Tag k:=.mk;rcases hk with⟨rfl,rfl⟩|⟨rfl,rfl⟩
 all_goals
  intro B b s v H a N l k w hd P U V Y hW D hl;generalize S:[]++H=r;have e:Hid ([]++H=r):=S;have f:Hid (r.length=([]:List Nd).length+H.length):=(show _=_ by rw[<-S,length_append]);obtain rfl:v=⟨↑(sel c (3:Int) 5),tx,n⟩::r:=by rw[hd,<-S];rfl
  obtain⟨Z,ea,j,m,u⟩:=P 0 (by simp);subst ea;simp only[length_cons]at Y hl⊢;have L:Hid (q1j s w (some ⟨s,Z+3,none⟩) r):=P.rest
  have C:Hid (N=1->q1j s w (some ⟨s,Z,none⟩) r):=fun h=>by
   have X:=P.slid Y;rw[if_pos h]at X;exact X
  have g:Hid (Ln B b l k w):=hW;simp only[zero_mul,add_zero,getElem_cons_zero]at j m u;have Ab:s<w.heap.size:=by omega
  have Ac:(1:Int)<=(r.length:Int)+1:=by omega
  have G:Hid (∀O:Obj,q0n B b w (w.alloc O).drew):=fun O=>q0n.drew ((q0n.refl B b w).alloc D O)
  have d:Hid (∀O:Obj,Lib.OthersKept 5 (some b) w (w.alloc O).drew):=fun O=>((Lib.OthersKept.refl _ _ w).alloc O).drew
  have A:Hid (s<B/\s≠b):=⟨U,V⟩;go_in
  go_upto_region 1 with fail
  go_cut [0,1,5,6] (fun t _ p q wx=>k5c B b s w.heap.size ⟨↑(sel c (3:Int) 5),tx,n⟩ r l k w t p q wx)
  case first=>
   go_region
   all_goals (go_wp2_with fail)
   all_goals
    go_meet
    refine⟨rfl,rfl,⟨_,_,rfl,?_,by omega⟩,by simp[go_sem],by simp[go_sem],by simp[go_sem],IsX.drew (IsX.alloc g.o _),G.o _,d.o _⟩
    first
     | exact L.o.kept ((G.o _).block s A.o.1 A.o.2)
     | exact(C.o (by assumption)).kept ((G.o _).block s A.o.1 A.o.2)
     | exact(C.o rfl).kept ((G.o _).block s A.o.1 A.o.2)
  case rest=>
   obtain⟨rfl,rfl,⟨i,W,rfl,hn,Q⟩,x,y,z,hw,E,R⟩:=hcut;dsimp only at x y z;have K:Hid (q1j s wc i r):=hn;have M:Hid (Ln B b l k wc):=hw;have I:Hid (q0n B b w wc):=E;have J:Hid (Lib.OthersKept 5 (some b) w wc):=R;have Aa:B<=wc.heap.size:=le_trans D E.size;go_wp2;go_ret;obtain rfl:H=r:=e.o;rw[Bool.or_false,List.append_nil];exact⟨⟨_,_,rfl,K.o,Q⟩,M.o,I.o,J.o⟩
theorem y4j(tx:ByteArray)(n:Int):k1e (⟨4,tx,n⟩::[]) ([]) (true):=by
 intro B b s o I a N l k w hd P U V Y hW E hl;generalize S:[]++I=r;have d:Hid ([]++I=r):=S;have e:Hid (r.length=([]:List Nd).length+I.length):=(show _=_ by rw[<-S,length_append]);obtain rfl:o=⟨4,tx,n⟩::r:=by rw[hd,<-S];rfl
 obtain⟨Z,y,i,j,m⟩:=P 0 (by simp);subst y;simp only[length_cons]at Y hl⊢;have M:Hid (q1j s w (some ⟨s,Z+3,none⟩) r):=P.rest
 have D:Hid (N=1->q1j s w (some ⟨s,Z,none⟩) r):=fun h=>by
  have X:=P.slid Y;rw[if_pos h]at X;exact X
 have f:Hid (Ln B b l k w):=hW;simp only[zero_mul,add_zero,getElem_cons_zero]at i j m;have Aa:s<w.heap.size:=by omega
 have Ab:(1:Int)<=(r.length:Int)+1:=by omega
 have H:Hid (∀O:Obj,q0n B b w (w.alloc O).drew):=fun O=>q0n.drew ((q0n.refl B b w).alloc E O)
 have c:Hid (∀O:Obj,Lib.OthersKept 5 (some b) w (w.alloc O).drew):=fun O=>((Lib.OthersKept.refl _ _ w).alloc O).drew
 have A:Hid (s<B/\s≠b):=⟨U,V⟩;go_in
 go_upto_region 1 with fail
 go_cut [0,1,5,6] (fun t _ p q wx=>k5c B b s w.heap.size ⟨4,tx,n⟩ r l k w t p q wx)
 case first=>
  go_region
  all_goals (go_wp2_with fail)
  all_goals
   go_meet
   refine⟨rfl,rfl,⟨_,_,rfl,?_,by omega⟩,by simp[go_sem],by simp[go_sem],by simp[go_sem],IsX.drew (IsX.alloc f.o _),H.o _,c.o _⟩
   first
    | exact M.o.kept ((H.o _).block s A.o.1 A.o.2)
    | exact(D.o (by assumption)).kept ((H.o _).block s A.o.1 A.o.2)
    | exact(D.o rfl).kept ((H.o _).block s A.o.1 A.o.2)
 case rest=>
  obtain⟨rfl,rfl,⟨g,W,rfl,hn,Q⟩,u,v,x,hw,G,R⟩:=hcut;dsimp only at u v x;have L:Hid (q1j s wc g r):=hn;have C:Hid (Ln B b l k wc):=hw;have J:Hid (q0n B b w wc):=G;have K:Hid (Lib.OthersKept 5 (some b) w wc):=R;have z:B<=wc.heap.size:=le_trans E G.size;have g1:=C.o.cell;have g2:=C.o.frozen;go_wp2;go_ret;obtain rfl:I=r:=d.o;rw[Bool.or_true,List.append_nil];refine⟨⟨_,_,rfl,L.o.kept (Below.heap_setCell _ _ _ _ A.o.2),Q⟩,C.o.stored true,J.o.setCell (.inl rfl) _,K.o.setCell _ rfl _⟩
theorem y4k(tx:ByteArray)(n:Int)(A C:List Nd)(tA tC:List UInt8)(kA kC:Bool)(hA:k1e A tA kA)(hC:k1e C tC kC)(Ae:tA.length<=20*A.length):k1e (⟨6,tx,n⟩::(A++C)) (tA++tC) (kA||kC):=by
 intro B b s ds E a c l k w hd d x y hc hW I hl;generalize v:(A++C)++E=r;have W:Hid ((A++C)++E=r):=v;have Y:Hid (r.length=((A++C):List Nd).length+E.length):=(show _=_ by rw[<-v,length_append]);obtain rfl:ds=⟨6,tx,n⟩::r:=by rw[hd,<-v];rfl
 obtain⟨o0,ea,c1,c2,c3⟩:=d 0 (by simp);subst ea;simp only[length_cons]at hc hl⊢;have V:Hid (q1j s w (some ⟨s,o0+3,none⟩) r):=d.rest
 have G:Hid (c=1->q1j s w (some ⟨s,o0,none⟩) r):=fun h=>by
  have h1:=d.slid hc;rw[if_pos h]at h1;exact h1
 have HW:Hid (Ln B b l k w):=hW;simp only[zero_mul,add_zero,getElem_cons_zero]at c1 c2 c3;have Ac:s<w.heap.size:=by omega
 have Ad:(1:Int)<=(r.length:Int)+1:=by omega
 have N:Hid (∀O:Obj,q0n B b w (w.alloc O).drew):=fun O=>q0n.drew ((q0n.refl B b w).alloc I O)
 have HK:Hid (∀O:Obj,Lib.OthersKept 5 (some b) w (w.alloc O).drew):=fun O=>((Lib.OthersKept.refl _ _ w).alloc O).drew
 have D:Hid (s<B/\s≠b):=⟨x,y⟩;go_in
 go_upto_region 1 with fail
 go_cut [0,1,5,6] (fun t _ p q wx=>k5c B b s w.heap.size ⟨6,tx,n⟩ r l k w t p q wx)
 case first=>
  go_region
  all_goals (go_wp2_with fail)
  all_goals
   go_meet
   refine⟨rfl,rfl,⟨_,_,rfl,?_,by omega⟩,by simp[go_sem],by simp[go_sem],by simp[go_sem],IsX.drew (IsX.alloc HW.o _),N.o _,HK.o _⟩
   first
    | exact V.o.kept ((N.o _).block s D.o.1 D.o.2)
    | exact(G.o (by assumption)).kept ((N.o _).block s D.o.1 D.o.2)
    | exact(G.o rfl).kept ((N.o _).block s D.o.1 D.o.2)
 case rest=>
  obtain⟨rfl,rfl,⟨a',z,rfl,hn,g⟩,e1,e2,e3,hw,L,u⟩:=hcut;dsimp only at e1 e2 e3;have U:Hid (q1j s wc a' r):=hn;have Z:Hid (Ln B b l k wc):=hw;have Q:Hid (q0n B b w wc):=L;have R:Hid (Lib.OthersKept 5 (some b) w wc):=u;have H:B<=wc.heap.size:=le_trans I L.size;rw[List.append_assoc]at W;generalize M:C++E=rc at W;have X:Hid (C++E=rc):=M;have S:Hid (rc.length=C.length+E.length):=(show _=_ by rw[<-M,length_append]);have P:Hid ((A++C).length=A.length+C.length):=(show _=_ from length_append);have HA:Hid (k1e A tA kA):=hA;have HC:Hid (k1e C tC kC):=hC;go_wp2_with fail;refine(HA.o B b s r rc _ _ l k _ W.o.symm U.o D.o.1 D.o.2 g Z.o H (by omega)).mono ?_;rintro e w3⟨⟨a3,Aa,rfl,n3,i⟩,h3,K,m⟩;have J:B<=w3.heap.size:=le_trans H K.size;go_wp2_with fail;refine(HC.o B b s rc E _ _ _ _ _ X.o.symm n3 D.o.1 D.o.2 i h3 J (by have q1:=Y.o;have q2:=S.o;have q3:=P.o;simp;omega)).mono ?_;rintro e w4⟨⟨a4,Ab,rfl,n4,j⟩,h4,f,o⟩;go_wp2;go_ret;rw[<-Bool.or_assoc,<-List.append_assoc];exact⟨⟨_,_,rfl,n4,j⟩,h4,Q.o.trans (K.trans f),R.o.trans (m.trans o)⟩
theorem k9b(k:Nat){o:Int}(hk:k=0/\o=7\/k=1/\o=8)(tx:ByteArray)(n:Int)(A:List Nd)(tA:List UInt8)(kA:Bool)(hA:k1e A tA kA):k1e (⟨o,tx,n⟩::A) (tA) (kA):=by
 have m:Tag k:=.mk;rcases hk with⟨rfl,rfl⟩|⟨rfl,rfl⟩
 all_goals
  intro B b s ds I a P l k w hd R Z c i hW E hl;generalize Y:A++I=r;have x:Hid (A++I=r):=Y;have y:Hid (r.length=(A:List Nd).length+I.length):=(show _=_ by rw[<-Y,length_append]);obtain rfl:ds=⟨↑(sel m (7:Int) 8),tx,n⟩::r:=by rw[hd,<-Y];rfl
  obtain⟨j,ea,c1,c2,c3⟩:=R 0 (by simp);subst ea;simp only[length_cons]at i hl⊢;have M:Hid (q1j s w (some ⟨s,j+3,none⟩) r):=R.rest
  have D:Hid (P=1->q1j s w (some ⟨s,j,none⟩) r):=fun h=>by
   have g:=R.slid i;rw[if_pos h]at g;exact g
  have z:Hid (Ln B b l k w):=hW;simp only[zero_mul,add_zero,getElem_cons_zero]at c1 c2 c3;have Aa:s<w.heap.size:=by omega
  have Ab:(1:Int)<=(r.length:Int)+1:=by omega
  have H:Hid (∀O:Obj,q0n B b w (w.alloc O).drew):=fun O=>q0n.drew ((q0n.refl B b w).alloc E O)
  have v:Hid (∀O:Obj,Lib.OthersKept 5 (some b) w (w.alloc O).drew):=fun O=>((Lib.OthersKept.refl _ _ w).alloc O).drew
  have C:Hid (s<B/\s≠b):=⟨Z,c⟩;go_in
  go_upto_region 1 with fail
  go_cut [0,1,5,6] (fun t _ p q wx=>k5c B b s w.heap.size ⟨↑(sel m (7:Int) 8),tx,n⟩ r l k w t p q wx)
  case first=>
   go_region
   all_goals (go_wp2_with fail)
   all_goals
    go_meet
    refine⟨rfl,rfl,⟨_,_,rfl,?_,by omega⟩,by simp[go_sem],by simp[go_sem],by simp[go_sem],IsX.drew (IsX.alloc z.o _),H.o _,v.o _⟩
    first
     | exact M.o.kept ((H.o _).block s C.o.1 C.o.2)
     | exact(D.o (by assumption)).kept ((H.o _).block s C.o.1 C.o.2)
     | exact(D.o rfl).kept ((H.o _).block s C.o.1 C.o.2)
  case rest=>
   obtain⟨rfl,rfl,⟨a',d,rfl,hn,U⟩,e1,e2,e3,hw,G,X⟩:=hcut;dsimp only at e1 e2 e3;have L:Hid (q1j s wc a' r):=hn;have N:Hid (Ln B b l k wc):=hw;have J:Hid (q0n B b w wc):=G;have K:Hid (Lib.OthersKept 5 (some b) w wc):=X;have Q:B<=wc.heap.size:=le_trans E G.size;have u:Hid (k1e A tA kA):=hA;go_wp2_with fail;refine(u.o B b s r I _ _ l k _ x.o.symm L.o C.o.1 C.o.2 U N.o Q (by omega)).mono ?_;rintro e w3⟨⟨a3,f,rfl,n3,V⟩,h3,S,W⟩;go_wp2;go_ret;exact⟨⟨_,_,rfl,n3,V⟩,h3,J.o.trans S,K.o.trans W⟩
theorem y4l(tx:ByteArray)(n:Int)(A C:List Nd)(tA tC:List UInt8)(kA kC:Bool)(hA:k1e A tA kA)(hC:k1e C tC kC):k1e (⟨9,tx,n⟩::(A++C)) (tA) (kA):=by
 intro B b s ds E a f l k w hd g x y hc hW K hl;generalize v:(A++C)++E=r;have Y:Hid ((A++C)++E=r):=v;have d:Hid (r.length=((A++C):List Nd).length+E.length):=(show _=_ by rw[<-v,length_append]);obtain rfl:ds=⟨9,tx,n⟩::r:=by rw[hd,<-v];rfl
 obtain⟨o0,ea,c1,c2,c3⟩:=g 0 (by simp);subst ea;simp only[length_cons]at hc hl⊢;have X:Hid (q1j s w (some ⟨s,o0+3,none⟩) r):=g.rest
 have H:Hid (f=1->q1j s w (some ⟨s,o0,none⟩) r):=fun h=>by
  have h1:=g.slid hc;rw[if_pos h]at h1;exact h1
 have HW:Hid (Ln B b l k w):=hW;simp only[zero_mul,add_zero,getElem_cons_zero]at c1 c2 c3;have Ae:s<w.heap.size:=by omega
 have Ag:(1:Int)<=(r.length:Int)+1:=by omega
 have R:Hid (∀O:Obj,q0n B b w (w.alloc O).drew):=fun O=>q0n.drew ((q0n.refl B b w).alloc K O)
 have HK:Hid (∀O:Obj,Lib.OthersKept 5 (some b) w (w.alloc O).drew):=fun O=>((Lib.OthersKept.refl _ _ w).alloc O).drew
 have D:Hid (s<B/\s≠b):=⟨x,y⟩;go_in
 go_upto_region 1 with fail
 go_cut [0,1,5,6] (fun t _ p q wx=>k5c B b s w.heap.size ⟨9,tx,n⟩ r l k w t p q wx)
 case first=>
  go_region
  all_goals (go_wp2_with fail)
  all_goals
   go_meet
   refine⟨rfl,rfl,⟨_,_,rfl,?_,by omega⟩,by simp[go_sem],by simp[go_sem],by simp[go_sem],IsX.drew (IsX.alloc HW.o _),R.o _,HK.o _⟩
   first
    | exact X.o.kept ((R.o _).block s D.o.1 D.o.2)
    | exact(H.o (by assumption)).kept ((R.o _).block s D.o.1 D.o.2)
    | exact(H.o rfl).kept ((R.o _).block s D.o.1 D.o.2)
 case rest=>
  obtain⟨rfl,rfl,⟨a',Aa,rfl,hn,i⟩,e1,e2,e3,hw,N,u⟩:=hcut;dsimp only at e1 e2 e3;have W:Hid (q1j s wc a' r):=hn;have I:Hid (Ln B b l k wc):=hw;have G:Hid (q0n B b w wc):=N;have U:Hid (Lib.OthersKept 5 (some b) w wc):=u;have J:B<=wc.heap.size:=le_trans K N.size;rw[List.append_assoc]at Y;generalize Q:C++E=rc at Y;have Z:Hid (C++E=rc):=Q;have V:Hid (rc.length=C.length+E.length):=(show _=_ by rw[<-Q,length_append]);have S:Hid ((A++C).length=A.length+C.length):=(show _=_ from length_append);have HA:Hid (k1e A tA kA):=hA;have HC:Hid (k1e C tC kC):=hC;go_wp2_with fail;refine(HA.o B b s r rc _ _ l k _ Y.o.symm (W.o.kept (Below.heap_alloc _ _ _ (by have:=D.o;omega))) D.o.1 D.o.2 i (IsX.alloc I.o _) (by simp;omega) (by omega)).mono ?_;rintro e w3⟨⟨a3,Ab,rfl,n3,j⟩,h3,L,P⟩;have Af:b<wc.heap.size:=IsX.lt I.o;have hx:=P wc.heap.size _ (heap_alloc_new wc _) (by simp;omega) (by intro c fz h;cases h);have z:=L.size;have Ad:wc.heap.size+1<=w3.heap.size:=by simpa using z
  have HX:Hid (w3.heap[wc.heap.size]?=_):=hx;go_wp2_with fail;refine(HC.o w3.heap.size wc.heap.size s rc E _ _ [] false _ Z.o.symm n3 (by have:=D.o;omega) (by have:=D.o;omega) j (IsX.unused _ _ _ _ _ HX.o) Zl (by have q1:=d.o;have q2:=V.o;have q3:=S.o;simp;omega)).mono ?_;rintro e w4⟨⟨a4,Ac,rfl,n4,m⟩,h4,M,o⟩;go_wp2;go_ret;refine⟨⟨_,_,rfl,n4,m⟩,IsX.far h3 M (by omega) HX.o (by decide),(G.o.trans (((q0n.refl _ _ _).alloc J _).trans L)).trans (M.weak (by omega) J),?_⟩;exact v6f (U.o.trans (((Lib.OthersKept.refl _ _ _).alloc _).trans P)) o G.o.size
theorem v6c{s:ByteArray}(h1:1<=s.size)(h2:s.size<=20)(h:∀k(h:k<s.size),q6g s[k]=true):isW s=true:=by
 simp only[isW,h1,h2,decide_true,Bool.true_and,List.all_eq_true];intro b A;obtain⟨i,B,rfl⟩:=List.getElem_of_mem A;exact h i (by rw[<-q1a];exact B)
theorem y3v{s:ByteArray}{k:Nat}(h:k<s.size)(hb:q6g s[k]=false):isW s=false:=by
 cases e:isW s with
 | false=>rfl
 | true=>
  simp only[isW,Bool.and_eq_true,List.all_eq_true]at e
  have:=e.2 s[k] (by
   have:k<s.data.toList.length:=by rw[q1a];exact h
   exact List.getElem_mem this)
  rw[hb]at this;cases this
theorem k7k{b:UInt8}(h:q6g b=false):(b.toNat:Int)<32\/(¬(b.toNat:Int)<32/\126<(b.toNat:Int)):=by
 simp[q6g]at h;omega
theorem j3t{b:UInt8}(h:q6g b=true):¬(b.toNat:Int)<32/\¬126<(b.toNat:Int):=by
 simp[q6g]at h;omega
theorem v1t{s:ByteArray}(h:s.size≠0):¬s.toList=[]:=by
 rw[ByteArray.toList_eq];intro e
 have:=q1a s
 rw[e]at this;exact h this.symm
theorem g3n{op:Int}(h1:¬op<1)(h2:¬9<op):op=1\/op=2\/op=3\/op=4\/op=5\/op=6\/op=7\/op=8\/op=9:=by omega
theorem j6j{ds:List Nd}(h:400<ds.length):q3f ds=3:=by rw[q3f,if_pos h]
theorem j6k{ds:List Nd}{k:Nat}(hl:ds.length<=400)(hk:k<ds.length)(ha:∀x∈ds.take k,q1e x=0)(h:q1e ds[k]≠0):q3f ds=q1e ds[k]:=by
 have e:=k2g ds k hk ha h;rw[q3f,if_neg (by omega),if_neg (by rw[e];exact h),e]
theorem v5e{ds:List Nd}(hl:ds.length<=400)(ha:∀x∈ds,q1e x=0):q3f ds=if q0v ds 0 1=some ds.length then 0 else 2:=by
 rw[q3f,if_neg (by omega),if_pos (z2j ds ha)]
theorem v8q{ds:List Nd}{k:Nat}(h:¬k<ds.length)(ha:∀x∈ds.take k,q1e x=0):∀x∈ds,q1e x=0:=by
 rw[List.take_of_length_le (by omega)]at ha;exact ha
theorem v2h{ds:List Nd}{k:Nat}(h:k<ds.length)(ha:∀x∈ds.take k,q1e x=0)(h0:q1e ds[k]=0):∀x∈ds.take (k+1),q1e x=0:=by
 intro x A;rw[List.take_succ_eq_append_getElem h]at A;rcases List.mem_append.1 A with A|A
 ·exact ha x A
 ·simp at A;subst A;exact h0
def y0d(o:Option Nat):Int:=match o with|some j=>j|none=>-1
theorem q0u{ds:List Nd}{i:Nat}{x:Nd}{r:List Nd}(h:ds.drop i=x::r):∃hi:i<ds.length,ds[i]=x/\ds.drop (i+1)=r:=by
 have hi:i<ds.length:=by
  rcases Nat.lt_or_ge i ds.length with A|A
  ·exact A
  ·rw[List.drop_eq_nil_of_le A]at h;cases h
 rw[List.drop_eq_getElem_cons hi]at h;simp only[List.cons.injEq]at h;exact⟨hi,h.1,h.2⟩
theorem q7z{ds A r:List Nd}{i:Nat}(h:ds.drop i=A++r):ds.drop (i+A.length)=r:=by
 rw[<-List.drop_drop,h,List.drop_left]
def Tr.laid:Tr->List UInt8
 | .leaf x=>if x.op=1 then x.tx.data.toList else if x.op=2 then [32]else []
 | .one _ a=>a.laid
 | .two x a b=>if x.op=6 then a.laid++b.laid else a.laid
def Tr.brk:Tr->Bool
 | .leaf x=>decide (x.op=4)
 | .one _ a=>a.brk
 | .two x a b=>if x.op=6 then a.brk||b.brk else a.brk
theorem q8d:∀t:Tr,t.flat=(if t.brk=true then none else some t.laid)
 | .leaf x=>by
  simp only[Tr.flat,Tr.brk,Tr.laid];by_cases h1:x.op=1
  ·simp[h1]
  ·by_cases h2:x.op=2
   ·simp[h2]
   ·by_cases h4:x.op=4
    ·simp[h4]
    ·simp[h1,h2,h4]
 | .one _ a=>q8d a
 | .two x a b=>by
  have h1:=q8d a;have h2:=q8d b;simp only[Tr.flat,Tr.brk,Tr.laid]
  split
  ·rw[h1,h2];cases a.brk<;>cases b.brk<;>simp
  ·exact h1
theorem z9o:∀t:Tr,t.Wf->t.laid.length<=20*t.N.length
 | .leaf x,h=>by
  obtain⟨_,_,_,_,h5,_⟩:=q2d h.1;simp only[Tr.laid,Tr.N]
  split
  ·rename_i h1
   have:=q4c (h5 h1)
   have e:=q1a x.tx;simp only[length_cons,List.length_nil];omega
  ·split<;>simp
 | .one x a,h=>by
  have:=z9o a h.2.2
  simp only[Tr.laid,Tr.N,length_cons];omega
 | .two x a b,h=>by
  have h1:=z9o a h.2.2.1;have h2:=z9o b h.2.2.2;simp only[Tr.laid,Tr.N,length_cons,length_append]
  split
  ·rw[length_append];omega
  ·omega
theorem j7u{t:Tr}(h:t.brk=false):t.isFlat=true/\t.line=⟨t.laid.toArray⟩:=by
 have:=q8d t
 rw[h]at this;constructor
 ·rw[Tr.isFlat,this];rfl
 ·rw[Tr.line,this];rfl
theorem j7v{t:Tr}(h:t.brk=true):t.isFlat=false/\t.line=⟨#[]⟩:=by
 have:=q8d t
 rw[h]at this;constructor
 ·rw[Tr.isFlat,this];rfl
 ·rw[Tr.line,this];rfl
theorem q5m:∀t:Tr,t.Wf->k1e t.N t.laid t.brk
 | .leaf ⟨op,tx,n⟩,h=>by
  obtain⟨_,_,_,_,h5,_⟩:=q2d h.1;rcases q4a h.1 h.2 with e|e|e|e|e
  all_goals (simp only at e;subst e)
  ·exact y4h tx n (q4c (h5 rfl)).2
  ·exact y4i tx n
  ·exact k9a 0 (.inl ⟨rfl,rfl⟩) tx n
  ·exact y4j tx n
  ·exact k9a 1 (.inr ⟨rfl,rfl⟩) tx n
 | .one ⟨op,tx,n⟩ a,h=>by
  rcases q8h h.2.1 with e|e
  all_goals (simp only at e;subst e)
  ·exact k9b 0 (.inl ⟨rfl,rfl⟩) tx n _ _ _ (q5m a h.2.2)
  ·exact k9b 1 (.inr ⟨rfl,rfl⟩) tx n _ _ _ (q5m a h.2.2)
 | .two ⟨op,tx,n⟩ a c,h=>by
  rcases q7t h.2.1 with e|e
  all_goals (simp only at e;subst e)
  ·exact y4k tx n _ _ _ _ _ _ (q5m a h.2.2.1) (q5m c h.2.2.2) (z9o a h.2.2.1)
  ·exact y4l tx n _ _ _ _ _ _ (q5m a h.2.2.1) (q5m c h.2.2.2)
theorem j1l(op:Int)(w:World):Cw 191 #[.int .i64 op] w (.int .i64 (pts op)):=by
 unfold Cw;by_cases A:op=6
 ·subst A;go_in;go_wp2;go_ret;exact⟨rfl,rfl⟩
 by_cases D:op=9
 ·subst D;go_in;go_wp2;go_ret;exact⟨rfl,rfl⟩
 by_cases B:op=7
 ·subst B;go_in;go_wp2;go_ret;exact⟨rfl,rfl⟩
 by_cases C:op=8
 ·subst C;go_in;go_wp2;go_ret;exact⟨rfl,rfl⟩
 have e:pts op=0:=by simp[pts,A,B,C,D]
 rw[e];have E:(op==6)=false:=by simp[A]
 have G:(op==7)=false:=by simp[B]
 have H:(op==8)=false:=by simp[C]
 have I:(op==9)=false:=by simp[D]
 go_in;go_wp2;go_ret;exact⟨rfl,rfl⟩
theorem z7e(s:ByteArray)(w:World):Cw 190 #[.string s] w (.bool (isW s)):=by
 unfold Cw;by_cases L:(s.size:Int)<1
 ·have e:isW s=false:=by simp[isW];omega
  rw[e];go_in;go_wp2;go_ret;exact⟨rfl,rfl⟩
 by_cases M:20<(s.size:Int)
 ·have e:isW s=false:=by simp[isW];omega
  rw[e];go_in;go_wp2;go_ret;exact⟨rfl,rfl⟩
 go_in;go_wp2
 go_loopw [14] (fun i wr=>wr=w/\∃k:Nat,k<=s.size/\i=.int .i64 k/\∀j(h:j<s.size),j<k->q6g s[j]=true) (fun i _=>s.size-(intOf i).toNat)
 case atStart=>exact⟨rfl,0,zero_le _,rfl,fun j _ K=>by omega⟩
 case round=>
  obtain⟨rfl,k,N,rfl,A⟩:=hrel;have H:Hid (∀j(h:j<s.size),j<k->q6g s[j]=true):=A;by_cases G:k<s.size
  ·cases C:q6g s[k]with
   | false=>
    have B:Hid (isW s=false):=y3v G C;have D:=k7k C;rcases D with D|⟨D,J⟩
    ·go_wp2;go_ret;exact⟨by rw[B.o];rfl,rfl⟩
    ·go_wp2;go_ret;exact⟨by rw[B.o];rfl,rfl⟩
   | true=>
    have I:Hid (q6g s[k]=true):=C;obtain⟨D,J⟩:=j3t C;go_wp2
    go_roundw
    case rel=>
     refine⟨by trivial,k+1,by omega,by go_num,?_⟩;intro j h K;by_cases E:j=k
     ·subst E;exact I.o
     ·exact H.o j h (by omega)
    case measure=>simp[intOf];omega
  ·have B:Hid (isW s=true):=v6c (by omega) (by omega) fun j h=>H.o j h (by omega)
   go_wp2;go_ret;exact⟨by rw[B.o];rfl,rfl⟩
theorem z0p(x:Nd)(w:World):Cb 159 #[g3l x] w (q2m (q1e x)):=by
 unfold Cb;obtain⟨D,C,n⟩:=x;by_cases H:D<1
 ·have e:q1e ⟨D,C,n⟩=1:=by simp[q1e,H]
  rw[e,z7a];go_in;go_wp2;go_ret;exact⟨rfl,Zb.alloc Zl _⟩
 by_cases I:9<D
 ·have e:q1e ⟨D,C,n⟩=1:=by simp[q1e,I]
  rw[e,z7a];go_in;go_wp2;go_ret;exact⟨rfl,Zb.alloc Zl _⟩
 rcases g3n H I with rfl|rfl|rfl|rfl|rfl|rfl|rfl|rfl|rfl
 case inl=>
  by_cases B:n=0
  ·subst B;cases K:isW C with
   | false=>
    have e:q1e ⟨1,C,0⟩=5:=by simp[q1e,K]
    rw[e,y0e];go_in;go_wp2_with(go_at_call 190;refine(z7e _ _).mono ?_;rintro e w'⟨rfl,rfl⟩);go_ret;exact⟨rfl,Zb.alloc Zl _⟩
   | true=>
    have e:q1e ⟨1,C,0⟩=0:=by simp[q1e,K]
    rw[e,q1n];go_in;go_wp2_with(go_at_call 190;refine(z7e _ _).mono ?_;rintro e w'⟨rfl,rfl⟩);go_ret;exact⟨rfl,Zb.alloc Zl _⟩
  ·have e:q1e ⟨1,C,n⟩=2:=by simp[q1e,B]
   rw[e,k2d];have E:(n != 0)=true:=by simp[B]
   go_in;go_wp2;go_ret;exact⟨rfl,Zb.alloc Zl _⟩
 case inr.inr.inr.inr.inr.inr.inl=>
  by_cases A:C.size=0
  ·obtain rfl:=k4c A;by_cases B:n<0
   ·have e:q1e ⟨7,⟨#[]⟩,n⟩=1:=by simp[q1e,B,A]
    rw[e,z7a];go_in;go_wp2;go_ret;exact⟨rfl,Zb.alloc Zl _⟩
   by_cases J:8<n
   ·have e:q1e ⟨7,⟨#[]⟩,n⟩=1:=by simp[q1e,J,A]
    rw[e,z7a];go_in;go_wp2;go_ret;exact⟨rfl,Zb.alloc Zl _⟩
   have e:q1e ⟨7,⟨#[]⟩,n⟩=0:=by simp[q1e,B,J,A]
   rw[e,q1n];go_in;go_wp2;go_ret;exact⟨rfl,Zb.alloc Zl _⟩
  ·have e:q1e ⟨7,C,n⟩=2:=by simp[q1e,A]
   rw[e,k2d];have G:=v1t A;go_in;go_wp2;go_ret;exact⟨rfl,Zb.alloc Zl _⟩
 all_goals
  by_cases A:C.size=0
  ·obtain rfl:=k4c A;by_cases B:n=0
   ·subst B;rw[show ∀k:Int,k=0->q2m k=.nilIface from fun k hk=>by rw[hk];rfl]
    ·clear A;go_in;go_wp2;go_ret;exact⟨rfl,Zb.alloc Zl _⟩
    ·simp[q1e,A]
   ·have E:(n != 0)=true:=by simp[B]
    rw[show ∀k:Int,k=2->q2m k=.iface 24 (.int .i64 2)from fun k hk=>by rw[hk];rfl]
    ·clear A B;go_in;go_wp2;go_ret;exact⟨rfl,Zb.alloc Zl _⟩
    ·simp[q1e,B]
  ·have G:=v1t A;rw[show ∀k:Int,k=2->q2m k=.iface 24 (.int .i64 2)from fun k hk=>by rw[hk];rfl]
   ·clear A;go_in;go_wp2;go_ret;exact⟨rfl,Zb.alloc Zl _⟩
   ·simp[q1e,A]
theorem z6w(ds:List Nd)(a:Option Addr)(cap i0:Nat)(w:World)(hN:q2b w a ds)(hl:ds.length<=400)(hi:i0<=ds.length):
  Calls prog 160 #[.slice a ds.length cap,.int .i64 i0] w fun e w'=>((∃j:Nat,q0v ds i0 1=some j/\e=.returned (.tuple #[.int .i64 j,.bool true]))\/(q0v ds i0 1=none/\e=.returned (.tuple #[.int .i64 ds.length,.bool false])))/\w=w':=by
 have I:Hid (q2b w a ds):=hN;clear hN;go_in;go_wp2
 go_loopw [1,6] (fun i m wr=>wr=w/\∃k q:Nat,k<=ds.length/\q<=k+1/\i=.int .i64 k/\m=.int .i64 q/\q0v ds i0 1=q0v ds k q) (fun i _ _=>ds.length-(intOf i).toNat)
 case atStart=>exact⟨rfl,i0,1,hi,by omega,rfl,rfl,rfl⟩
 case round=>
  obtain⟨rfl,k,q,P,R,rfl,rfl,H⟩:=hrel;have D:Hid (q0v ds i0 1=q0v ds k q):=H;clear H;by_cases G:q=0
  ·subst G;have A:Hid (q0v ds i0 1=some k):=D.o.trans (z6z _ _);go_wp2;go_ret2;exact⟨.inl ⟨k,A.o,rfl⟩,rfl⟩
  ·obtain⟨C,rfl⟩:∃C,q=C+1:=⟨q-1,by omega⟩;by_cases B:k<ds.length
   ·obtain⟨b,o,M,O,N,K,L⟩:=I.o k B;have J:Hid (q0v ds i0 1=q0v ds (k+1) (pts ds[k].op+C)):=D.o.trans (z6y _ _ _ B);have Q:=v1i ds[k].op;subst M;clear K L G;go_wp2_with(go_at_call 191;refine(j1l _ _).mono ?_;rintro e w'⟨rfl,rfl⟩)
    go_roundw
    case rel=>
     exact⟨by trivial,k+1,pts ds[k].op+C,by omega,by omega,by go_num,by go_num,J.o⟩
    case measure=>simp[intOf];omega
   ·have E:k=ds.length:=by omega
    subst E;have A:Hid (q0v ds i0 1=none):=D.o.trans (k2b _ _ _ (by omega));go_wp2;go_ret2;exact⟨.inr ⟨A.o,rfl⟩,rfl⟩
theorem z4r{ds:List Nd}{i0 j:Nat}(a:Option Addr)(cap:Nat)(w:World)(hN:q2b w a ds)(hl:ds.length<=400)(hi:i0<=ds.length)(h:q0v ds i0 1=some j):
  Calls prog 160 #[.slice a ds.length cap,.int .i64 i0] w fun e w'=>e=.returned (.tuple #[.int .i64 j,.bool true])/\w=w':=
 (z6w ds a cap i0 w hN hl hi).mono fun e w'⟨h1,h2⟩=>⟨by
  rcases h1 with⟨j',e1,e2⟩|⟨e1,_⟩
  ·rw[h]at e1;cases e1;exact e2
  ·rw[h]at e1;(cases e1),h2⟩
theorem k5q{ds:List Nd}{i0:Nat}(a:Option Addr)(cap:Nat)(w:World)(hN:q2b w a ds)(hl:ds.length<=400)(hi:i0<=ds.length)(h:q0v ds i0 1=none):
  Calls prog 160 #[.slice a ds.length cap,.int .i64 i0] w fun e w'=>e=.returned (.tuple #[.int .i64 ds.length,.bool false])/\w=w':=
 (z6w ds a cap i0 w hN hl hi).mono fun e w'⟨h1,h2⟩=>⟨by
  rcases h1 with⟨j',e1,e2⟩|⟨_,e2⟩
  ·rw[h]at e1;cases e1
  ·exact e2,h2⟩
theorem q3e(ds:List Nd)(a:Option Addr)(cap:Nat)(w:World)(hN:q2b w a ds):
  Cb 124 #[.slice a ds.length cap] w (q2m (q3f ds)):=by
 unfold Cb;have Q:Hid (q2b w a ds):=hN;by_cases Y:400<(ds.length:Int)
 ·rw[j6j (by omega),k8l];go_in;go_wp2;go_ret;exact⟨rfl,Below.refl _ _⟩
 ·have I:ds.length<=400:=by omega
  go_in;go_wp2
  go_loopw [14] (fun i wr=>Below w w wr/\∃k:Nat,k<=ds.length/\i=.int .i64 k/\∀x∈ds.take k,q1e x=0) (fun i _=>ds.length-(intOf i).toNat)
  case atStart=>exact⟨Below.refl _ _,0,zero_le _,rfl,by simp⟩
  case round=>
   obtain⟨G,k,c,rfl,H⟩:=hrel;have L:Hid (∀x∈ds.take k,q1e x=0):=H;have J:Hid (q2b wr a ds):=Q.o.W G;by_cases A:k<ds.length
   ·obtain⟨b,o,R,Z,U,V,X⟩:=J.o k A;subst R;by_cases N:q1e ds[k]=0
    ·have E:Hid (q1e ds[k]=0):=N;go_wp2_with fail;refine(z0p ds[k] _).mono ?_;rintro e K⟨rfl,D⟩;rw[E.o,q1n];have C:=q7x G Zl D;go_wp2
     go_roundw
     case rel=>exact⟨C,k+1,by omega,by go_num,v2h A L.o E.o⟩
     case measure=>simp[intOf];omega
    ·have E:Hid (q1e ds[k]≠0):=N;go_wp2_with fail;refine(z0p ds[k] _).mono ?_;rintro e K⟨rfl,D⟩;rw[q0q E.o];have C:=q7x G Zl D;go_wp2;go_ret;refine⟨?_,C⟩;rw[j6k I A L.o E.o,q0q E.o];rfl
   ·have M:Hid (q3f ds=if q0v ds 0 1=some ds.length then 0 else 2):=v5e I (v8q A L.o);cases O:q0v ds 0 1 with
    | none=>
     have B:Hid (q0v ds 0 1=none):=O;go_wp2_with fail;refine(k5q a cap _ J.o I (zero_le _) B.o).mono ?_;rintro e K⟨rfl,rfl⟩;go_wp2;go_ret;refine⟨?_,G⟩;rw[M.o,B.o,if_neg (by simp),k2d];rfl
    | some j=>
     have B:Hid (q0v ds 0 1=some j):=O;by_cases P:j=ds.length
     ·subst P;go_wp2_with fail;refine(z4r a cap _ J.o I (zero_le _) B.o).mono ?_;rintro e K⟨rfl,rfl⟩;go_wp2;go_ret;refine⟨?_,G⟩;rw[M.o,B.o,if_pos rfl,q1n];rfl
     ·have S:((j:Int) != (ds.length:Int))=true:=by simp;omega
      go_wp2_with fail;refine(z4r a cap _ J.o I (zero_le _) B.o).mono ?_;rintro e K⟨rfl,rfl⟩;go_wp2;go_ret;refine⟨?_,G⟩;rw[M.o,B.o,if_neg (by simp[P]),k2d];rfl
theorem v5w(ds:List Nd)(a:Option Addr)(cap:Nat)(w:World)(hN:q2b w a ds)(h:q3f ds≠0):
  Cb 221 #[.slice a ds.length cap] w (.tuple #[.string ⟨#[]⟩,.bool false,q2m (q3f ds)]):=by
 unfold Cb;have A:Hid (q2b w a ds):=hN;have H:Hid (q3f ds≠0):=h;rw[q0q h];clear hN h;go_in;go_wp2_with fail;refine(q3e ds a cap _ A.o).mono ?_;rintro e C⟨rfl,B⟩;rw[q0q H.o];go_wp2;go_ret3;exact⟨rfl,B⟩
theorem j7a(ds:List Nd)(t:Tr)(hd:ds=t.N)(ht:t.Wf)(hl:ds.length<=400)(a:Option Addr)(cap:Nat)(hc:ds.length<=cap)(w:World)(hN:q2b w a ds):
  Cb 221 #[.slice a ds.length cap] w (.tuple #[.string t.line,.bool t.isFlat,.nilIface]):=by
 unfold Cb;have Q:Hid (q2b w a ds):=hN;have H:Hid (q3f ds=0):=(show q3f ds=0 by rw[hd];exact z1t ht (by rw[<-hd];exact hl));have V:Hid (ds=t.N):=hd;have U:Hid (ds≠[]):=(show ds≠[] by have:=t.pos;rw[<-hd]at this;exact List.length_pos_iff.1 this);clear hN hd;cases E:t.brk
 case' true=>obtain⟨M,O⟩:=j7v E
 case' false=>obtain⟨M,O⟩:=j7u E
 all_goals
  rw[M,O];have X:=(show Hid (t.brk=_)from E);clear E M O;go_in;go_wp2_with fail;refine(q3e ds a cap _ Q.o).mono ?_;rintro e A⟨rfl,J⟩;rw[H.o,q1n];have G:Hid (Below w w A):=J;obtain⟨s,S,D⟩:=(Q.o.W J).s U.o;have Y:Hid (q1j s A a ds):=D;clear J D;go_wp2_with fail;refine(q5m t ht A.heap.size A.heap.size s ds [] a cap [] false _ (by rw[V.o];simp) (Y.o.kept (Below.heap_alloc _ _ _ S)) S (by omega) hc (IsX.fresh 328 A [.bool false]) (by simp) (by simp;omega)).mono ?_;rintro e P⟨⟨b,R,rfl,_,_⟩,B,K,_⟩;have C:Below w w P:=G.o.trans ((((Below.refl _ A).alloc Zl _).trans (K.W Zl)).mono G.o.size);rw[Bool.false_or,List.nil_append]at B;have I:Hid (Ln A.heap.size A.heap.size t.laid t.brk P):=B;have Z:=B.cell;rw[X.o]at Z;clear B
 ·go_wp2_with fail;refine(k1d 328 A.heap.size A.heap.size t.laid [.bool t.brk] P I.o).mono ?_;rintro e c⟨rfl,L⟩;go_wp2;go_ret3;exact⟨rfl,C.trans (L.mono G.o.size)⟩
 ·go_wp2;go_ret3;exact⟨rfl,C⟩
theorem v5v(ds:List Nd)(a:Option Addr)(cap:Nat)(hc:ds.length<=cap)(w:World)(hN:q2b w a ds):
  Cb 221 #[.slice a ds.length cap] w (.tuple #[.string (flS ds),.bool (flB ds),q2m (q3f ds)]):=by
 unfold Cb;by_cases h:q3f ds=0
 ·obtain⟨C,_,_⟩:=q5j h;obtain⟨D,A,B⟩:=j6z (q9u h) (q3w h) C;rw[A,B,h,q1n];exact j7a ds _ (q3w h) (q9u h) C a cap hc w hN
 ·obtain⟨A,B⟩:=y7v h;rw[A,B];exact v5w ds a cap w hN h
theorem j7d(ds:List Nd)(a:Option Addr)(cap:Nat)(hc:ds.length<=cap)(w:World)(hN:q2b w a ds):
  Cb 193 #[.slice a ds.length cap] w (.tuple #[.int .i64 (flS ds).size,.bool (flB ds),q2m (q3f ds)]):=by
 unfold Cb;have D:Hid (q2b w a ds):=hN;clear hN;generalize C:flS ds=s;generalize A:flB ds=b;generalize B:q2m (q3f ds)=v;have H:Hid (flS ds=s/\flB ds=b/\q2m (q3f ds)=v):=⟨C,A,B⟩;clear C A B;go_in;go_wp2_with fail;refine(v5v ds a cap hc _ D.o).mono ?_;rintro e G⟨rfl,E⟩;rw[H.o.1,H.o.2.1,H.o.2.2];go_wp2;go_ret3;exact⟨rfl,E⟩
theorem j5h(ds:List Nd)(t:Tr)(hd:ds=t.N)(ht:t.Wf)(hl:ds.length<=400)(a:Option Addr)(cap:Nat)(hc:ds.length<=cap)(w:World)(hN:q2b w a ds):
  Cb 163 #[.slice a ds.length cap] w (lgF t.flat):=by
 unfold Cb;obtain⟨E,G,H⟩:=j6z ht hd hl;have A:=j7d ds a cap hc w hN;rw[E,G,H,q1n]at A;cases C:t.flat with
 | none=>
  have B:t.isFlat=false:=by simp[Tr.isFlat,C]
  rw[B]at A;have D:Hid (Cb 193 #[.slice a ds.length cap] w (.tuple #[t.line.size,.bool false,.nilIface])):=A;clear A hN E G H B hd C;rw[lgF];go_in;go_wp2_with fail;refine D.o.mono ?_;rintro e K⟨rfl,I⟩;go_wp2;go_ret;exact⟨rfl,I⟩
 | some s=>
  have B:t.isFlat=true:=by simp[Tr.isFlat,C]
  have J:t.line.size=s.length:=by rw[q8f,C];rfl
  rw[B,J]at A;have D:Hid (Cb 193 #[.slice a ds.length cap] w (.tuple #[s.length,.bool true,.nilIface])):=A;clear A hN E G H B J hd C;rw[lgF];go_in;go_wp2_with fail;refine D.o.mono ?_;rintro e K⟨rfl,I⟩;go_wp2;go_ret;exact⟨rfl,I⟩
theorem y6z.pr{g n j:Nat}{F:Nat->Q}{x y:Int}{w w':World}(h:y6z g (j*7+4) (j*7+5) x y w w')(hp:PwR w g n F)(hj:j<n):PwR w' g n (upd F j {F j with nx:=x,dp:=y}):=by
 have A:=(hp.putNx hj x).putDp hj y;rw[k1b,q0p]at A;exact A.kept (by rw[h.2.2.2])
theorem y6z.belX{g a b:Nat}{e f:Value}{w w':World}(h:y6z g a b e f w w')(B:Nat):q0n B g w w':=
 ⟨h.1,h.2.1,h.2.2.1,by rw[h.2.2.2];simp[World.setCell],fun k _ hk=>by rw[h.2.2.2,Below.heap_setCell _ _ _ _ hk,Below.heap_setCell _ _ _ _ hk]⟩
theorem z0o(bp g n i:Nat)(x y:Int)(F:Nat->Q)(w:World)(hi:i<n)(c0:w.cell? bp=some (.slice g n n))(hp:PwR w g n F):
  Calls prog 192 #[.pointer bp,i,x,y] w fun e w'=>e=.returned (.tuple #[])/\PwR w' g n (upd F i {F i with nx:=x,dp:=y})/\q0n w g w w':=by
 have k:=hp.get i hi;refine(j5r bp g n i x y w (by omega) c0 _ _ k.c4 k.c5 hp.row.frozen hp.row.frozen).mono ?_;rintro e A⟨rfl,h⟩;exact⟨rfl,h.pr hp hi,h.belX _⟩
theorem v4v(bp g n i:Nat)(F:Nat->Q)(w:World)(hi:i<n)(c0:w.cell? ↑bp=some (.slice ↑g n n))(hp:PwR w g n F)
  (h6:((F i).op==6)=false) (h9:((F i).op==9)=false) (h7:((F i).op==7)=false) (h8:((F i).op==8)=false):
  Calls prog 162 #[.pointer bp,i] w fun e w'=>e=.returned (.tuple #[])/\PwR w' g n F/\q0n w g w w':=by
 obtain⟨E,G,H,I,J,K,L⟩:=hp.get i hi;have C:(i:Int)<n:=by omega
 have D:(0:Int)<=(i:Int):=by omega
 have A:=hid hp;clear hp hi;generalize F i=q at *;go_in;go_wp2
 go_end0
 have B:Below w w (w.alloc (.cells #[q.op,.string q.tx,q.n,q.en,q.nx,q.dp,q.lg] 248)):= Zb.alloc Zl _;exact⟨rfl,A.o.kept (B.block g A.o.row.lt),q0n.of B⟩
abbrev q6d(q:Q):Obj:=.cells #[.int .i64 q.op,.string q.tx,.int .i64 q.n,.int .i64 q.en,.int .i64 q.nx,.int .i64 q.dp,.int .i64 q.lg] 248
theorem y2v(bp g n i:Nat)(F:Nat->Q)(w:World)(hn:n<=400)(B:i+1<n)(c0:w.cell? bp=some (.slice g n n))(hp:PwR w g n F)
  (E:(F i).op=7\/(F i).op=8) (x:Int) (hx:IntKind.i64.wrap ((F i).dp+(F i).n)=x):
  Calls prog 162 #[.pointer bp,i] w fun e w'=>e=.returned (.tuple #[])/\PwR w' g n (upd F (i+1) {F (i+1)with nx:=(F i).nx,dp:=x})/\q0n w g w w':=by
 obtain⟨I,N,O,P,R,S,U⟩:=hp.get i (by omega);have C:(i:Int)<n:=by omega
 have K:(0:Int)<=(i:Int):=by omega
 have L:=z6n hn C;have G:=hid hp;have H:=hid c0;have M:Hid (∃q,F i=q):=⟨_,rfl⟩;clear hp;generalize F i=q at *;have D:=G.o.row.lt;rcases E with e|e
 all_goals
  rw[e]at I;go_in;go_wp2_with fail;refine(z0o bp g n (i+1) q.nx x F _ B (ka H.o _) (G.o.kept (Below.heap_alloc _ _ _ D))).mono ?_;rintro e V⟨rfl,J,A⟩;go_wp2
  go_end0
  exact⟨rfl,J,(q0n.of ((Below.refl _ w).alloc Zl _)).trans (A.mono (by simp))⟩
theorem y2w(bp g n i j:Nat)(F:Nat->Q)(w:World)(hn:n<=400)(E:i+1<n)(hj:j<n)(J:bp≠g)(c0:w.cell? bp=some (.slice g n n))(hp:PwR w g n F)
  (G:(F i).op=6) (B:(F (i+1)).en=(j:Int)):
  Calls prog 162 #[.pointer bp,i] w fun e w'=>e=.returned (.tuple #[])/\PwR w' g n (upd (upd F (i+1) {F (i+1)with nx:=j,dp:=(F i).dp}) j {upd F (i+1) {F (i+1)with nx:=j,dp:=(F i).dp} j with nx:=(F i).nx,dp:=(F i).dp})/\q0n w g w w':=by
 obtain⟨W,l,m,o,r,s,t⟩:=hp.get i (by omega);have M:=(hp.get (i+1) E).c3;rw[B]at M;have K:(i:Int)<n:=by omega
 have R:(i:Int)+1<n:=by omega
 have Y:(0:Int)<=(i:Int):=by omega
 have Z:(0:Int)<=(i:Int)+1:=by omega
 have a:((i:Int)+1).toNat=i+1:=by omega
 have b:=z6n hn K;have N:=hid hp;have L:=N.o.row.lt;have S:=World.block_lt_of_cell? w bp c0;have d:=hid c0;have c:∀O,(w.alloc O).cell? (g,(i+1)*7+3)=some ↑(j:Int):=fun O=>ka M O
 have D:∀O,(w.alloc O).cell? bp=some (.slice g n n):=fun O=>ka c0 O
 rw[G]at W;have f:=hid B;clear hp B M G;generalize F i=q at *;go_in;go_wp2_with fail;refine(z0o bp g n (i+1) j q.dp F _ E (D _) (N.o.kept (Below.heap_alloc _ _ _ L))).mono ?_;rintro e U⟨rfl,P,A⟩;have h:U.cell? (w.heap.size,4)=some ↑q.nx:=(A.cell (p:=(w.heap.size,4)) (by simp) (by simp;omega)).trans (by simp[go_sem]);have k:U.cell? (w.heap.size,5)=some ↑q.dp:=(A.cell (p:=(w.heap.size,5)) (by simp) (by simp;omega)).trans (by simp[go_sem]);have V:=(A.cell (p:=bp) (by simp;omega) J).trans (D _);have H:=hid P;have C:=hid ((q0n.of ((Below.refl _ w).alloc Zl _)).trans (A.mono (by simp)));clear P A;go_wp2_with fail;refine(z0o bp g n j q.nx q.dp _ _ hj V H.o).mono ?_;rintro e u⟨rfl,X,I⟩;go_wp2
 go_end0
 exact⟨rfl,X,C.o.trans (I.mono C.o.size)⟩
theorem v4w(bp g n i j:Nat)(F:Nat->Q)(w:World)(hn:n<=400)(E:i+1<n)(hj:j<n)(I:bp≠g)(c0:w.cell? bp=some (.slice g n n))(hp:PwR w g n F)
  (K:(F i).op=9) (J:(F (i+1)).en=(j:Int)):
  Calls prog 162 #[.pointer bp,i] w fun e w'=>e=.returned (.tuple #[])/\PwR w' g n (upd (upd F (i+1) {F (i+1)with nx:=(F i).nx,dp:=(F i).dp}) j {upd F (i+1) {F (i+1)with nx:=(F i).nx,dp:=(F i).dp} j with nx:=(F i).nx,dp:=(F i).dp})/\q0n w g w w':=by
 obtain⟨k,t,u,v,x,y,z⟩:=hp.get i (by omega);have W:(i:Int)<n:=by omega
 have d:(i:Int)+1<n:=by omega
 have l:(0:Int)<=(i:Int):=by omega
 have m:(0:Int)<=(i:Int)+1:=by omega
 have o:((i:Int)+1).toNat=i+1:=by omega
 have r:=z6n hn W;have Z:=hid hp;have X:=Z.o.row.lt;have f:=World.block_lt_of_cell? w bp c0;have H:∀O,(w.alloc O).cell? bp=some (.slice g n n):=fun O=>ka c0 O
 rw[K]at k;have Y:=hid J;clear hp J K;generalize F i=q at *;go_in;go_wp2_with fail;refine(z0o bp g n (i+1) q.nx q.dp F _ E (H _) (Z.o.kept (Below.heap_alloc _ _ _ X))).mono ?_;rintro e C⟨rfl,P,B⟩;have a:C.cell? (w.heap.size,4)=some ↑q.nx:=(B.cell (p:=(w.heap.size,4)) (by simp) (by simp;omega)).trans (by simp[go_sem]);have b:C.cell? (w.heap.size,5)=some ↑q.dp:=(B.cell (p:=(w.heap.size,5)) (by simp) (by simp;omega)).trans (by simp[go_sem]);have N:=(B.cell (p:=bp) (by simp;omega) I).trans (H _)
 have s:C.cell? (g,(i+1)*7+3)=some ↑(j:Int):=by
  have:=(P.get (i+1) E).c3
  rw[q0p]at this;rw[<-Y.o];exact this
 have M:=hid P;have G:=hid ((q0n.of ((Below.refl _ w).alloc Zl _)).trans (B.mono (by simp)));have L:w.heap.size<C.heap.size:=by have:=B.size;simp at this;omega
 have V:∀A,q0n C.drew.heap.size g C.drew A->A.cell? bp=some (.slice g n n):=fun A h=>(h.cell (p:=bp) (by simp;omega) I).trans N
 have S:∀A,q0n C.drew.heap.size g C.drew A->A.cell? ⟨w,4,none⟩=some (.int .i64 q.nx):=fun A h=>(h.cell (p:=⟨w,4,none⟩) L (by simp;omega)).trans a
 have U:∀A,q0n C.drew.heap.size g C.drew A->A.cell? ⟨w,5,none⟩=some (.int .i64 q.dp):=fun A h=>(h.cell (p:=⟨w,5,none⟩) L (by simp;omega)).trans b
 have R:∀A,PwR A g n (upd (upd F (i+1) {F (i+1)with nx:=q.nx,dp:=q.dp}) j {upd F (i+1) {F (i+1)with nx:=q.nx,dp:=q.dp} j with nx:=q.nx,dp:=q.dp})->A.cell? (g,(i+1)*7+3)=some ↑(j:Int):=fun A h=>by
  have:=(h.get (i+1) E).c3
  rw[<-Y.o];by_cases e:i+1=j
  ·subst e;rw[q0p,q0p]at this;exact this
  ·rw[q1l e,q0p]at this;exact this
 clear P B;go_wp2_with fail
 go_region_held3 (fun w'=>w'.cell? bp=some (.slice g n n)/\w'.cell? (g,(i+1)*7+3)=some ↑(j:Int)/\w'.cell? (w.heap.size,4)=some ↑q.nx/\w'.cell? (w.heap.size,5)=some ↑q.dp)
  (first|exact⟨N,s,a,b⟩|exact⟨V _ D,R _ c,S _ D,U _ D⟩) ((go_at_call 192;refine(z0o bp g n j q.nx q.dp _ C.drew hj N (M.o.kept rfl)).mono ?_;rintro e A⟨rfl,c,D⟩))
 all_goals
  go_wp2
  go_end0
  exact⟨rfl,c,G.o.drew.trans (D.mono G.o.size)⟩
structure ChB(w wx:World)(i c:Nat)(q:Q):Prop where
 a0:wx.cell? ⟨w,0,none⟩=some (.int .i64 i)
 a1:wx.cell? ⟨w,1,none⟩=some (.int .i64 c)
 r0:wx.cell? ⟨w.heap.size+1,0,none⟩=some (.int .i64 0)
 r1:wx.cell? ⟨w.heap.size+1,1,none⟩=some (.int .i64 0)
 r2:wx.cell? ⟨w.heap.size+1,2,none⟩=some (.int .i64 0)
 r3:wx.cell? ⟨w.heap.size+1,3,none⟩=some (.int .i64 0)
 r4:wx.cell? ⟨w.heap.size+1,4,none⟩=some (.int .i64 0)
 fr:q7w wx (w.heap.size+1)
 q0:wx.cell? ⟨w.heap.size+1+1,0,none⟩=some (.int .i64 q.op)
 q1:wx.cell? ⟨w.heap.size+1+1,1,none⟩=some (.string q.tx)
 q2:wx.cell? ⟨w.heap.size+1+1,2,none⟩=some (.int .i64 q.n)
 q3:wx.cell? ⟨w.heap.size+1+1,3,none⟩=some (.int .i64 q.en)
 q4:wx.cell? ⟨w.heap.size+1+1,4,none⟩=some (.int .i64 q.nx)
 q5:wx.cell? ⟨w.heap.size+1+1,5,none⟩=some (.int .i64 q.dp)
 q6:wx.cell? ⟨w.heap.size+1+1,6,none⟩=some (.int .i64 q.lg)
 lt:w.heap.size+1+1<wx.heap.size
theorem ChB.kept{w wx wy:World}{i c mb:Nat}{q:Q}(h:ChB w wx i c q)(hb:q0n wx mb wx wy)(hm:mb<w.heap.size):ChB w wy i c q:=by
 have A:∀b o v,b≠mb->wx.cell? ⟨b,o,none⟩=some v->wy.cell? ⟨b,o,none⟩=some v:=fun b o v he hv=>(hb.cell (p:=⟨b,o,none⟩) (World.block_lt_of_cell? wx ⟨b,o,none⟩ hv) he).trans hv
 exact⟨A _ _ _ (by omega) h.a0,A _ _ _ (by omega) h.a1,A _ _ _ (by omega) h.r0,A _ _ _ (by omega) h.r1,A _ _ _ (by omega) h.r2,A _ _ _ (by omega) h.r3,A _ _ _ (by omega) h.r4,h.fr.kept (hb.block _ h.fr.lt (by omega)),
  A _ _ _ (by omega) h.q0,A _ _ _ (by omega) h.q1,A _ _ _ (by omega) h.q2,A _ _ _ (by omega) h.q3,A _ _ _ (by omega) h.q4,A _ _ _ (by omega) h.q5,A _ _ _ (by omega) h.q6,Nat.lt_of_lt_of_le h.lt hb.size⟩
theorem j5v{sb g mb wd i c:Nat}{R:List Pl}{S:Nat->Nat->Bool}{w w1:World}(h:Sk1 sb g mb wd i c R S w w1)(q:Q):ChB w (w1.alloc (q6d q)).drew i c q:=by
 have A:=heap_alloc_new w1 (q6d q);rw[h.sz]at A;have B:∀o v,(w1.alloc (q6d q)).cell? ⟨w.heap.size+1+1,o,none⟩=v->(w1.alloc (q6d q)).drew.cell? ⟨w.heap.size+1+1,o,none⟩=v:=fun _ _ h=>h
 refine⟨ka h.a0 _,ka h.a1 _,ka h.r0 _,ka h.r1 _,ka h.r2 _,ka h.r3 _,ka h.r4 _,h.fr.kept (Below.heap_alloc _ _ _ h.fr.lt),B _ _ ?_,B _ _ ?_,B _ _ ?_,B _ _ ?_,B _ _ ?_,B _ _ ?_,B _ _ ?_,?_⟩
 ·simp[World.cell?,A,q6d]
 ·simp[World.cell?,A,q6d]
 ·simp[World.cell?,A,q6d]
 ·simp[World.cell?,A,q6d]
 ·simp[World.cell?,A,q6d]
 ·simp[World.cell?,A,q6d]
 ·simp[World.cell?,A,q6d]
 ·show w.heap.size+1+1<(w1.alloc (q6d q)).heap.size;simp[h.sz]
theorem k5k{R:List Pl}{L M i nx dp wd c:Nat}{ks:List (Nat × Tr)}{t:Tr}(sb g mb:Nat)(Z:Sp R L M i t nx dp ks)(V:(q2 (q1r R i)).lg=-1)(hT:z6k sb g mb wd R i c 1)(w:World)(S:Nat->Nat->Bool)(h:Inv sb g mb wd R w S):
  Calls prog 164 #[.pointer sb,.agg #[i,c]] w fun e w'=>e=.returned (cvV (tkC R wd i c 1))/\Left sb g mb wd R S (i+1) (tkC R wd i c 1).np (tkC R wd i c 1).nc w w':=by
 have H:=hid h;have p:=h.lt;have hi:=Z.lt;have Aa:(i:Int)<(R.length:Int):=by omega
 have Ab:(0:Int)<=(i:Int):=by omega
 have x:Hid (∀W,q6j W sb g wd R->z4h W g i (q2 (q1r R i))):=fun W m=>m.pr.get i hi
 have y:Hid (z6k sb g mb wd R i c 1):=hT;have k:Hid ((q2 (q1r R i)).lg=-1):=V;clear hT V;rw[cvV];clear h Z;generalize q2 (q1r R i)=q at *;go_in;go_wp2_with fail;have I:Sk1 sb g mb wd i c R S w ((w.alloc (.cells #[i,c] 216)).alloc (.cells #[.int .i64 0,.int .i64 0,.int .i64 0,.int .i64 0,.int .i64 0] 218)):=z7w (nq:=0) H.o
 generalize(w.alloc (.cells #[i,c] 216)).alloc (.cells #[.int .i64 0,.int .i64 0,.int .i64 0,.int .i64 0,.int .i64 0] 218)=w1 at *
 have C:Hid (Sk1 sb g mb wd i c R S w w1):=I;have r:=I.sz
 have E:∀W:World,W=w1.drew\/(∃O,W=(w1.alloc O).drew)->W.cell? sb=some (.slice g R.length R.length)/\W.cell? w.heap.size=some ↑i/\W.cell? (g,i*7)=some ↑q.op/\W.cell? (g,i*7+1)=some (.string q.tx)/\W.cell? (g,i*7+2)=some ↑q.n/\W.cell? (g,i*7+3)=some ↑q.en/\W.cell? (g,i*7+4)=some ↑q.nx/\W.cell? (g,i*7+5)=some ↑q.dp/\W.cell? (g,i*7+6)=some ↑q.lg:=by
  intro W m
  have D:q6j W sb g wd R/\W.cell? w.heap.size=some ↑i:=by
   rcases m with rfl|⟨O,rfl⟩
   ·exact⟨C.o.inv.pl.kept rfl rfl,C.o.a0⟩
   ·exact⟨(C.o.inv.pl.alloc O).kept rfl rfl,ka C.o.a0 O⟩
  obtain⟨d0,d1,d2,d3,d4,d5,d6⟩:=x.o W D.1;exact⟨D.1.c0,D.2,d0,d1,d2,d3,d4,d5,d6⟩
 have P:=E w1.drew (.inl rfl);have Q:=fun O=>E (w1.alloc O).drew (.inr ⟨O,rfl⟩)
 have B:Hid (ChB w (w1.alloc (q6d q)).drew i c q):=j5v C.o q;have j:Hid (Inv sb g mb wd R (w1.alloc (q6d q)).drew S):=(C.o.inv.alloc _).kept fun _ _=>rfl
 have K:Hid (q0n w mb w (w1.alloc (q6d q)).drew):=(q0n.of (C.o.bw.alloc C.o.bw.size _)).drew;clear I E
 go_region_held3 (fun w'=>w'.cell? sb=some (.slice g R.length R.length)/\w'.cell? w.heap.size=some ↑i/\w'.cell? (g,i*7)=some ↑q.op/\w'.cell? (g,i*7+1)=some (.string q.tx)/\w'.cell? (g,i*7+2)=some ↑q.n/\w'.cell? (g,i*7+3)=some ↑q.en/\w'.cell? (g,i*7+4)=some ↑q.nx/\w'.cell? (g,i*7+5)=some ↑q.dp/\w'.cell? (g,i*7+6)=some ↑q.lg)
  (first|with_reducible exact P|with_reducible exact Q _) (fail)
 all_goals
  generalize(w1.alloc (.cells #[q.op,.string q.tx,q.n,q.en,q.nx,q.dp,q.lg] 248)).drew=w2 at *
  have z:=B.o.a0;have a1:=B.o.a1;have u:=B.o.q6;clear P Q r;rw[k.o]at u;go_wp2_with fail;refine(y.o w2 S j.o).mono ?_;rintro e J⟨rfl,G,N,s,Y,X,U⟩;rw[cvV];have A:=B.o.kept G p.2.2;have r0:=A.r0;have r1:=A.r1;have r2:=A.r2;have r3:=A.r3;have r4:=A.r4;have y0:J.frozen? ↑(w.heap.size+1)=false:=A.fr.frozen;have y1:J.frozen? (w.heap.size+1,1)=false:=A.fr.frozen;have y2:J.frozen? (w.heap.size+1,2)=false:=A.fr.frozen;have y3:J.frozen? (w.heap.size+1,3)=false:=A.fr.frozen;have y4:J.frozen? (w.heap.size+1,4)=false:=A.fr.frozen;have f:=hid (K.o.trans (G.mono K.o.size));have d:Hid (Inv sb g mb wd R J N/\(∀a b,S a b=true->N a b=true)/\(∀a b,N a b=true->S a b=true\/i+1<=a)/\((q3p R wd i c 1).np<R.length->N (q3p R wd i c 1).np (q3p R wd i c 1).nc=true)):=⟨s,Y,X,U⟩;clear G s Y X U A z a1 u;go_wp2;exact bodyPost_ret (v:=.agg #[(tkC R wd i c 1).o,(tkC R wd i c 1).l,(tkC R wd i c 1).ch,(tkC R wd i c 1).np,(tkC R wd i c 1).nc]) (by simp[results,Tryz.results164,go_sem,r0,r1,r2,r3,r4]) rfl ⟨rfl,k5g f.o (by omega) _ _ _ _ _,N,d.o.1.set5 (by omega) (by omega) (by omega) _ _ _ _ _,d.o.2.1,d.o.2.2.1,d.o.2.2.2⟩
theorem k1w{R:List Pl}{L M i nx dp wd c:Nat}{ks:List (Nat × Tr)}{t:Tr}(sb g mb:Nat)(r:Sp R L M i t nx dp ks)(Ad:((q2 (q1r R i)).lg==-1)=false)(Aa:z2n (q2 (q1r R i)).op=false)(f:z6k sb g mb wd R i c 0)(w:World)(S:Nat->Nat->Bool)(h:Inv sb g mb wd R w S):
  Calls prog 164 #[.pointer sb,.agg #[i,c]] w fun e w'=>e=.returned (cvV (tkC R wd i c 0))/\Left sb g mb wd R S (i+1) (tkC R wd i c 0).np (tkC R wd i c 0).nc w w':=by
 have H:=hid h;have Q:=h.lt;have hi:=r.lt;have Ac:(i:Int)<(R.length:Int):=by omega
 have Ae:(0:Int)<=(i:Int):=by omega
 have HQ:Hid (∀W,q6j W sb g wd R->z4h W g i (q2 (q1r R i))):=fun W hW=>hW.pr.get i hi
 have z:Hid (z6k sb g mb wd R i c 0):=f;clear f;rw[cvV];clear h r;generalize q2 (q1r R i)=q at *;go_in;go_wp2_with fail;have U:Sk1 sb g mb wd i c R S w ((w.alloc (.cells #[i,c] 216)).alloc (.cells #[.int .i64 0,.int .i64 0,.int .i64 0,.int .i64 0,.int .i64 0] 218)):=z7w (nq:=0) H.o
 generalize(w.alloc (.cells #[i,c] 216)).alloc (.cells #[.int .i64 0,.int .i64 0,.int .i64 0,.int .i64 0,.int .i64 0] 218)=w1 at *
 have I:Hid (Sk1 sb g mb wd i c R S w w1):=U;have Ab:=U.sz
 have N:∀W:World,W=w1.drew\/(∃O,W=(w1.alloc O).drew)->W.cell? sb=some (.slice g R.length R.length)/\W.cell? w.heap.size=some ↑i/\W.cell? (g,i*7)=some ↑q.op/\W.cell? (g,i*7+1)=some (.string q.tx)/\W.cell? (g,i*7+2)=some ↑q.n/\W.cell? (g,i*7+3)=some ↑q.en/\W.cell? (g,i*7+4)=some ↑q.nx/\W.cell? (g,i*7+5)=some ↑q.dp/\W.cell? (g,i*7+6)=some ↑q.lg:=by
  intro W hW
  have K:q6j W sb g wd R/\W.cell? w.heap.size=some ↑i:=by
   rcases hW with rfl|⟨O,rfl⟩
   ·exact⟨I.o.inv.pl.kept rfl rfl,I.o.a0⟩
   ·exact⟨(I.o.inv.pl.alloc O).kept rfl rfl,ka I.o.a0 O⟩
  obtain⟨d0,d1,d2,d3,d4,d5,d6⟩:=HQ.o W K.1;exact⟨K.1.c0,K.2,d0,d1,d2,d3,d4,d5,d6⟩
 have Z:=N w1.drew (.inl rfl);have d:=fun O=>N (w1.alloc O).drew (.inr ⟨O,rfl⟩)
 have G:Hid (ChB w (w1.alloc (q6d q)).drew i c q):=j5v I.o q;have x:Hid (Inv sb g mb wd R (w1.alloc (q6d q)).drew S):=(I.o.inv.alloc _).kept fun _ _=>rfl
 have X:Hid (q0n w mb w (w1.alloc (q6d q)).drew):=(q0n.of (I.o.bw.alloc I.o.bw.size _)).drew;clear U N
 go_region_held3 (fun w'=>w'.cell? sb=some (.slice g R.length R.length)/\w'.cell? w.heap.size=some ↑i/\w'.cell? (g,i*7)=some ↑q.op/\w'.cell? (g,i*7+1)=some (.string q.tx)/\w'.cell? (g,i*7+2)=some ↑q.n/\w'.cell? (g,i*7+3)=some ↑q.en/\w'.cell? (g,i*7+4)=some ↑q.nx/\w'.cell? (g,i*7+5)=some ↑q.dp/\w'.cell? (g,i*7+6)=some ↑q.lg)
  (first|with_reducible exact Z|with_reducible exact d _) (fail)
 all_goals
  generalize(w1.alloc (.cells #[q.op,.string q.tx,q.n,q.en,q.nx,q.dp,q.lg] 248)).drew=w2 at *
  have a0:=G.o.a0;have a1:=G.o.a1;have q6:=G.o.q6;clear Z d Ab;go_wp2_with fail;refine(z.o w2 S x.o).mono ?_;rintro e D⟨rfl,P,V,hI,m,k,j⟩;rw[cvV];have C:=G.o.kept P Q.2.2;have J:Hid (q0n w mb w D):=X.o.trans (P.mono X.o.size);have s:Hid (Inv sb g mb wd R D V/\(∀a b,S a b=true->V a b=true)/\(∀a b,V a b=true->S a b=true\/i+1<=a)/\((tkC R wd i c 0).np<R.length->V (tkC R wd i c 0).np (tkC R wd i c 0).nc=true)):=⟨hI,m,k,j⟩;have u0:=fun O=>ka C.q0 O
  have u1:=fun O=>ka C.q1 O
  have u2:=fun O=>ka C.q2 O
  have u3:=fun O=>ka C.q3 O
  have u4:=fun O=>ka C.q4 O
  have u5:=fun O=>ka C.q5 O
  have u6:=fun O=>ka C.q6 O
  have Y:Hid (ChB w D i c q):=C;clear P hI m k j C a0 a1 q6;go_wp2_with fail;refine(z0n q.op q.tx q.n q.en q.nx q.dp q.lg _).mono ?_;rintro e E⟨rfl,B⟩;rw[Aa];have Af:D.heap.size<E.heap.size:=by have:=B.size;simp at this;omega
  have A:Hid (ChB w E i c q):=(Y.o.kept (mb:=mb) (q0n.of ((Below.refl _ D).alloc Zl _)) Q.2.2).kept (q0n.of B) Q.2.2;have y:Hid (Inv sb g mb wd R E V):=(s.o.1.alloc _).W B;have u:Hid (q0n w mb w E):=(J.o.alloc (by have:=J.o.size;omega) _).trans (q0n.of (B.mono (by have:=J.o.size;simp;omega)));have s0:E.cell? D.heap.size=some ((tkC R wd i c 0).o):=(B.cell (p:=D.heap.size) (by simp)).trans (by simp[go_sem]);have s1:E.cell? (D.heap.size,1)=some ((tkC R wd i c 0).l):=(B.cell (p:=(D.heap.size,1)) (by simp)).trans (by simp[go_sem]);have s2:E.cell? (D.heap.size,2)=some ((tkC R wd i c 0).ch):=(B.cell (p:=(D.heap.size,2)) (by simp)).trans (by simp[go_sem]);have s3:E.cell? (D.heap.size,3)=some ((tkC R wd i c 0).np):=(B.cell (p:=(D.heap.size,3)) (by simp)).trans (by simp[go_sem]);have s4:E.cell? (D.heap.size,4)=some ((tkC R wd i c 0).nc):=(B.cell (p:=(D.heap.size,4)) (by simp)).trans (by simp[go_sem]);have r0:=A.o.r0;have r1:=A.o.r1;have r2:=A.o.r2;have r3:=A.o.r3;have r4:=A.o.r4;have y0:E.frozen? ↑(w.heap.size+1)=false:=A.o.fr.frozen;have y1:E.frozen? ↑(w.heap.size+1,1)=false:=A.o.fr.frozen;have y2:E.frozen? ↑(w.heap.size+1,2)=false:=A.o.fr.frozen;have y3:E.frozen? (w.heap.size+1,3)=false:=A.o.fr.frozen;have y4:E.frozen? (w.heap.size+1,4)=false:=A.o.fr.frozen;clear u0 u1 u2 u3 u4 u5 u6 B;go_wp2;exact bodyPost_ret (v:=.agg #[(tkC R wd i c 0).o,(tkC R wd i c 0).l,(tkC R wd i c 0).ch,(tkC R wd i c 0).np,(tkC R wd i c 0).nc]) (by simp[results,Tryz.results164,go_sem,r0,r1,r2,r3,r4]) rfl ⟨rfl,k5g u.o (by omega) _ _ _ _ _,V,y.o.set5 (by omega) (by omega) (by omega) _ _ _ _ _,s.o.2.1,s.o.2.2.1,s.o.2.2.2⟩
end Go.Proofs.YtchdplceopegoaaGreatDoor
