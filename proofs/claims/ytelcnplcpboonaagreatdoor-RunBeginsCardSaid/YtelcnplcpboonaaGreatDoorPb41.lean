import Derived.Test.YtelcnplcpboonaaGreatDoorPb40
import Derived.Deep.DeepFit
open Go.Proofs.Tryz
namespace Go.Proofs.YtelcnplcpboonaaGreatDoor
open Go Go.RowKit
set_option maxRecDepth 100000
set_option maxHeartbeats 8000000
theorem j3j(a b c d e:Value)(w:World):(Instr.field 282 (.agg #[a,b,c,d,e]) 0).run prog w=.ok (.agg #[a,b]) w:=by kernel_rfl
theorem k2k(a b c d e:Value)(w:World):(Instr.field 282 (.agg #[a,b,c,d,e]) 1).run prog w=.ok c w:=by kernel_rfl
theorem j3k(a b c d e:Value)(w:World):(Instr.field 282 (.agg #[a,b,c,d,e]) 2).run prog w=.ok (.agg #[d,e]) w:=by kernel_rfl
structure TkB(w1 wx:World)(b b7 b8:Nat)(m:Mv):Prop where
 p0:wx.cell? ⟨b7,0,none⟩=some (.int .i64 m.np)
 p1:wx.cell? ⟨b7,1,none⟩=some (.int .i64 m.nc)
 o0:wx.cell? ⟨b8,0,none⟩=some (.int .i64 m.o)
 o1:wx.cell? ⟨b8,1,none⟩=some (.int .i64 m.l)
 n7:b<b7
 n8:b<b8
 bw:Below (b+1) w1 wx
theorem q1i{w1 w2:World}{n:Nat}(h:Below n w1 w2)(hn:n<=w1.heap.size)(O:Obj):Below n w1 (w2.alloc O):=h.alloc (Nat.le_trans hn h.size) O
section
variable {w1 w2:World} {b:Nat} {m:Mv} {T7 T8:TypeId}
theorem y9g(h:Below (b+1) w1 w2)(hb:b+1=w1.heap.size):TkB w1 ((w2.alloc (.cells #[.int .i64 m.np,.int .i64 m.nc] T7)).alloc (.cells #[.int .i64 m.o,.int .i64 m.l] T8)) b w2.heap.size (w2.heap.size+1) m:=
 have hs:=h.size
 ⟨by simp[go_sem],by simp[go_sem],by simp[go_sem],by simp[go_sem],by omega,by omega,q1i (q1i h (by omega) _) (by omega) _⟩
theorem y9h(h:Below (b+1) w1 w2)(hb:b+1=w1.heap.size):TkB w1 ((w2.alloc (.cells #[.int .i64 m.o,.int .i64 m.l] T8)).alloc (.cells #[.int .i64 m.np,.int .i64 m.nc] T7)) b (w2.heap.size+1) w2.heap.size m:=
 have hs:=h.size
 ⟨by simp[go_sem],by simp[go_sem],by simp[go_sem],by simp[go_sem],by omega,by omega,q1i (q1i h (by omega) _) (by omega) _⟩
theorem z3z{W:World}{a:Nat}{u0 u1 v0 v1:Value}(h0:W.cell? ⟨a,0,none⟩=some u0)(h1:W.cell? ⟨a,1,none⟩=some u1):((W.setCell ⟨a,0,none⟩ v0).setCell ⟨a,1,none⟩ v1).cell? ⟨a,0,none⟩=some v0/\((W.setCell ⟨a,0,none⟩ v0).setCell ⟨a,1,none⟩ v1).cell? ⟨a,1,none⟩=some v1:=
 ⟨(cso (by omega)).trans (css h0),css ((cso (by omega)).trans h1)⟩
theorem q4e{n a:Nat}{v0 v1:Value}(h:Below n w1 w2)(hn:n<=a):Below n w1 ((w2.setCell ⟨a,0,none⟩ v0).setCell ⟨a,1,none⟩ v1):=(h.setCell (p:=⟨a,0,none⟩) hn _).setCell (p:=⟨a,1,none⟩) hn _
theorem z5h{W:World}{a d:Nat}{u0 u1 s0 s1 v0 v1 t0 t1:Value}(A:a≠d)(h0:W.cell? ⟨a,0,none⟩=some u0)(h1:W.cell? ⟨a,1,none⟩=some u1)(k0:W.cell? ⟨d,0,none⟩=some s0)(k1:W.cell? ⟨d,1,none⟩=some s1):
  ((((W.setCell ⟨a,0,none⟩ v0).setCell ⟨a,1,none⟩ v1).setCell ⟨d,0,none⟩ t0).setCell ⟨d,1,none⟩ t1).cell? ⟨a,0,none⟩=some v0/\((((W.setCell ⟨a,0,none⟩ v0).setCell ⟨a,1,none⟩ v1).setCell ⟨d,0,none⟩ t0).setCell ⟨d,1,none⟩ t1).cell? ⟨a,1,none⟩=some v1/\((((W.setCell ⟨a,0,none⟩ v0).setCell ⟨a,1,none⟩ v1).setCell ⟨d,0,none⟩ t0).setCell ⟨d,1,none⟩ t1).cell? ⟨d,0,none⟩=some t0/\((((W.setCell ⟨a,0,none⟩ v0).setCell ⟨a,1,none⟩ v1).setCell ⟨d,0,none⟩ t0).setCell ⟨d,1,none⟩ t1).cell? ⟨d,1,none⟩=some t1:=by
 obtain⟨B,C⟩:=z3z (v0:=v0) (v1:=v1) h0 h1;obtain⟨D,E⟩:=z3z (W:=(W.setCell ⟨a,0,none⟩ v0).setCell ⟨a,1,none⟩ v1) (v0:=t0) (v1:=t1) ((cso (.inl A)).trans ((cso (.inl A)).trans k0)) ((cso (.inl A)).trans ((cso (.inl A)).trans k1));exact⟨(cso (.inl A.symm)).trans ((cso (.inl A.symm)).trans B),(cso (.inl A.symm)).trans ((cso (.inl A.symm)).trans C),D,E⟩
theorem y9i{u0 u1:Value}(h:Below (b+1) w1 w2)(hb:b+1=w1.heap.size)(x0:w2.cell? ⟨b+1,0,none⟩=some u0)(x1:w2.cell? ⟨b+1,1,none⟩=some u1):
  TkB w1 (((((w2.alloc (.cells #[.int .i64 0,.int .i64 0] T8)).setCell ⟨b+1,0,none⟩ (.int .i64 m.np)).setCell ⟨b+1,1,none⟩ (.int .i64 m.nc)).setCell ⟨w2,0,none⟩ (.int .i64 m.o)).setCell ⟨w2,1,none⟩ (.int .i64 m.l)) b (b+1) w2.heap.size m:=by
 have A:=World.block_lt_of_cell? w2 ⟨b+1,0,none⟩ x0;have B:b+1<w2.heap.size:=A;obtain⟨C,D,E,G⟩:=z5h (W:=w2.alloc (.cells #[.int .i64 0,.int .i64 0] T8)) (a:=b+1) (d:=w2.heap.size) (s0:=.int .i64 0) (s1:=.int .i64 0) (v0:=.int .i64 m.np) (v1:=.int .i64 m.nc) (t0:=.int .i64 m.o) (t1:=.int .i64 m.l) (by omega) (ka x0 _) (ka x1 _) (by simp[go_sem]) (by simp[go_sem]);exact⟨C,D,E,G,by omega,by omega,q4e (q4e (q1i h (by omega) _) (by omega)) (by omega)⟩
theorem y9j{u0 u1:Value}(h:Below (b+1) w1 w2)(hb:b+1=w1.heap.size)(x0:w2.cell? ⟨b+1,0,none⟩=some u0)(x1:w2.cell? ⟨b+1,1,none⟩=some u1):
  TkB w1 (((w2.alloc (.cells #[.int .i64 m.np,.int .i64 m.nc] T7)).setCell ⟨b+1,0,none⟩ (.int .i64 m.o)).setCell ⟨b+1,1,none⟩ (.int .i64 m.l)) b w2.heap.size (b+1) m:=by
 have A:=World.block_lt_of_cell? w2 ⟨b+1,0,none⟩ x0;have B:b+1<w2.heap.size:=A;obtain⟨C,D⟩:=z3z (W:=w2.alloc (.cells #[.int .i64 m.np,.int .i64 m.nc] T7)) (v0:=.int .i64 m.o) (v1:=.int .i64 m.l) (ka x0 _) (ka x1 _);exact⟨(cso (by omega)).trans ((cso (by omega)).trans (by simp[go_sem])),(cso (by omega)).trans ((cso (by omega)).trans (by simp[go_sem])),C,D,by omega,by omega,q4e (q1i h (by omega) _) (by omega)⟩
theorem y9v{a d:Nat}{u0 u1 s0 s1:Value}(h:Below (b+1) w1 w2)(A:a≠d)(ha:b<a)(hd:b<d)(h0:w2.cell? ⟨a,0,none⟩=some u0)(h1:w2.cell? ⟨a,1,none⟩=some u1)(k0:w2.cell? ⟨d,0,none⟩=some s0)(k1:w2.cell? ⟨d,1,none⟩=some s1):
  TkB w1 ((((w2.setCell ⟨a,0,none⟩ (.int .i64 m.np)).setCell ⟨a,1,none⟩ (.int .i64 m.nc)).setCell ⟨d,0,none⟩ (.int .i64 m.o)).setCell ⟨d,1,none⟩ (.int .i64 m.l)) b a d m:=by
 obtain⟨B,C,D,E⟩:=z5h (v0:=.int .i64 m.np) (v1:=.int .i64 m.nc) (t0:=.int .i64 m.o) (t1:=.int .i64 m.l) A h0 h1 k0 k1;exact⟨B,C,D,E,ha,hd,q4e (q4e h (by omega)) (by omega)⟩
end
theorem k4r{W:World}{b b' o:Nat}{v v0 v1 v2 v3 v4:Value}(hb:b≠b')(h:W.cell? ⟨b,o,none⟩=some v):(((((W.setCell ⟨b',0,none⟩ v0).setCell ⟨b',1,none⟩ v1).setCell ⟨b',2,none⟩ v2).setCell ⟨b',3,none⟩ v3).setCell ⟨b',4,none⟩ v4).cell? ⟨b,o,none⟩=some v:=
 (cso (.inl hb.symm)).trans ((cso (.inl hb.symm)).trans ((cso (.inl hb.symm)).trans ((cso (.inl hb.symm)).trans ((cso (.inl hb.symm)).trans h))))
structure TkF(w wx:World)(b7 b8:Nat)(m:Mv):Prop where
 p0:wx.cell? ⟨b7,0,none⟩=some (.int .i64 m.np)
 p1:wx.cell? ⟨b7,1,none⟩=some (.int .i64 m.nc)
 o0:wx.cell? ⟨b8,0,none⟩=some (.int .i64 m.o)
 o1:wx.cell? ⟨b8,1,none⟩=some (.int .i64 m.l)
 r0:wx.cell? ⟨w.heap.size+1,0,none⟩=some (.int .i64 0)
 r1:wx.cell? ⟨w.heap.size+1,1,none⟩=some (.int .i64 0)
 r2:wx.cell? ⟨w.heap.size+1,2,none⟩=some (.int .i64 0)
 r3:wx.cell? ⟨w.heap.size+1,3,none⟩=some (.int .i64 0)
 r4:wx.cell? ⟨w.heap.size+1,4,none⟩=some (.int .i64 0)
 fr:z2j wx (w.heap.size+1)
 n7:w.heap.size+1<b7
 n8:w.heap.size+1<b8
theorem TkF.kept{w wx wy:World}{b7 b8 mb:Nat}{m:Mv}(h:TkF w wx b7 b8 m)(hb:q0j wx mb wx wy)(hm:mb<w.heap.size):TkF w wy b7 b8 m:=by
 have B:=h.n7;have C:=h.n8;have A:∀b o v,b≠mb->wx.cell? ⟨b,o,none⟩=some v->wy.cell? ⟨b,o,none⟩=some v:=fun b o v he hv=>(hb.cell (p:=⟨b,o,none⟩) (World.block_lt_of_cell? wx ⟨b,o,none⟩ hv) he).trans hv
 exact⟨A _ _ _ (by omega) h.p0,A _ _ _ (by omega) h.p1,A _ _ _ (by omega) h.o0,A _ _ _ (by omega) h.o1,A _ _ _ (by omega) h.r0,A _ _ _ (by omega) h.r1,A _ _ _ (by omega) h.r2,A _ _ _ (by omega) h.r3,A _ _ _ (by omega) h.r4,h.fr.kept (hb.block _ h.fr.lt (by omega)),B,C⟩
theorem y6s{sb g mb wd i c b7 b8:Nat}{R:List Pl}{S:Nat->Nat->Bool}{w w1 wx:World}{m:Mv}(h:Sk1 sb g mb wd i c R S w w1)(hT:TkB w1 wx (w.heap.size+1) b7 b8 m):TkF w wx b7 b8 m:=by
 have A:∀o v,w1.cell? ⟨w.heap.size+1,o,none⟩=some v->wx.cell? ⟨w.heap.size+1,o,none⟩=some v:=fun o v hv=>(hT.bw.cell (p:=⟨w.heap.size+1,o,none⟩) (by simp)).trans hv
 exact⟨hT.p0,hT.p1,hT.o0,hT.o1,A _ _ h.r0,A _ _ h.r1,A _ _ h.r2,A _ _ h.r3,A _ _ h.r4,h.fr.kept (hT.bw.block _ (by omega)),hT.n7,hT.n8⟩
theorem v4t{R:List Pl}{L M i nx dp wd c ch:Nat}{ks:List (Nat × Tr)}{t:Tr}(sb g mb:Nat)(hR:R.length<=400)(Aa:Sp R L M i t nx dp ks)(hc:c<=wd)(hw:wd<=100)(hL:L<=400)(hM:M<=3200)(An:ch=0\/ch=1)(hh:t.lg=-1->ch=1)
  (Am:j0y sb g mb wd R (q2p R wd i c ch).np (q2p R wd i c ch).nc) (hV:∃k:Cv,k=(if(q2p R wd i c ch).np<R.length then crs R wd (q2p R wd i c ch).np (q2p R wd i c ch).nc else zCv)/\k.o=(vv R wd (q2p R wd i c ch).np (q2p R wd i c ch).nc).1.1/\k.l=(vv R wd (q2p R wd i c ch).np (q2p R wd i c ch).nc).1.2/\k.o<=400000/\k.l<=400000):z4m sb g mb wd R i c ch:=by
 intro w S h;have H:Hid (Inv sb g mb wd R w S):=h;have Aq:=h.lt;obtain⟨k,hk,Ap,Ao,Ax,Aw⟩:=hV;have hm:=j5v (ch:=ch) Aa hc hw hL hM;have Z:Hid (∀W:World,q4z W sb g wd R->Calls prog 274 #[.pointer (some ⟨sb,0,none⟩),.agg #[.int .i64 i,.int .i64 c],.int .i64 ch] W fun e w'=>e=.returned (.tuple #[.agg #[.int .i64 (q2p R wd i c ch).np,.int .i64 (q2p R wd i c ch).nc],.agg #[.int .i64 (q2p R wd i c ch).o,.int .i64 (q2p R wd i c ch).l]])/\Below W W w'):=fun W hW=>j1t sb g W hR Aa hc hw hL hM An hh hW
 have Ah:Hid (∀W S,Inv sb g mb wd R W S->Calls prog 203 #[.pointer (some ⟨sb,0,none⟩),.agg #[.int .i64 (q2p R wd i c ch).np,.int .i64 (q2p R wd i c ch).nc]] W fun e w'=>e=.returned (.agg #[.int .i64 k.o,.int .i64 k.l,.int .i64 k.ch,.int .i64 k.np,.int .i64 k.nc])/\Left sb g mb wd R S (q2p R wd i c ch).np (q2p R wd i c ch).np (q2p R wd i c ch).nc W w'):=fun W S hW=>by
  have:=Am W S hW
  rw[<-hk]at this;exact this
 have Al:tkC R wd i c ch=⟨(q2p R wd i c ch).o+k.o,(q2p R wd i c ch).l+k.l,ch,(q2p R wd i c ch).np,(q2p R wd i c ch).nc⟩:=by rw[tkC,j2t,Ap,Ao]
 rw[Al,cvV];dsimp only;clear hk Ap Ao Am Al h;generalize q2p R wd i c ch=m at *;have HM:Hid (y9r R wd i m):=hm;have ho:=hm.bo;have A1:=hm.bl;clear hm;go_in;go_wp2_with fail;have Y:Sk1 sb g mb wd i c R S w ((w.alloc (.cells #[.int .i64 i,.int .i64 c] 280)).alloc (.cells #[.int .i64 0,.int .i64 0,.int .i64 0,.int .i64 0,.int .i64 0] 282)):=z6a (nq:=0) H.o
 generalize(w.alloc (.cells #[.int .i64 i,.int .i64 c] 280)).alloc (.cells #[.int .i64 0,.int .i64 0,.int .i64 0,.int .i64 0,.int .i64 0] 282)=w1 at *
 have HK:Hid (Sk1 sb g mb wd i c R S w w1):=Y;have a0:=Y.a0;have a1:=Y.a1;have E:=Y.sz;clear Y
 have N:Hid (∀W,Below (w.heap.size+1+1) w1 W->W.cell? ⟨w,0,none⟩=some (.int .i64 i)/\W.cell? ⟨w,1,none⟩=some (.int .i64 c)):=fun W hb=>
  ⟨(hb.cell (p:=⟨w,0,none⟩) (by simp;omega)).trans a0,(hb.cell (p:=⟨w,1,none⟩) (by simp;omega)).trans a1⟩
 have j:Below (w.heap.size+1+1) w1 w1.drew:=(Below.refl _ w1).drew;have n:∀O,Below (w.heap.size+1+1) w1 (w1.alloc O).drew:=fun O=>(q1i (Below.refl _ w1) (by omega) O).drew
 have q:∀O1 O2,Below (w.heap.size+1+1) w1 ((w1.alloc O1).alloc O2).drew:=fun O1 O2=>(q1i (q1i (Below.refl _ w1) (by omega) O1) (by omega) O2).drew
 have f:Hid (∀W,Below (w.heap.size+1+1) w1 W->q4z W sb g wd R):=fun W hb=>HK.o.inv.pl.kept (hb.block _ (by omega)) (hb.block _ (by omega))
 have Ac:Hid (Calls prog 274 #[.pointer (some ⟨sb,0,none⟩),.agg #[.int .i64 i,.int .i64 c],.int .i64 ch] w1.drew fun e w'=>e=.returned (.tuple #[.agg #[.int .i64 m.np,.int .i64 m.nc],.agg #[.int .i64 m.o,.int .i64 m.l]])/\Below w1.drew.heap.size w1.drew w'):=Z.o _ (f.o _ j);have Ad:Hid (∀O,Calls prog 274 #[.pointer (some ⟨sb,0,none⟩),.agg #[.int .i64 i,.int .i64 c],.int .i64 ch] (w1.alloc O).drew fun e w'=>e=.returned (.tuple #[.agg #[.int .i64 m.np,.int .i64 m.nc],.agg #[.int .i64 m.o,.int .i64 m.l]])/\Below (w1.alloc O).drew.heap.size (w1.alloc O).drew w'):=fun O=>Z.o _ (f.o _ (n O))
 have Ae:Hid (∀O1 O2,Calls prog 274 #[.pointer (some ⟨sb,0,none⟩),.agg #[.int .i64 i,.int .i64 c],.int .i64 ch] ((w1.alloc O1).alloc O2).drew fun e w'=>e=.returned (.tuple #[.agg #[.int .i64 m.np,.int .i64 m.nc],.agg #[.int .i64 m.o,.int .i64 m.l]])/\Below ((w1.alloc O1).alloc O2).drew.heap.size ((w1.alloc O1).alloc O2).drew w'):=fun O1 O2=>Z.o _ (f.o _ (q O1 O2))
 have Ai:Hid (∀w2,Below w1.drew.heap.size w1.drew w2->Below (w.heap.size+1+1) w1 w2):=fun w2 hb=>j.trans (hb.mono (by show _<=w1.heap.size;omega))
 have Aj:Hid (∀T w2,Below (w1.alloc (.cells #[.int .i64 0,.int .i64 0] T)).drew.heap.size (w1.alloc (.cells #[.int .i64 0,.int .i64 0] T)).drew w2->Below (w.heap.size+1+1) w1 w2/\w2.cell? ⟨w.heap.size+1+1,0,none⟩=some (.int .i64 0)/\w2.cell? ⟨w.heap.size+1+1,1,none⟩=some (.int .i64 0)/\w2.frozen? ⟨w.heap.size+1+1,0,none⟩=false/\w2.frozen? ⟨w.heap.size+1+1,1,none⟩=false/\w.heap.size+1+1+1<=w2.heap.size):=fun T w2 hb=>by
  obtain⟨I,J⟩:=q0t hb;have B:(w1.alloc (.cells #[.int .i64 0,.int .i64 0] T)).drew.heap.size=w.heap.size+1+1+1:=by show(w1.alloc (.cells #[.int .i64 0,.int .i64 0] T)).heap.size=_;simp[E]
  have X:=hb.size;rw[B]at X;refine⟨(n _).trans (hb.mono (by rw[B];omega)),(I _ _ (by rw[B];omega)).trans ?_,(I _ _ (by rw[B];omega)).trans ?_,(J _ _ (by rw[B];omega)).trans ?_,(J _ _ (by rw[B];omega)).trans ?_,X⟩
  ·rw[<-E];simp[go_sem]
  ·rw[<-E];simp[go_sem]
  ·rw[<-E];simp[go_sem]
  ·rw[<-E];simp[go_sem]
 have Ak:Hid (∀T1 T2 w2,Below ((w1.alloc (.cells #[.int .i64 0,.int .i64 0] T1)).alloc (.cells #[.int .i64 0,.int .i64 0] T2)).drew.heap.size ((w1.alloc (.cells #[.int .i64 0,.int .i64 0] T1)).alloc (.cells #[.int .i64 0,.int .i64 0] T2)).drew w2->Below (w.heap.size+1+1) w1 w2/\(w2.cell? ⟨w.heap.size+1+1,0,none⟩=some (.int .i64 0)/\w2.cell? ⟨w.heap.size+1+1,1,none⟩=some (.int .i64 0)/\w2.frozen? ⟨w.heap.size+1+1,0,none⟩=false/\w2.frozen? ⟨w.heap.size+1+1,1,none⟩=false)/\w2.cell? ⟨w.heap.size+1+1+1,0,none⟩=some (.int .i64 0)/\w2.cell? ⟨w.heap.size+1+1+1,1,none⟩=some (.int .i64 0)/\w2.frozen? ⟨w.heap.size+1+1+1,0,none⟩=false/\w2.frozen? ⟨w.heap.size+1+1+1,1,none⟩=false):=fun T1 T2 w2 hb=>by
  obtain⟨I,J⟩:=q0t hb;have B:((w1.alloc (.cells #[.int .i64 0,.int .i64 0] T1)).alloc (.cells #[.int .i64 0,.int .i64 0] T2)).drew.heap.size=w.heap.size+1+1+1+1:=by show((w1.alloc (.cells #[.int .i64 0,.int .i64 0] T1)).alloc (.cells #[.int .i64 0,.int .i64 0] T2)).heap.size=_;simp[E]
  refine⟨(q _ _).trans (hb.mono (by rw[B];omega)),⟨(I _ _ (by rw[B];omega)).trans ?_,(I _ _ (by rw[B];omega)).trans ?_,(J _ _ (by rw[B];omega)).trans ?_,(J _ _ (by rw[B];omega)).trans ?_⟩,(I _ _ (by rw[B];omega)).trans ?_,(I _ _ (by rw[B];omega)).trans ?_,(J _ _ (by rw[B];omega)).trans ?_,(J _ _ (by rw[B];omega)).trans ?_⟩
  all_goals rw[<-E];simp[go_sem]
 have D:Hid (w1.heap.size=w.heap.size+1+1):=E;clear Z An hh Aa
 go_cut [0,2,6,7,8] (fun s0 s2 s6 s7 s8 wx=>s0=.pointer (some ⟨sb,0,none⟩)/\s2=.int .i64 ch/\s6=.pointer (some ⟨w.heap.size+1,0,none⟩)/\∃P Q,s7=.pointer (some ⟨P,0,none⟩)/\s8=.pointer (some ⟨Q,0,none⟩)/\TkB w1 wx (w.heap.size+1) P Q m)
 case first=>
  go_region_held3 (fun w'=>w'.cell? ⟨w,0,none⟩=some (.int .i64 i)/\w'.cell? ⟨w,1,none⟩=some (.int .i64 c))
   (first|with_reducible exact N.o _ j|with_reducible exact N.o _ (n _)|with_reducible exact N.o _ (q _ _)|with_reducible exact N.o _ C|with_reducible exact N.o _ (q1i C (Nat.le_of_eq D.o.symm) _)|with_reducible exact N.o _ (q1i (q1i C (Nat.le_of_eq D.o.symm) _) (Nat.le_of_eq D.o.symm) _)|with_reducible exact N.o _ (q4e C (by omega))|with_reducible exact N.o _ (q4e (q4e C (by omega)) (by omega))|with_reducible exact N.o _ (q4e (q1i C (Nat.le_of_eq D.o.symm) _) (by omega))|with_reducible exact N.o _ (q4e (q4e (q1i C (Nat.le_of_eq D.o.symm) _) (by omega)) (by omega)))
   (first|(go_at_call 274;go_fit Ac.o;rintro e w2⟨rfl,V⟩;have C:=Ai.o _ V)|(go_at_call 274;go_fit (Ad.o _);rintro e w2⟨rfl,V⟩;obtain⟨C,x0,x1,f0,f1,X⟩:=Aj.o _ _ V;have A3:=fun O=>ka x0 O;have A4:=fun O=>ka x1 O;have Ay:=fun O=>kaf (Nat.lt_of_succ_le X) f0 O;have Az:=fun O=>kaf (Nat.lt_of_succ_le X) f1 O)|(go_at_call 274;go_fit (Ae.o _ _);rintro e w2⟨rfl,V⟩;obtain⟨C,⟨x0,x1,f0,f1⟩,x2,x3,f2,f3⟩:=Ak.o _ _ _ V))
  all_goals
   go_wp2
   go_meet
   first
    | with_reducible exact⟨rfl,rfl,rfl,w2.heap.size,w2.heap.size+1,rfl,rfl,y9g (w2:=w2) (b:=w.heap.size+1) (m:=m) (T7:=280) (T8:=120) C D.o.symm⟩
    | with_reducible exact⟨rfl,rfl,rfl,w2.heap.size+1,w2.heap.size,rfl,rfl,y9h (w2:=w2) (b:=w.heap.size+1) (m:=m) (T7:=280) (T8:=120) C D.o.symm⟩
    | with_reducible exact⟨rfl,rfl,rfl,w.heap.size+1+1,w2.heap.size,rfl,rfl,y9i (w2:=w2) (b:=w.heap.size+1) (m:=m) (T8:=120) C D.o.symm x0 x1⟩
    | with_reducible exact⟨rfl,rfl,rfl,w2.heap.size,w.heap.size+1+1,rfl,rfl,y9j (w2:=w2) (b:=w.heap.size+1) (m:=m) (T7:=280) C D.o.symm x0 x1⟩
    | with_reducible exact⟨rfl,rfl,rfl,w.heap.size+1+1,w.heap.size+1+1+1,rfl,rfl,y9v (w2:=w2) (b:=w.heap.size+1) (m:=m) (a:=w.heap.size+1+1) (d:=w.heap.size+1+1+1) C (by omega) (by omega) (by omega) x0 x1 x2 x3⟩
    | with_reducible exact⟨rfl,rfl,rfl,w.heap.size+1+1+1,w.heap.size+1+1,rfl,rfl,y9v (w2:=w2) (b:=w.heap.size+1) (m:=m) (a:=w.heap.size+1+1+1) (d:=w.heap.size+1+1) C (by omega) (by omega) (by omega) x2 x3 x0 x1⟩
 case rest=>
  obtain⟨rfl,rfl,rfl,P,Q,rfl,rfl,hT⟩:=hcut;have G:Hid (TkF w wc P Q m):=y6s HK.o hT;have Ar:Hid (Inv sb g mb wd R wc.drew S):=HK.o.inv.kept3 (hT.bw.block _ (by omega)) (hT.bw.block _ (by omega)) (hT.bw.block _ (by omega));have Ab:Hid (q0j w mb w wc.drew):=(q0j.of (HK.o.bw.trans (hT.bw.mono (by omega)))).drew;have o0:wc.drew.cell? ⟨Q,0,none⟩=some (.int .i64 m.o):=G.o.o0;have o1:wc.drew.cell? ⟨Q,1,none⟩=some (.int .i64 m.l):=G.o.o1;have p0:wc.drew.cell? ⟨P,0,none⟩=some (.int .i64 m.np):=G.o.p0;have p1:wc.drew.cell? ⟨P,1,none⟩=some (.int .i64 m.nc):=G.o.p1;have Af:Hid (P≠w.heap.size+1):=(show P≠w.heap.size+1 by have:=G.o.n7;omega);have Ag:Hid (Q≠w.heap.size+1):=(show Q≠w.heap.size+1 by have:=G.o.n8;omega)
  have As:Hid (Calls prog 203 #[.pointer (some ⟨sb,0,none⟩),.agg #[.int .i64 m.np,.int .i64 m.nc]] wc.drew fun e w'=>e=.returned (.agg #[.int .i64 k.o,.int .i64 k.l,.int .i64 k.ch,.int .i64 k.np,.int .i64 k.nc])/\TkF w w' P Q m/\q0j w mb w w'/\∃r,Inv sb g mb wd R w' r/\(∀a b,S a b=true->r a b=true)/\(∀a b,r a b=true->S a b=true\/i+1<=a)/\(m.np<R.length->r m.np m.nc=true)):=by
   refine(Ah.o wc.drew S Ar.o).mono ?_;rintro e w6⟨rfl,K,r,hI,z,y,x⟩;have A2:=HM.o.lo;refine⟨rfl,G.o.kept (mb:=mb) ⟨K.os,K.tape,K.output,K.size,K.block⟩ Aq.2.2,Ab.o.trans (K.mono Ab.o.size),r,hI,z,fun a b hab=>?_,x⟩;rcases y a b hab with h|h
   ·exact .inl h
   ·exact .inr (by omega)
  have At:Hid (∀W,Calls prog 275 #[.agg #[.int .i64 m.o,.int .i64 m.l],.agg #[.int .i64 k.o,.int .i64 k.l]] W fun e w'=>e=.returned (.agg #[.int .i64 ((m.o+k.o:Nat):Int),.int .i64 ((m.l+k.l:Nat):Int)])/\Below W W w'):=fun W=>v0u m.o m.l k.o k.l (by omega) (by omega) Ax Aw W
  clear hT Ah Ac Ad Ae Ai Aj Ak N f j n q a0 a1 E;have A0:=j3j;go_wp2_with fail
  go_region_held3 (fun w'=>w'.cell? ⟨Q,0,none⟩=some (.int .i64 m.o)/\w'.cell? ⟨Q,1,none⟩=some (.int .i64 m.l)/\w'.cell? ⟨P,0,none⟩=some (.int .i64 m.np)/\w'.cell? ⟨P,1,none⟩=some (.int .i64 m.nc))
   (first|with_reducible exact⟨o0,o1,p0,p1⟩|with_reducible exact⟨U.o0,U.o1,U.p0,U.p1⟩|with_reducible exact⟨A.o0,A.o1,A.p0,A.p1⟩|with_reducible exact⟨k4r Ag.o A.o0,k4r Ag.o A.o1,k4r Af.o A.p0,k4r Af.o A.p1⟩)
   (first|(go_at_call 203;refine As.o.mono ?_;rintro e w6⟨rfl,U,Av⟩)|(go_at_call 275;refine(At.o _).mono ?_;rintro e w7⟨rfl,u⟩;have A:=U.kept (q0j.of u) Aq.2.2;have r0:=A.r0;have r1:=A.r1;have r2:=A.r2;have r3:=A.r3;have r4:=A.r4;have y0:w7.frozen? ⟨w.heap.size+1,0,none⟩=false:=A.fr.frozen;have y1:w7.frozen? ⟨w.heap.size+1,1,none⟩=false:=A.fr.frozen;have y2:w7.frozen? ⟨w.heap.size+1,2,none⟩=false:=A.fr.frozen;have y3:w7.frozen? ⟨w.heap.size+1,3,none⟩=false:=A.fr.frozen;have y4:w7.frozen? ⟨w.heap.size+1,4,none⟩=false:=A.fr.frozen))
  all_goals
   obtain⟨s,r,Au,z,y,x⟩:=Av;go_wp2;exact bodyPost_ret (v:=.agg #[.int .i64 ((m.o:Int)+k.o),.int .i64 ((m.l:Int)+k.l),.int .i64 ch,.int .i64 m.np,.int .i64 m.nc]) (by simp[results,Tryz.results256,go_sem,r0,r1,r2,r3,r4]) rfl ⟨rfl,k1x (s.trans (q0j.of (u.mono s.size))) (by omega) _ _ _ _ _,r,(Au.W u).set5 (by omega) (by omega) (by omega) _ _ _ _ _,z,y,x⟩
structure ChB(w wx:World)(i c:Nat)(q:Q):Prop where
 a0:wx.cell? ⟨w,0,none⟩=some (.int .i64 i)
 a1:wx.cell? ⟨w,1,none⟩=some (.int .i64 c)
 r0:wx.cell? ⟨w.heap.size+1,0,none⟩=some (.int .i64 0)
 r1:wx.cell? ⟨w.heap.size+1,1,none⟩=some (.int .i64 0)
 r2:wx.cell? ⟨w.heap.size+1,2,none⟩=some (.int .i64 0)
 r3:wx.cell? ⟨w.heap.size+1,3,none⟩=some (.int .i64 0)
 r4:wx.cell? ⟨w.heap.size+1,4,none⟩=some (.int .i64 0)
 fr:z2j wx (w.heap.size+1)
 q0:wx.cell? ⟨w.heap.size+1+1,0,none⟩=some (.int .i64 q.op)
 q1:wx.cell? ⟨w.heap.size+1+1,1,none⟩=some (.string q.tx)
 q2:wx.cell? ⟨w.heap.size+1+1,2,none⟩=some (.int .i64 q.n)
 q3:wx.cell? ⟨w.heap.size+1+1,3,none⟩=some (.int .i64 q.en)
 q4:wx.cell? ⟨w.heap.size+1+1,4,none⟩=some (.int .i64 q.nx)
 q5:wx.cell? ⟨w.heap.size+1+1,5,none⟩=some (.int .i64 q.dp)
 q6:wx.cell? ⟨w.heap.size+1+1,6,none⟩=some (.int .i64 q.lg)
 lt:w.heap.size+1+1<wx.heap.size
theorem ChB.kept{w wx wy:World}{i c mb:Nat}{q:Q}(h:ChB w wx i c q)(hb:q0j wx mb wx wy)(hm:mb<w.heap.size):ChB w wy i c q:=by
 have A:∀b o v,b≠mb->wx.cell? ⟨b,o,none⟩=some v->wy.cell? ⟨b,o,none⟩=some v:=fun b o v he hv=>(hb.cell (p:=⟨b,o,none⟩) (World.block_lt_of_cell? wx ⟨b,o,none⟩ hv) he).trans hv
 exact⟨A _ _ _ (by omega) h.a0,A _ _ _ (by omega) h.a1,A _ _ _ (by omega) h.r0,A _ _ _ (by omega) h.r1,A _ _ _ (by omega) h.r2,A _ _ _ (by omega) h.r3,A _ _ _ (by omega) h.r4,h.fr.kept (hb.block _ h.fr.lt (by omega)),
  A _ _ _ (by omega) h.q0,A _ _ _ (by omega) h.q1,A _ _ _ (by omega) h.q2,A _ _ _ (by omega) h.q3,A _ _ _ (by omega) h.q4,A _ _ _ (by omega) h.q5,A _ _ _ (by omega) h.q6,Nat.lt_of_lt_of_le h.lt hb.size⟩
theorem j2d{sb g mb wd i c:Nat}{R:List Pl}{S:Nat->Nat->Bool}{w w1:World}(h:Sk1 sb g mb wd i c R S w w1)(q:Q):ChB w (w1.alloc (q4u q)).drew i c q:=by
 have A:=heap_alloc_new w1 (q4u q);rw[h.sz]at A;have B:∀o v,(w1.alloc (q4u q)).cell? ⟨w.heap.size+1+1,o,none⟩=v->(w1.alloc (q4u q)).drew.cell? ⟨w.heap.size+1+1,o,none⟩=v:=fun _ _ h=>h
 refine⟨ka h.a0 _,ka h.a1 _,ka h.r0 _,ka h.r1 _,ka h.r2 _,ka h.r3 _,ka h.r4 _,h.fr.kept (Below.heap_alloc _ _ _ h.fr.lt),B _ _ ?_,B _ _ ?_,B _ _ ?_,B _ _ ?_,B _ _ ?_,B _ _ ?_,B _ _ ?_,?_⟩
 ·simp[World.cell?,A,q4u]
 ·simp[World.cell?,A,q4u]
 ·simp[World.cell?,A,q4u]
 ·simp[World.cell?,A,q4u]
 ·simp[World.cell?,A,q4u]
 ·simp[World.cell?,A,q4u]
 ·simp[World.cell?,A,q4u]
 ·show w.heap.size+1+1<(w1.alloc (q4u q)).heap.size;simp[h.sz]
theorem k2b{R:List Pl}{L M i nx dp wd c:Nat}{ks:List (Nat × Tr)}{t:Tr}(sb g mb:Nat)(Z:Sp R L M i t nx dp ks)(V:(q2 (q1e R i)).lg=-1)(hT:z4m sb g mb wd R i c 1)(w:World)(S:Nat->Nat->Bool)(h:Inv sb g mb wd R w S):
  Calls prog 231 #[.pointer (some ⟨sb,0,none⟩),.agg #[.int .i64 i,.int .i64 c]] w fun e w'=>e=.returned (cvV (tkC R wd i c 1))/\Left sb g mb wd R S (i+1) (tkC R wd i c 1).np (tkC R wd i c 1).nc w w':=by
 have H:Hid (Inv sb g mb wd R w S):=h;have p:=h.lt;have hi:i<R.length:=Z.lt;have Aa:(i:Int)<(R.length:Int):=by omega
 have Ab:(0:Int)<=(i:Int):=by omega
 have x:Hid (∀W,q4z W sb g wd R->z2i W g i (q2 (q1e R i))):=fun W m=>m.pr.get i hi
 have y:Hid (z4m sb g mb wd R i c 1):=hT;have k:Hid ((q2 (q1e R i)).lg=-1):=V;clear hT V;rw[cvV];clear h Z;generalize q2 (q1e R i)=q at *;go_in;go_wp2_with fail;have I:Sk1 sb g mb wd i c R S w ((w.alloc (.cells #[.int .i64 i,.int .i64 c] 280)).alloc (.cells #[.int .i64 0,.int .i64 0,.int .i64 0,.int .i64 0,.int .i64 0] 282)):=z6a (nq:=0) H.o
 generalize(w.alloc (.cells #[.int .i64 i,.int .i64 c] 280)).alloc (.cells #[.int .i64 0,.int .i64 0,.int .i64 0,.int .i64 0,.int .i64 0] 282)=w1 at *
 have C:Hid (Sk1 sb g mb wd i c R S w w1):=I;have r:=I.sz
 have E:∀W:World,W=w1.drew\/(∃O,W=(w1.alloc O).drew)->W.cell? ⟨sb,0,none⟩=some (.slice (some ⟨g,0,none⟩) R.length R.length)/\W.cell? ⟨w,0,none⟩=some (.int .i64 i)/\W.cell? ⟨g,i*7,none⟩=some (.int .i64 q.op)/\W.cell? ⟨g,i*7+1,none⟩=some (.string q.tx)/\W.cell? ⟨g,i*7+2,none⟩=some (.int .i64 q.n)/\W.cell? ⟨g,i*7+3,none⟩=some (.int .i64 q.en)/\W.cell? ⟨g,i*7+4,none⟩=some (.int .i64 q.nx)/\W.cell? ⟨g,i*7+5,none⟩=some (.int .i64 q.dp)/\W.cell? ⟨g,i*7+6,none⟩=some (.int .i64 q.lg):=by
  intro W m
  have D:q4z W sb g wd R/\W.cell? ⟨w,0,none⟩=some (.int .i64 i):=by
   rcases m with rfl|⟨O,rfl⟩
   ·exact⟨C.o.inv.pl.kept rfl rfl,C.o.a0⟩
   ·exact⟨(C.o.inv.pl.alloc O).kept rfl rfl,ka C.o.a0 O⟩
  obtain⟨d0,d1,d2,d3,d4,d5,d6⟩:=x.o W D.1;exact⟨D.1.c0,D.2,d0,d1,d2,d3,d4,d5,d6⟩
 have P:=E w1.drew (.inl rfl);have Q:=fun O=>E (w1.alloc O).drew (.inr ⟨O,rfl⟩)
 have B:Hid (ChB w (w1.alloc (q4u q)).drew i c q):=j2d C.o q;have j:Hid (Inv sb g mb wd R (w1.alloc (q4u q)).drew S):=(C.o.inv.alloc _).kept fun _ _=>rfl
 have K:Hid (q0j w mb w (w1.alloc (q4u q)).drew):=(q0j.of (C.o.bw.alloc C.o.bw.size _)).drew;clear I E
 go_region_held3 (fun w'=>w'.cell? ⟨sb,0,none⟩=some (.slice (some ⟨g,0,none⟩) R.length R.length)/\w'.cell? ⟨w,0,none⟩=some (.int .i64 i)/\w'.cell? ⟨g,i*7,none⟩=some (.int .i64 q.op)/\w'.cell? ⟨g,i*7+1,none⟩=some (.string q.tx)/\w'.cell? ⟨g,i*7+2,none⟩=some (.int .i64 q.n)/\w'.cell? ⟨g,i*7+3,none⟩=some (.int .i64 q.en)/\w'.cell? ⟨g,i*7+4,none⟩=some (.int .i64 q.nx)/\w'.cell? ⟨g,i*7+5,none⟩=some (.int .i64 q.dp)/\w'.cell? ⟨g,i*7+6,none⟩=some (.int .i64 q.lg))
  (first|with_reducible exact P|with_reducible exact Q _) (fail)
 all_goals
  generalize(w1.alloc (.cells #[.int .i64 q.op,.string q.tx,.int .i64 q.n,.int .i64 q.en,.int .i64 q.nx,.int .i64 q.dp,.int .i64 q.lg] 306)).drew=w2 at *
  have z:=B.o.a0;have a1:=B.o.a1;have u:=B.o.q6;clear P Q r;rw[k.o]at u;go_wp2_with fail;refine(y.o w2 S j.o).mono ?_;rintro e J⟨rfl,G,N,s,Y,X,U⟩;rw[cvV];have A:=B.o.kept G p.2.2;have r0:=A.r0;have r1:=A.r1;have r2:=A.r2;have r3:=A.r3;have r4:=A.r4;have y0:J.frozen? ⟨w.heap.size+1,0,none⟩=false:=A.fr.frozen;have y1:J.frozen? ⟨w.heap.size+1,1,none⟩=false:=A.fr.frozen;have y2:J.frozen? ⟨w.heap.size+1,2,none⟩=false:=A.fr.frozen;have y3:J.frozen? ⟨w.heap.size+1,3,none⟩=false:=A.fr.frozen;have y4:J.frozen? ⟨w.heap.size+1,4,none⟩=false:=A.fr.frozen;have f:Hid (q0j w mb w J):=K.o.trans (G.mono K.o.size);have d:Hid (Inv sb g mb wd R J N/\(∀a b,S a b=true->N a b=true)/\(∀a b,N a b=true->S a b=true\/i+1<=a)/\((q2p R wd i c 1).np<R.length->N (q2p R wd i c 1).np (q2p R wd i c 1).nc=true)):=⟨s,Y,X,U⟩;clear G s Y X U A z a1 u;go_wp2;exact bodyPost_ret (v:=.agg #[.int .i64 (tkC R wd i c 1).o,.int .i64 (tkC R wd i c 1).l,.int .i64 (tkC R wd i c 1).ch,.int .i64 (tkC R wd i c 1).np,.int .i64 (tkC R wd i c 1).nc]) (by simp[results,Tryz.results231,go_sem,r0,r1,r2,r3,r4]) rfl ⟨rfl,k1x f.o (by omega) _ _ _ _ _,N,d.o.1.set5 (by omega) (by omega) (by omega) _ _ _ _ _,d.o.2.1,d.o.2.2.1,d.o.2.2.2⟩
theorem z8y{R:List Pl}{L M i nx dp wd c:Nat}{ks:List (Nat × Tr)}{t:Tr}(sb g mb:Nat)(r:Sp R L M i t nx dp ks)(Ad:((q2 (q1e R i)).lg==-1)=false)(Aa:z0l (q2 (q1e R i)).op=false)(f:z4m sb g mb wd R i c 0)(w:World)(S:Nat->Nat->Bool)(h:Inv sb g mb wd R w S):
  Calls prog 231 #[.pointer (some ⟨sb,0,none⟩),.agg #[.int .i64 i,.int .i64 c]] w fun e w'=>e=.returned (cvV (tkC R wd i c 0))/\Left sb g mb wd R S (i+1) (tkC R wd i c 0).np (tkC R wd i c 0).nc w w':=by
 have H:Hid (Inv sb g mb wd R w S):=h;have Q:=h.lt;have hi:i<R.length:=r.lt;have Ac:(i:Int)<(R.length:Int):=by omega
 have Ae:(0:Int)<=(i:Int):=by omega
 have HQ:Hid (∀W,q4z W sb g wd R->z2i W g i (q2 (q1e R i))):=fun W hW=>hW.pr.get i hi
 have z:Hid (z4m sb g mb wd R i c 0):=f;clear f;rw[cvV];clear h r;generalize q2 (q1e R i)=q at *;go_in;go_wp2_with fail;have U:Sk1 sb g mb wd i c R S w ((w.alloc (.cells #[.int .i64 i,.int .i64 c] 280)).alloc (.cells #[.int .i64 0,.int .i64 0,.int .i64 0,.int .i64 0,.int .i64 0] 282)):=z6a (nq:=0) H.o
 generalize(w.alloc (.cells #[.int .i64 i,.int .i64 c] 280)).alloc (.cells #[.int .i64 0,.int .i64 0,.int .i64 0,.int .i64 0,.int .i64 0] 282)=w1 at *
 have I:Hid (Sk1 sb g mb wd i c R S w w1):=U;have Ab:=U.sz
 have N:∀W:World,W=w1.drew\/(∃O,W=(w1.alloc O).drew)->W.cell? ⟨sb,0,none⟩=some (.slice (some ⟨g,0,none⟩) R.length R.length)/\W.cell? ⟨w,0,none⟩=some (.int .i64 i)/\W.cell? ⟨g,i*7,none⟩=some (.int .i64 q.op)/\W.cell? ⟨g,i*7+1,none⟩=some (.string q.tx)/\W.cell? ⟨g,i*7+2,none⟩=some (.int .i64 q.n)/\W.cell? ⟨g,i*7+3,none⟩=some (.int .i64 q.en)/\W.cell? ⟨g,i*7+4,none⟩=some (.int .i64 q.nx)/\W.cell? ⟨g,i*7+5,none⟩=some (.int .i64 q.dp)/\W.cell? ⟨g,i*7+6,none⟩=some (.int .i64 q.lg):=by
  intro W hW
  have K:q4z W sb g wd R/\W.cell? ⟨w,0,none⟩=some (.int .i64 i):=by
   rcases hW with rfl|⟨O,rfl⟩
   ·exact⟨I.o.inv.pl.kept rfl rfl,I.o.a0⟩
   ·exact⟨(I.o.inv.pl.alloc O).kept rfl rfl,ka I.o.a0 O⟩
  obtain⟨d0,d1,d2,d3,d4,d5,d6⟩:=HQ.o W K.1;exact⟨K.1.c0,K.2,d0,d1,d2,d3,d4,d5,d6⟩
 have Z:=N w1.drew (.inl rfl);have d:=fun O=>N (w1.alloc O).drew (.inr ⟨O,rfl⟩)
 have G:Hid (ChB w (w1.alloc (q4u q)).drew i c q):=j2d I.o q;have x:Hid (Inv sb g mb wd R (w1.alloc (q4u q)).drew S):=(I.o.inv.alloc _).kept fun _ _=>rfl
 have X:Hid (q0j w mb w (w1.alloc (q4u q)).drew):=(q0j.of (I.o.bw.alloc I.o.bw.size _)).drew;clear U N
 go_region_held3 (fun w'=>w'.cell? ⟨sb,0,none⟩=some (.slice (some ⟨g,0,none⟩) R.length R.length)/\w'.cell? ⟨w,0,none⟩=some (.int .i64 i)/\w'.cell? ⟨g,i*7,none⟩=some (.int .i64 q.op)/\w'.cell? ⟨g,i*7+1,none⟩=some (.string q.tx)/\w'.cell? ⟨g,i*7+2,none⟩=some (.int .i64 q.n)/\w'.cell? ⟨g,i*7+3,none⟩=some (.int .i64 q.en)/\w'.cell? ⟨g,i*7+4,none⟩=some (.int .i64 q.nx)/\w'.cell? ⟨g,i*7+5,none⟩=some (.int .i64 q.dp)/\w'.cell? ⟨g,i*7+6,none⟩=some (.int .i64 q.lg))
  (first|with_reducible exact Z|with_reducible exact d _) (fail)
 all_goals
  generalize(w1.alloc (.cells #[.int .i64 q.op,.string q.tx,.int .i64 q.n,.int .i64 q.en,.int .i64 q.nx,.int .i64 q.dp,.int .i64 q.lg] 306)).drew=w2 at *
  have a0:=G.o.a0;have a1:=G.o.a1;have q6:=G.o.q6;clear Z d Ab;go_wp2_with fail;refine(z.o w2 S x.o).mono ?_;rintro e D⟨rfl,P,V,hI,m,k,j⟩;rw[cvV];have C:=G.o.kept P Q.2.2;have J:Hid (q0j w mb w D):=X.o.trans (P.mono X.o.size);have s:Hid (Inv sb g mb wd R D V/\(∀a b,S a b=true->V a b=true)/\(∀a b,V a b=true->S a b=true\/i+1<=a)/\((tkC R wd i c 0).np<R.length->V (tkC R wd i c 0).np (tkC R wd i c 0).nc=true)):=⟨hI,m,k,j⟩;have u0:=fun O=>ka C.q0 O
  have u1:=fun O=>ka C.q1 O
  have u2:=fun O=>ka C.q2 O
  have u3:=fun O=>ka C.q3 O
  have u4:=fun O=>ka C.q4 O
  have u5:=fun O=>ka C.q5 O
  have u6:=fun O=>ka C.q6 O
  have Y:Hid (ChB w D i c q):=C;clear P hI m k j C a0 a1 q6;go_wp2_with fail;refine(q8j q.op q.tx q.n q.en q.nx q.dp q.lg _).mono ?_;rintro e E⟨rfl,B⟩;rw[Aa];have Af:D.heap.size<E.heap.size:=by have:=B.size;simp at this;omega
  have A:Hid (ChB w E i c q):=(Y.o.kept (mb:=mb) (q0j.of ((Below.refl _ D).alloc Zl _)) Q.2.2).kept (q0j.of B) Q.2.2;have y:Hid (Inv sb g mb wd R E V):=(s.o.1.alloc _).W B;have u:Hid (q0j w mb w E):=(J.o.alloc (by have:=J.o.size;omega) _).trans (q0j.of (B.mono (by have:=J.o.size;simp;omega)));have s0:E.cell? ⟨D,0,none⟩=some (.int .i64 (tkC R wd i c 0).o):=(B.cell (p:=⟨D,0,none⟩) (by simp)).trans (by simp[go_sem]);have s1:E.cell? ⟨D,1,none⟩=some (.int .i64 (tkC R wd i c 0).l):=(B.cell (p:=⟨D,1,none⟩) (by simp)).trans (by simp[go_sem]);have s2:E.cell? ⟨D,2,none⟩=some (.int .i64 (tkC R wd i c 0).ch):=(B.cell (p:=⟨D,2,none⟩) (by simp)).trans (by simp[go_sem]);have s3:E.cell? ⟨D,3,none⟩=some (.int .i64 (tkC R wd i c 0).np):=(B.cell (p:=⟨D,3,none⟩) (by simp)).trans (by simp[go_sem]);have s4:E.cell? ⟨D,4,none⟩=some (.int .i64 (tkC R wd i c 0).nc):=(B.cell (p:=⟨D,4,none⟩) (by simp)).trans (by simp[go_sem]);have r0:=A.o.r0;have r1:=A.o.r1;have r2:=A.o.r2;have r3:=A.o.r3;have r4:=A.o.r4;have y0:E.frozen? ⟨w.heap.size+1,0,none⟩=false:=A.o.fr.frozen;have y1:E.frozen? ⟨w.heap.size+1,1,none⟩=false:=A.o.fr.frozen;have y2:E.frozen? ⟨w.heap.size+1,2,none⟩=false:=A.o.fr.frozen;have y3:E.frozen? ⟨w.heap.size+1,3,none⟩=false:=A.o.fr.frozen;have y4:E.frozen? ⟨w.heap.size+1,4,none⟩=false:=A.o.fr.frozen;clear u0 u1 u2 u3 u4 u5 u6 B;go_wp2;exact bodyPost_ret (v:=.agg #[.int .i64 (tkC R wd i c 0).o,.int .i64 (tkC R wd i c 0).l,.int .i64 (tkC R wd i c 0).ch,.int .i64 (tkC R wd i c 0).np,.int .i64 (tkC R wd i c 0).nc]) (by simp[results,Tryz.results231,go_sem,r0,r1,r2,r3,r4]) rfl ⟨rfl,k1x u.o (by omega) _ _ _ _ _,V,y.o.set5 (by omega) (by omega) (by omega) _ _ _ _ _,s.o.2.1,s.o.2.2.1,s.o.2.2.2⟩
end Go.Proofs.YtelcnplcpboonaaGreatDoor
