import Derived.Test.YthcpdohdppkmkaaGreatDoorPl09
import Derived.Deep.DeepFit
open Go.Proofs.Tryz
namespace Go.Proofs.YthcpdohdppkmkaaGreatDoor
open Go Go.RowKit
set_option maxRecDepth 100000
set_option maxHeartbeats 8000000
theorem j3x(a b c d e:Value)(w:World):(Instr.field 123 (.agg #[a,b,c,d,e]) 0).run prog w=.ok (.agg #[a,b]) w:=by kernel_rfl
theorem k3o(a b c d e:Value)(w:World):(Instr.field 123 (.agg #[a,b,c,d,e]) 1).run prog w=.ok c w:=by kernel_rfl
theorem j3y(a b c d e:Value)(w:World):(Instr.field 123 (.agg #[a,b,c,d,e]) 2).run prog w=.ok (.agg #[d,e]) w:=by kernel_rfl
structure TkB(w1 wx:World)(b b7 b8:Nat)(m:Mv):Prop where
 p0:wx.cell? ⟨b7,0,none⟩=some (.int .i64 m.np)
 p1:wx.cell? ⟨b7,1,none⟩=some (.int .i64 m.nc)
 o0:wx.cell? ⟨b8,0,none⟩=some (.int .i64 m.o)
 o1:wx.cell? ⟨b8,1,none⟩=some (.int .i64 m.l)
 n7:b<b7
 n8:b<b8
 bw:Below (b+1) w1 wx
theorem q1v{w1 w2:World}{n:Nat}(h:Below n w1 w2)(hn:n<=w1.heap.size)(O:Obj):Below n w1 (w2.alloc O):=h.alloc (Nat.le_trans hn h.size) O
section
variable {w1 w2:World} {b:Nat} {m:Mv} {T7 T8:TypeId}
theorem y9i(h:Below (b+1) w1 w2)(hb:b+1=w1.heap.size):TkB w1 ((w2.alloc (.cells #[.int .i64 m.np,.int .i64 m.nc] T7)).alloc (.cells #[.int .i64 m.o,.int .i64 m.l] T8)) b w2.heap.size (w2.heap.size+1) m:=
 have hs:=h.size
 ⟨by simp[go_sem],by simp[go_sem],by simp[go_sem],by simp[go_sem],by omega,by omega,q1v (q1v h (by omega) _) (by omega) _⟩
theorem y9j(h:Below (b+1) w1 w2)(hb:b+1=w1.heap.size):TkB w1 ((w2.alloc (.cells #[.int .i64 m.o,.int .i64 m.l] T8)).alloc (.cells #[.int .i64 m.np,.int .i64 m.nc] T7)) b (w2.heap.size+1) w2.heap.size m:=
 have hs:=h.size
 ⟨by simp[go_sem],by simp[go_sem],by simp[go_sem],by simp[go_sem],by omega,by omega,q1v (q1v h (by omega) _) (by omega) _⟩
theorem z5c{W:World}{a:Nat}{u0 u1 v0 v1:Value}(h0:W.cell? ⟨a,0,none⟩=some u0)(h1:W.cell? ⟨a,1,none⟩=some u1):((W.setCell ⟨a,0,none⟩ v0).setCell ⟨a,1,none⟩ v1).cell? ⟨a,0,none⟩=some v0/\((W.setCell ⟨a,0,none⟩ v0).setCell ⟨a,1,none⟩ v1).cell? ⟨a,1,none⟩=some v1:=
 ⟨(cso (by omega)).trans (css h0),css ((cso (by omega)).trans h1)⟩
theorem q4z{n a:Nat}{v0 v1:Value}(h:Below n w1 w2)(hn:n<=a):Below n w1 ((w2.setCell ⟨a,0,none⟩ v0).setCell ⟨a,1,none⟩ v1):=(h.setCell (p:=⟨a,0,none⟩) hn _).setCell (p:=⟨a,1,none⟩) hn _
theorem z6e{W:World}{a d:Nat}{u0 u1 s0 s1 v0 v1 t0 t1:Value}(A:a≠d)(h0:W.cell? ⟨a,0,none⟩=some u0)(h1:W.cell? ⟨a,1,none⟩=some u1)(k0:W.cell? ⟨d,0,none⟩=some s0)(k1:W.cell? ⟨d,1,none⟩=some s1):
  ((((W.setCell ⟨a,0,none⟩ v0).setCell ⟨a,1,none⟩ v1).setCell ⟨d,0,none⟩ t0).setCell ⟨d,1,none⟩ t1).cell? ⟨a,0,none⟩=some v0/\((((W.setCell ⟨a,0,none⟩ v0).setCell ⟨a,1,none⟩ v1).setCell ⟨d,0,none⟩ t0).setCell ⟨d,1,none⟩ t1).cell? ⟨a,1,none⟩=some v1/\((((W.setCell ⟨a,0,none⟩ v0).setCell ⟨a,1,none⟩ v1).setCell ⟨d,0,none⟩ t0).setCell ⟨d,1,none⟩ t1).cell? ⟨d,0,none⟩=some t0/\((((W.setCell ⟨a,0,none⟩ v0).setCell ⟨a,1,none⟩ v1).setCell ⟨d,0,none⟩ t0).setCell ⟨d,1,none⟩ t1).cell? ⟨d,1,none⟩=some t1:=by
 obtain⟨B,C⟩:=z5c (v0:=v0) (v1:=v1) h0 h1;obtain⟨D,E⟩:=z5c (W:=(W.setCell ⟨a,0,none⟩ v0).setCell ⟨a,1,none⟩ v1) (v0:=t0) (v1:=t1) ((cso (.inl A)).trans ((cso (.inl A)).trans k0)) ((cso (.inl A)).trans ((cso (.inl A)).trans k1));exact⟨(cso (.inl A.symm)).trans ((cso (.inl A.symm)).trans B),(cso (.inl A.symm)).trans ((cso (.inl A.symm)).trans C),D,E⟩
theorem y9k{u0 u1:Value}(h:Below (b+1) w1 w2)(hb:b+1=w1.heap.size)(x0:w2.cell? ⟨b+1,0,none⟩=some u0)(x1:w2.cell? ⟨b+1,1,none⟩=some u1):
  TkB w1 (((((w2.alloc (.cells #[.int .i64 0,.int .i64 0] T8)).setCell ⟨b+1,0,none⟩ (.int .i64 m.np)).setCell ⟨b+1,1,none⟩ (.int .i64 m.nc)).setCell ⟨w2,0,none⟩ (.int .i64 m.o)).setCell ⟨w2,1,none⟩ (.int .i64 m.l)) b (b+1) w2.heap.size m:=by
 have A:=World.block_lt_of_cell? w2 ⟨b+1,0,none⟩ x0;have B:b+1<w2.heap.size:=A;obtain⟨C,D,E,G⟩:=z6e (W:=w2.alloc (.cells #[.int .i64 0,.int .i64 0] T8)) (a:=b+1) (d:=w2.heap.size) (s0:=.int .i64 0) (s1:=.int .i64 0) (v0:=.int .i64 m.np) (v1:=.int .i64 m.nc) (t0:=.int .i64 m.o) (t1:=.int .i64 m.l) (by omega) (ka x0 _) (ka x1 _) (by simp[go_sem]) (by simp[go_sem]);exact⟨C,D,E,G,by omega,by omega,q4z (q4z (q1v h (by omega) _) (by omega)) (by omega)⟩
theorem y9l{u0 u1:Value}(h:Below (b+1) w1 w2)(hb:b+1=w1.heap.size)(x0:w2.cell? ⟨b+1,0,none⟩=some u0)(x1:w2.cell? ⟨b+1,1,none⟩=some u1):
  TkB w1 (((w2.alloc (.cells #[.int .i64 m.np,.int .i64 m.nc] T7)).setCell ⟨b+1,0,none⟩ (.int .i64 m.o)).setCell ⟨b+1,1,none⟩ (.int .i64 m.l)) b w2.heap.size (b+1) m:=by
 have A:=World.block_lt_of_cell? w2 ⟨b+1,0,none⟩ x0;have B:b+1<w2.heap.size:=A;obtain⟨C,D⟩:=z5c (W:=w2.alloc (.cells #[.int .i64 m.np,.int .i64 m.nc] T7)) (v0:=.int .i64 m.o) (v1:=.int .i64 m.l) (ka x0 _) (ka x1 _);exact⟨(cso (by omega)).trans ((cso (by omega)).trans (by simp[go_sem])),(cso (by omega)).trans ((cso (by omega)).trans (by simp[go_sem])),C,D,by omega,by omega,q4z (q1v h (by omega) _) (by omega)⟩
theorem y9x{a d:Nat}{u0 u1 s0 s1:Value}(h:Below (b+1) w1 w2)(A:a≠d)(ha:b<a)(hd:b<d)(h0:w2.cell? ⟨a,0,none⟩=some u0)(h1:w2.cell? ⟨a,1,none⟩=some u1)(k0:w2.cell? ⟨d,0,none⟩=some s0)(k1:w2.cell? ⟨d,1,none⟩=some s1):
  TkB w1 ((((w2.setCell ⟨a,0,none⟩ (.int .i64 m.np)).setCell ⟨a,1,none⟩ (.int .i64 m.nc)).setCell ⟨d,0,none⟩ (.int .i64 m.o)).setCell ⟨d,1,none⟩ (.int .i64 m.l)) b a d m:=by
 obtain⟨B,C,D,E⟩:=z6e (v0:=.int .i64 m.np) (v1:=.int .i64 m.nc) (t0:=.int .i64 m.o) (t1:=.int .i64 m.l) A h0 h1 k0 k1;exact⟨B,C,D,E,ha,hd,q4z (q4z h (by omega)) (by omega)⟩
end
theorem k5y{W:World}{b b' o:Nat}{v v0 v1 v2 v3 v4:Value}(hb:b≠b')(h:W.cell? ⟨b,o,none⟩=some v):(((((W.setCell ⟨b',0,none⟩ v0).setCell ⟨b',1,none⟩ v1).setCell ⟨b',2,none⟩ v2).setCell ⟨b',3,none⟩ v3).setCell ⟨b',4,none⟩ v4).cell? ⟨b,o,none⟩=some v:=
 (cso (.inl hb.symm)).trans ((cso (.inl hb.symm)).trans ((cso (.inl hb.symm)).trans ((cso (.inl hb.symm)).trans ((cso (.inl hb.symm)).trans h))))
structure TkF(w wx:World)(b7 b8:Nat)(m:Mv):Prop where
 p0:wx.cell? ⟨b7,0,none⟩=some (.int .i64 m.np)
 p1:wx.cell? ⟨b7,1,none⟩=some (.int .i64 m.nc)
 o0:wx.cell? ⟨b8,0,none⟩=some (.int .i64 m.o)
 o1:wx.cell? ⟨b8,1,none⟩=some (.int .i64 m.l)
 r0:wx.cell? ⟨w.heap.size+1,0,none⟩=some (.int .i64 0)
 r1:wx.cell? ⟨w.heap.size+1,1,none⟩=some (.int .i64 0)
 r2:wx.cell? ⟨w.heap.size+1,2,none⟩=some (.int .i64 0)
 r3:wx.cell? ⟨w.heap.size+1,3,none⟩=some (.int .i64 0)
 r4:wx.cell? ⟨w.heap.size+1,4,none⟩=some (.int .i64 0)
 fr:q7n wx (w.heap.size+1)
 n7:w.heap.size+1<b7
 n8:w.heap.size+1<b8
theorem TkF.kept{w wx wy:World}{b7 b8 mb:Nat}{m:Mv}(h:TkF w wx b7 b8 m)(hb:q0v wx mb wx wy)(hm:mb<w.heap.size):TkF w wy b7 b8 m:=by
 have B:=h.n7;have C:=h.n8;have A:∀b o v,b≠mb->wx.cell? ⟨b,o,none⟩=some v->wy.cell? ⟨b,o,none⟩=some v:=fun b o v he hv=>(hb.cell (p:=⟨b,o,none⟩) (World.block_lt_of_cell? wx ⟨b,o,none⟩ hv) he).trans hv
 exact⟨A _ _ _ (by omega) h.p0,A _ _ _ (by omega) h.p1,A _ _ _ (by omega) h.o0,A _ _ _ (by omega) h.o1,A _ _ _ (by omega) h.r0,A _ _ _ (by omega) h.r1,A _ _ _ (by omega) h.r2,A _ _ _ (by omega) h.r3,A _ _ _ (by omega) h.r4,h.fr.kept (hb.block _ h.fr.lt (by omega)),B,C⟩
theorem y6p{sb g mb wd i c b7 b8:Nat}{R:List Pl}{S:Nat->Nat->Bool}{w w1 wx:World}{m:Mv}(h:Sk1 sb g mb wd i c R S w w1)(hT:TkB w1 wx (w.heap.size+1) b7 b8 m):TkF w wx b7 b8 m:=by
 have A:∀o v,w1.cell? ⟨w.heap.size+1,o,none⟩=some v->wx.cell? ⟨w.heap.size+1,o,none⟩=some v:=fun o v hv=>(hT.bw.cell (p:=⟨w.heap.size+1,o,none⟩) (by simp)).trans hv
 exact⟨hT.p0,hT.p1,hT.o0,hT.o1,A _ _ h.r0,A _ _ h.r1,A _ _ h.r2,A _ _ h.r3,A _ _ h.r4,h.fr.kept (hT.bw.block _ (by omega)),hT.n7,hT.n8⟩
theorem v6n{R:List Pl}{L M i nx dp wd c ch:Nat}{ks:List (Nat × Tr)}{t:Tr}(sb g mb:Nat)(hR:R.length<=400)(Aa:Sp R L M i t nx dp ks)(hc:c<=wd)(hw:wd<=100)(hL:L<=400)(hM:M<=3200)(An:ch=0\/ch=1)(hh:t.lg=-1->ch=1)
  (Am:j1v sb g mb wd R (q3i R wd i c ch).np (q3i R wd i c ch).nc) (hV:∃k:Cv,k=(if(q3i R wd i c ch).np<R.length then crs R wd (q3i R wd i c ch).np (q3i R wd i c ch).nc else zCv)/\k.o=(vv R wd (q3i R wd i c ch).np (q3i R wd i c ch).nc).1.1/\k.l=(vv R wd (q3i R wd i c ch).np (q3i R wd i c ch).nc).1.2/\k.o<=400000/\k.l<=400000):z5l sb g mb wd R i c ch:=by
 intro w S h;have H:Hid (Inv sb g mb wd R w S):=h;have Aq:=h.lt;obtain⟨k,hk,Ap,Ao,Ax,Aw⟩:=hV;have hm:=j6u (ch:=ch) Aa hc hw hL hM;have Z:Hid (∀W:World,q6a W sb g wd R->Calls prog 217 #[.pointer (some ⟨sb,0,none⟩),.agg #[.int .i64 i,.int .i64 c],.int .i64 ch] W fun e w'=>e=.returned (.tuple #[.agg #[.int .i64 (q3i R wd i c ch).np,.int .i64 (q3i R wd i c ch).nc],.agg #[.int .i64 (q3i R wd i c ch).o,.int .i64 (q3i R wd i c ch).l]])/\Below W W w'):=fun W hW=>j2r sb g W hR Aa hc hw hL hM An hh hW
 have Ah:Hid (∀W S,Inv sb g mb wd R W S->Calls prog 63 #[.pointer (some ⟨sb,0,none⟩),.agg #[.int .i64 (q3i R wd i c ch).np,.int .i64 (q3i R wd i c ch).nc]] W fun e w'=>e=.returned (.agg #[.int .i64 k.o,.int .i64 k.l,.int .i64 k.ch,.int .i64 k.np,.int .i64 k.nc])/\Left sb g mb wd R S (q3i R wd i c ch).np (q3i R wd i c ch).np (q3i R wd i c ch).nc W w'):=fun W S hW=>by
  have:=Am W S hW
  rw[<-hk]at this;exact this
 have Al:tkC R wd i c ch=⟨(q3i R wd i c ch).o+k.o,(q3i R wd i c ch).l+k.l,ch,(q3i R wd i c ch).np,(q3i R wd i c ch).nc⟩:=by rw[tkC,j3m,Ap,Ao]
 rw[Al,cvV];dsimp only;clear hk Ap Ao Am Al h;generalize q3i R wd i c ch=m at *;have HM:Hid (y9r R wd i m):=hm;have ho:=hm.bo;have A1:=hm.bl;clear hm;go_in;go_wp2_with fail;have Y:Sk1 sb g mb wd i c R S w ((w.alloc (.cells #[.int .i64 i,.int .i64 c] 121)).alloc (.cells #[.int .i64 0,.int .i64 0,.int .i64 0,.int .i64 0,.int .i64 0] 123)):=z6w (nq:=0) H.o
 generalize(w.alloc (.cells #[.int .i64 i,.int .i64 c] 121)).alloc (.cells #[.int .i64 0,.int .i64 0,.int .i64 0,.int .i64 0,.int .i64 0] 123)=w1 at *
 have HK:Hid (Sk1 sb g mb wd i c R S w w1):=Y;have a0:=Y.a0;have a1:=Y.a1;have E:=Y.sz;clear Y
 have N:Hid (∀W,Below (w.heap.size+1+1) w1 W->W.cell? ⟨w,0,none⟩=some (.int .i64 i)/\W.cell? ⟨w,1,none⟩=some (.int .i64 c)):=fun W hb=>
  ⟨(hb.cell (p:=⟨w,0,none⟩) (by simp;omega)).trans a0,(hb.cell (p:=⟨w,1,none⟩) (by simp;omega)).trans a1⟩
 have j:Below (w.heap.size+1+1) w1 w1.drew:=(Below.refl _ w1).drew;have n:∀O,Below (w.heap.size+1+1) w1 (w1.alloc O).drew:=fun O=>(q1v (Below.refl _ w1) (by omega) O).drew
 have q:∀O1 O2,Below (w.heap.size+1+1) w1 ((w1.alloc O1).alloc O2).drew:=fun O1 O2=>(q1v (q1v (Below.refl _ w1) (by omega) O1) (by omega) O2).drew
 have f:Hid (∀W,Below (w.heap.size+1+1) w1 W->q6a W sb g wd R):=fun W hb=>HK.o.inv.pl.kept (hb.block _ (by omega)) (hb.block _ (by omega))
 have Ac:Hid (Calls prog 217 #[.pointer (some ⟨sb,0,none⟩),.agg #[.int .i64 i,.int .i64 c],.int .i64 ch] w1.drew fun e w'=>e=.returned (.tuple #[.agg #[.int .i64 m.np,.int .i64 m.nc],.agg #[.int .i64 m.o,.int .i64 m.l]])/\Below w1.drew.heap.size w1.drew w'):=Z.o _ (f.o _ j);have Ad:Hid (∀O,Calls prog 217 #[.pointer (some ⟨sb,0,none⟩),.agg #[.int .i64 i,.int .i64 c],.int .i64 ch] (w1.alloc O).drew fun e w'=>e=.returned (.tuple #[.agg #[.int .i64 m.np,.int .i64 m.nc],.agg #[.int .i64 m.o,.int .i64 m.l]])/\Below (w1.alloc O).drew.heap.size (w1.alloc O).drew w'):=fun O=>Z.o _ (f.o _ (n O))
 have Ae:Hid (∀O1 O2,Calls prog 217 #[.pointer (some ⟨sb,0,none⟩),.agg #[.int .i64 i,.int .i64 c],.int .i64 ch] ((w1.alloc O1).alloc O2).drew fun e w'=>e=.returned (.tuple #[.agg #[.int .i64 m.np,.int .i64 m.nc],.agg #[.int .i64 m.o,.int .i64 m.l]])/\Below ((w1.alloc O1).alloc O2).drew.heap.size ((w1.alloc O1).alloc O2).drew w'):=fun O1 O2=>Z.o _ (f.o _ (q O1 O2))
 have Ai:Hid (∀w2,Below w1.drew.heap.size w1.drew w2->Below (w.heap.size+1+1) w1 w2):=fun w2 hb=>j.trans (hb.mono (by show _<=w1.heap.size;omega))
 have Aj:Hid (∀T w2,Below (w1.alloc (.cells #[.int .i64 0,.int .i64 0] T)).drew.heap.size (w1.alloc (.cells #[.int .i64 0,.int .i64 0] T)).drew w2->Below (w.heap.size+1+1) w1 w2/\w2.cell? ⟨w.heap.size+1+1,0,none⟩=some (.int .i64 0)/\w2.cell? ⟨w.heap.size+1+1,1,none⟩=some (.int .i64 0)/\w2.frozen? ⟨w.heap.size+1+1,0,none⟩=false/\w2.frozen? ⟨w.heap.size+1+1,1,none⟩=false/\w.heap.size+1+1+1<=w2.heap.size):=fun T w2 hb=>by
  obtain⟨I,J⟩:=q1z hb;have B:(w1.alloc (.cells #[.int .i64 0,.int .i64 0] T)).drew.heap.size=w.heap.size+1+1+1:=by show(w1.alloc (.cells #[.int .i64 0,.int .i64 0] T)).heap.size=_;simp[E]
  have X:=hb.size;rw[B]at X;refine⟨(n _).trans (hb.mono (by rw[B];omega)),(I _ _ (by rw[B];omega)).trans ?_,(I _ _ (by rw[B];omega)).trans ?_,(J _ _ (by rw[B];omega)).trans ?_,(J _ _ (by rw[B];omega)).trans ?_,X⟩
  ·rw[<-E];simp[go_sem]
  ·rw[<-E];simp[go_sem]
  ·rw[<-E];simp[go_sem]
  ·rw[<-E];simp[go_sem]
 have Ak:Hid (∀T1 T2 w2,Below ((w1.alloc (.cells #[.int .i64 0,.int .i64 0] T1)).alloc (.cells #[.int .i64 0,.int .i64 0] T2)).drew.heap.size ((w1.alloc (.cells #[.int .i64 0,.int .i64 0] T1)).alloc (.cells #[.int .i64 0,.int .i64 0] T2)).drew w2->Below (w.heap.size+1+1) w1 w2/\(w2.cell? ⟨w.heap.size+1+1,0,none⟩=some (.int .i64 0)/\w2.cell? ⟨w.heap.size+1+1,1,none⟩=some (.int .i64 0)/\w2.frozen? ⟨w.heap.size+1+1,0,none⟩=false/\w2.frozen? ⟨w.heap.size+1+1,1,none⟩=false)/\w2.cell? ⟨w.heap.size+1+1+1,0,none⟩=some (.int .i64 0)/\w2.cell? ⟨w.heap.size+1+1+1,1,none⟩=some (.int .i64 0)/\w2.frozen? ⟨w.heap.size+1+1+1,0,none⟩=false/\w2.frozen? ⟨w.heap.size+1+1+1,1,none⟩=false):=fun T1 T2 w2 hb=>by
  obtain⟨I,J⟩:=q1z hb;have B:((w1.alloc (.cells #[.int .i64 0,.int .i64 0] T1)).alloc (.cells #[.int .i64 0,.int .i64 0] T2)).drew.heap.size=w.heap.size+1+1+1+1:=by show((w1.alloc (.cells #[.int .i64 0,.int .i64 0] T1)).alloc (.cells #[.int .i64 0,.int .i64 0] T2)).heap.size=_;simp[E]
  refine⟨(q _ _).trans (hb.mono (by rw[B];omega)),⟨(I _ _ (by rw[B];omega)).trans ?_,(I _ _ (by rw[B];omega)).trans ?_,(J _ _ (by rw[B];omega)).trans ?_,(J _ _ (by rw[B];omega)).trans ?_⟩,(I _ _ (by rw[B];omega)).trans ?_,(I _ _ (by rw[B];omega)).trans ?_,(J _ _ (by rw[B];omega)).trans ?_,(J _ _ (by rw[B];omega)).trans ?_⟩
  all_goals rw[<-E];simp[go_sem]
 have D:Hid (w1.heap.size=w.heap.size+1+1):=E;clear Z An hh Aa
 go_cut [0,2,6,7,8] (fun s0 s2 s6 s7 s8 wx=>s0=.pointer (some ⟨sb,0,none⟩)/\s2=.int .i64 ch/\s6=.pointer (some ⟨w.heap.size+1,0,none⟩)/\∃P Q,s7=.pointer (some ⟨P,0,none⟩)/\s8=.pointer (some ⟨Q,0,none⟩)/\TkB w1 wx (w.heap.size+1) P Q m)
 case first=>
  go_region_held3 (fun w'=>w'.cell? ⟨w,0,none⟩=some (.int .i64 i)/\w'.cell? ⟨w,1,none⟩=some (.int .i64 c))
   (first|with_reducible exact N.o _ j|with_reducible exact N.o _ (n _)|with_reducible exact N.o _ (q _ _)|with_reducible exact N.o _ C|with_reducible exact N.o _ (q1v C (Nat.le_of_eq D.o.symm) _)|with_reducible exact N.o _ (q1v (q1v C (Nat.le_of_eq D.o.symm) _) (Nat.le_of_eq D.o.symm) _)|with_reducible exact N.o _ (q4z C (by omega))|with_reducible exact N.o _ (q4z (q4z C (by omega)) (by omega))|with_reducible exact N.o _ (q4z (q1v C (Nat.le_of_eq D.o.symm) _) (by omega))|with_reducible exact N.o _ (q4z (q4z (q1v C (Nat.le_of_eq D.o.symm) _) (by omega)) (by omega)))
   (first|(go_at_call 217;go_fit Ac.o;rintro e w2⟨rfl,V⟩;have C:=Ai.o _ V)|(go_at_call 217;go_fit (Ad.o _);rintro e w2⟨rfl,V⟩;obtain⟨C,x0,x1,f0,f1,X⟩:=Aj.o _ _ V;have A3:=fun O=>ka x0 O;have A4:=fun O=>ka x1 O;have Ay:=fun O=>kaf (Nat.lt_of_succ_le X) f0 O;have Az:=fun O=>kaf (Nat.lt_of_succ_le X) f1 O)|(go_at_call 217;go_fit (Ae.o _ _);rintro e w2⟨rfl,V⟩;obtain⟨C,⟨x0,x1,f0,f1⟩,x2,x3,f2,f3⟩:=Ak.o _ _ _ V))
  all_goals
   go_wp2
   go_meet
   first
    | with_reducible exact⟨rfl,rfl,rfl,w2.heap.size,w2.heap.size+1,rfl,rfl,y9i (w2:=w2) (b:=w.heap.size+1) (m:=m) (T7:=121) (T8:=57) C D.o.symm⟩
    | with_reducible exact⟨rfl,rfl,rfl,w2.heap.size+1,w2.heap.size,rfl,rfl,y9j (w2:=w2) (b:=w.heap.size+1) (m:=m) (T7:=121) (T8:=57) C D.o.symm⟩
    | with_reducible exact⟨rfl,rfl,rfl,w.heap.size+1+1,w2.heap.size,rfl,rfl,y9k (w2:=w2) (b:=w.heap.size+1) (m:=m) (T8:=57) C D.o.symm x0 x1⟩
    | with_reducible exact⟨rfl,rfl,rfl,w2.heap.size,w.heap.size+1+1,rfl,rfl,y9l (w2:=w2) (b:=w.heap.size+1) (m:=m) (T7:=121) C D.o.symm x0 x1⟩
    | with_reducible exact⟨rfl,rfl,rfl,w.heap.size+1+1,w.heap.size+1+1+1,rfl,rfl,y9x (w2:=w2) (b:=w.heap.size+1) (m:=m) (a:=w.heap.size+1+1) (d:=w.heap.size+1+1+1) C (by omega) (by omega) (by omega) x0 x1 x2 x3⟩
    | with_reducible exact⟨rfl,rfl,rfl,w.heap.size+1+1+1,w.heap.size+1+1,rfl,rfl,y9x (w2:=w2) (b:=w.heap.size+1) (m:=m) (a:=w.heap.size+1+1+1) (d:=w.heap.size+1+1) C (by omega) (by omega) (by omega) x2 x3 x0 x1⟩
 case rest=>
  obtain⟨rfl,rfl,rfl,P,Q,rfl,rfl,hT⟩:=hcut;have G:Hid (TkF w wc P Q m):=y6p HK.o hT;have Ar:Hid (Inv sb g mb wd R wc.drew S):=HK.o.inv.kept3 (hT.bw.block _ (by omega)) (hT.bw.block _ (by omega)) (hT.bw.block _ (by omega));have Ab:Hid (q0v w mb w wc.drew):=(q0v.of (HK.o.bw.trans (hT.bw.mono (by omega)))).drew;have o0:wc.drew.cell? ⟨Q,0,none⟩=some (.int .i64 m.o):=G.o.o0;have o1:wc.drew.cell? ⟨Q,1,none⟩=some (.int .i64 m.l):=G.o.o1;have p0:wc.drew.cell? ⟨P,0,none⟩=some (.int .i64 m.np):=G.o.p0;have p1:wc.drew.cell? ⟨P,1,none⟩=some (.int .i64 m.nc):=G.o.p1;have Af:Hid (P≠w.heap.size+1):=(show P≠w.heap.size+1 by have:=G.o.n7;omega);have Ag:Hid (Q≠w.heap.size+1):=(show Q≠w.heap.size+1 by have:=G.o.n8;omega)
  have As:Hid (Calls prog 63 #[.pointer (some ⟨sb,0,none⟩),.agg #[.int .i64 m.np,.int .i64 m.nc]] wc.drew fun e w'=>e=.returned (.agg #[.int .i64 k.o,.int .i64 k.l,.int .i64 k.ch,.int .i64 k.np,.int .i64 k.nc])/\TkF w w' P Q m/\q0v w mb w w'/\∃r,Inv sb g mb wd R w' r/\(∀a b,S a b=true->r a b=true)/\(∀a b,r a b=true->S a b=true\/i+1<=a)/\(m.np<R.length->r m.np m.nc=true)):=by
   refine(Ah.o wc.drew S Ar.o).mono ?_;rintro e w6⟨rfl,K,r,hI,z,y,x⟩;have A2:=HM.o.lo;refine⟨rfl,G.o.kept (mb:=mb) ⟨K.os,K.tape,K.output,K.size,K.block⟩ Aq.2.2,Ab.o.trans (K.mono Ab.o.size),r,hI,z,fun a b hab=>?_,x⟩;rcases y a b hab with h|h
   ·exact .inl h
   ·exact .inr (by omega)
  have At:Hid (∀W,Calls prog 218 #[.agg #[.int .i64 m.o,.int .i64 m.l],.agg #[.int .i64 k.o,.int .i64 k.l]] W fun e w'=>e=.returned (.agg #[.int .i64 ((m.o+k.o:Nat):Int),.int .i64 ((m.l+k.l:Nat):Int)])/\Below W W w'):=fun W=>v2m m.o m.l k.o k.l (by omega) (by omega) Ax Aw W
  clear hT Ah Ac Ad Ae Ai Aj Ak N f j n q a0 a1 E;have A0:=j3x;go_wp2_with fail
  go_region_held3 (fun w'=>w'.cell? ⟨Q,0,none⟩=some (.int .i64 m.o)/\w'.cell? ⟨Q,1,none⟩=some (.int .i64 m.l)/\w'.cell? ⟨P,0,none⟩=some (.int .i64 m.np)/\w'.cell? ⟨P,1,none⟩=some (.int .i64 m.nc))
   (first|with_reducible exact⟨o0,o1,p0,p1⟩|with_reducible exact⟨U.o0,U.o1,U.p0,U.p1⟩|with_reducible exact⟨A.o0,A.o1,A.p0,A.p1⟩|with_reducible exact⟨k5y Ag.o A.o0,k5y Ag.o A.o1,k5y Af.o A.p0,k5y Af.o A.p1⟩)
   (first|(go_at_call 63;refine As.o.mono ?_;rintro e w6⟨rfl,U,Av⟩)|(go_at_call 218;refine(At.o _).mono ?_;rintro e w7⟨rfl,u⟩;have A:=U.kept (q0v.of u) Aq.2.2;have r0:=A.r0;have r1:=A.r1;have r2:=A.r2;have r3:=A.r3;have r4:=A.r4;have y0:w7.frozen? ⟨w.heap.size+1,0,none⟩=false:=A.fr.frozen;have y1:w7.frozen? ⟨w.heap.size+1,1,none⟩=false:=A.fr.frozen;have y2:w7.frozen? ⟨w.heap.size+1,2,none⟩=false:=A.fr.frozen;have y3:w7.frozen? ⟨w.heap.size+1,3,none⟩=false:=A.fr.frozen;have y4:w7.frozen? ⟨w.heap.size+1,4,none⟩=false:=A.fr.frozen))
  all_goals
   obtain⟨s,r,Au,z,y,x⟩:=Av;go_wp2;exact bodyPost_ret (v:=.agg #[.int .i64 ((m.o:Int)+k.o),.int .i64 ((m.l:Int)+k.l),.int .i64 ch,.int .i64 m.np,.int .i64 m.nc]) (by simp[results,Tryz.results180,go_sem,r0,r1,r2,r3,r4]) rfl ⟨rfl,k3d (s.trans (q0v.of (u.mono s.size))) (by omega) _ _ _ _ _,r,(Au.W u).set5 (by omega) (by omega) (by omega) _ _ _ _ _,z,y,x⟩
def Ln(B b:Nat)(l:List UInt8)(k:Bool)(w:World):Prop:=IsX 326 B b (Lib.byteCells l) [.bool k] w
theorem v8i:z7k 326 3:=by unfold z7k;kernel_rfl
theorem Ln.cell{B b:Nat}{l:List UInt8}{k:Bool}{w:World}(h:Ln B b l k w):w.cell? ⟨b,2,none⟩=some (.bool k):=IsX.cellR h 0
theorem Ln.frozen{B b:Nat}{l:List UInt8}{k:Bool}{w:World}(h:Ln B b l k w):w.frozen? ⟨b,2,none⟩=false:=IsX.frozen h 2
theorem Ln.stored{B b:Nat}{l:List UInt8}{k:Bool}{w:World}(h:Ln B b l k w)(k':Bool):Ln B b l k' (w.setCell ⟨b,2,none⟩ (.bool k')):=IsX.stored h 0 (.bool k')
theorem y8v{B b:Nat}{l:List UInt8}{k:Bool}{w:World}(h:Ln B b l k w)(hB:B<=w.heap.size)(c:UInt8)(z:Int)(hz:z=(c.toNat:Int))(hl:l.length<=1000000):
  Calls prog 55 #[.pointer (some ⟨b,0,none⟩),.int .u8 z] w fun e w'=>e=.returned .nilIface/\Ln B b (l++[c]) k w'/\q0v B b w w'/\Lib.OthersKept 5 (some b) w w':=by
 subst hz;refine(v1h 326 B b _ [.bool k] _ w v8i (by decide) h (by rw[Lib.byteCells_length];omega) hB).mono ?_;rintro e w'⟨rfl,A,C,D⟩;refine⟨rfl,?_,C,D⟩;rw[Ln,Lib.byteCells_append];exact A
theorem g0j{B b:Nat}{l:List UInt8}{k:Bool}{w:World}(h:Ln B b l k w)(hB:B<=w.heap.size)(s:ByteArray)(hl:l.length+s.size<=2000000):
  Calls prog 47 #[.pointer (some ⟨b,0,none⟩),.string s] w fun e w'=>(∃z,e=.returned (.tuple #[.int .i64 z,.nilIface]))/\Ln B b (l++s.data.toList) k w'/\q0v B b w w'/\Lib.OthersKept 5 (some b) w w':=by
 refine(z5h 326 B b _ [.bool k] s w v8i (by decide) h (by rw[Lib.byteCells_length];omega) hB).mono ?_;rintro e w'⟨rfl,A,C,D⟩;refine⟨⟨_,rfl⟩,?_,C,D⟩;rw[Ln,Lib.byteCells_append];exact A
def y4d(B b s:Nat)(r:List Nd)(l:List UInt8)(k:Bool)(w:World)(e:Ending)(w':World):Prop:=
 (∃a' cap',e=.returned (.slice a' r.length cap')/\q1k s w' a' r/\r.length<=cap')/\Ln B b l k w'/\q0v B b w w'/\Lib.OthersKept 5 (some b) w w'
def z9s(A:List Nd)(tA:List UInt8)(kA:Bool):Prop:=∀(B b s:Nat)(ds r:List Nd)(a:Option Addr)(cap:Nat)(l:List UInt8)(k:Bool)(w:World),ds=A++r->q1k s w a ds->s<B->s≠b->ds.length<=cap->Ln B b l k w->B<=w.heap.size->l.length+20*ds.length<=1000000->
  Calls prog 245 #[.pointer (some ⟨b,0,none⟩),.slice a ds.length cap] w (y4d B b s r (l++tA) (k||kA) w)
def k2y(B b s:Nat)(n0:Nat)(x:Nd)(r:List Nd)(l:List UInt8)(k:Bool)(w:World)(t p q:Value)(wx:World):Prop:=
 t=.pointer (some ⟨b,0,none⟩)/\p=.pointer (some ⟨n0,0,none⟩)/\(∃a' cap',q=.slice a' r.length cap'/\q1k s wx a' r/\r.length<=cap')/\wx.cell? ⟨n0,0,none⟩=some (.int .i64 x.op)/\wx.cell? ⟨n0,1,none⟩=some (.string x.tx)/\wx.cell? ⟨n0,2,none⟩=some (.int .i64 x.n)/\Ln B b l k wx/\q0v B b w wx/\Lib.OthersKept 5 (some b) w wx
theorem q0v.weak{B B' b x:Nat}{w w':World}(h:q0v B' x w w')(hB:B<=B')(hx:B<=x):q0v B b w w':=⟨h.os,h.tape,h.output,h.size,fun k hk _=>h.block k (by omega) (by omega)⟩
theorem v4b{e:TypeId}{b x:Nat}{w w3 w4:World}(h:Lib.OthersKept e (some b) w w3)(h':Lib.OthersKept e (some x) w3 w4)(hx:w.heap.size<=x):Lib.OthersKept e (some b) w w4:=by
 intro k o A C B;have D:k<w.heap.size:=(Array.getElem?_eq_some_iff.1 A).1;exact h' k o (h k o A C B) (fun e=>by cases e;omega) B
theorem y1t(tx:ByteArray)(n:Int)(ht:tx.size<=20):z9s (⟨1,tx,n⟩::[]) (tx.data.toList) (false):=by
 intro B b s ds N a V l k w g L I J f d E hl;generalize M:[]++N=r;have u:Hid ([]++N=r):=M;have v:Hid (r.length=([]:List Nd).length+N.length):=(show _=_ by rw[<-M,List.length_append]);obtain rfl:ds=⟨1,tx,n⟩::r:=by rw[g,<-M];rfl
 clear g M;obtain⟨m,ea,c1,c2,c3⟩:=L 0 (by simp);subst ea;simp only[List.length_cons]at f hl⊢;have S:Hid (q1k s w (some ⟨s,m+3,none⟩) r):=L.rest
 have D:Hid (V=1->q1k s w (some ⟨s,m,none⟩) r):=fun h=>by
  have c:=L.slid f;rw[if_pos h]at c;exact c
 have x:Hid (Ln B b l k w):=d;simp only[Nat.zero_mul,Nat.add_zero,List.getElem_cons_zero]at c1 c2 c3;have Aa:s<w.heap.size:=by omega
 have Ab:(1:Int)<=(r.length:Int)+1:=by omega
 have K:Hid (∀O:Obj,q0v B b w (w.alloc O).drew):=fun O=>q0v.drew ((q0v.refl B b w).alloc E O)
 have o:Hid (∀O:Obj,Lib.OthersKept 5 (some b) w (w.alloc O).drew):=fun O=>((Lib.OthersKept.refl _ _ w).alloc O).drew
 have A:Hid (s<B/\s≠b):=⟨I,J⟩;clear L d I J;go_in
 go_upto_region 1 with fail
 go_cut [0,1,5,6] (fun t _ p q wx=>k2y B b s w.heap.size ⟨1,tx,n⟩ r l k w t p q wx)
 case first=>
  go_region
  all_goals (go_wp2_with fail)
  all_goals
   go_meet
   refine⟨rfl,rfl,⟨_,_,rfl,?_,by omega⟩,by simp[go_sem],by simp[go_sem],by simp[go_sem],IsX.drew (IsX.alloc x.o _),K.o _,o.o _⟩
   first
    | exact S.o.kept ((K.o _).block s A.o.1 A.o.2)
    | exact(D.o (by assumption)).kept ((K.o _).block s A.o.1 A.o.2)
    | exact(D.o rfl).kept ((K.o _).block s A.o.1 A.o.2)
 case rest=>
  obtain⟨rfl,rfl,⟨y,Z,rfl,i,X⟩,e1,e2,e3,j,C,H⟩:=hcut;dsimp only at e1 e2 e3;have R:Hid (q1k s wc y r):=i;have U:Hid (Ln B b l k wc):=j;have P:Hid (q0v B b w wc):=C;have Q:Hid (Lib.OthersKept 5 (some b) w wc):=H;have W:B<=wc.heap.size:=Nat.le_trans E C.size;clear i j C H;go_wp2_with fail
  go_region_with (go_at_call 47;refine(g0j (w:=wc.drew) U.o W tx (by omega)).mono ?_;rintro e w2⟨⟨z,rfl⟩,h2,G,Y⟩)
  all_goals
   go_wp2;go_ret;obtain rfl:N=r:=u.o;rw[Bool.or_false];exact⟨⟨_,_,rfl,q1k.kept (w:=wc.drew) R.o (G.block s A.o.1 A.o.2),X⟩,h2,P.o.drew.trans G,Q.o.drew.trans Y⟩
theorem y1u(tx:ByteArray)(n:Int):z9s (⟨2,tx,n⟩::[]) ([32]) (false):=by
 intro B b s ds N a V l k w g L I J f d E hl;generalize M:[]++N=r;have u:Hid ([]++N=r):=M;have v:Hid (r.length=([]:List Nd).length+N.length):=(show _=_ by rw[<-M,List.length_append]);obtain rfl:ds=⟨2,tx,n⟩::r:=by rw[g,<-M];rfl
 clear g M;obtain⟨m,ea,z,c2,c3⟩:=L 0 (by simp);subst ea;simp only[List.length_cons]at f hl⊢;have S:Hid (q1k s w (some ⟨s,m+3,none⟩) r):=L.rest
 have D:Hid (V=1->q1k s w (some ⟨s,m,none⟩) r):=fun h=>by
  have c:=L.slid f;rw[if_pos h]at c;exact c
 have x:Hid (Ln B b l k w):=d;simp only[Nat.zero_mul,Nat.add_zero,List.getElem_cons_zero]at z c2 c3;have Aa:s<w.heap.size:=by omega
 have Ab:(1:Int)<=(r.length:Int)+1:=by omega
 have K:Hid (∀O:Obj,q0v B b w (w.alloc O).drew):=fun O=>q0v.drew ((q0v.refl B b w).alloc E O)
 have o:Hid (∀O:Obj,Lib.OthersKept 5 (some b) w (w.alloc O).drew):=fun O=>((Lib.OthersKept.refl _ _ w).alloc O).drew
 have A:Hid (s<B/\s≠b):=⟨I,J⟩;clear L d I J;go_in
 go_upto_region 1 with fail
 go_cut [0,1,5,6] (fun t _ p q wx=>k2y B b s w.heap.size ⟨2,tx,n⟩ r l k w t p q wx)
 case first=>
  go_region
  all_goals (go_wp2_with fail)
  all_goals
   go_meet
   refine⟨rfl,rfl,⟨_,_,rfl,?_,by omega⟩,by simp[go_sem],by simp[go_sem],by simp[go_sem],IsX.drew (IsX.alloc x.o _),K.o _,o.o _⟩
   first
    | exact S.o.kept ((K.o _).block s A.o.1 A.o.2)
    | exact(D.o (by assumption)).kept ((K.o _).block s A.o.1 A.o.2)
    | exact(D.o rfl).kept ((K.o _).block s A.o.1 A.o.2)
 case rest=>
  obtain⟨rfl,rfl,⟨y,Z,rfl,i,X⟩,e1,e2,e3,j,C,H⟩:=hcut;dsimp only at e1 e2 e3;have R:Hid (q1k s wc y r):=i;have U:Hid (Ln B b l k wc):=j;have P:Hid (q0v B b w wc):=C;have Q:Hid (Lib.OthersKept 5 (some b) w wc):=H;have W:B<=wc.heap.size:=Nat.le_trans E C.size;clear i j C H;go_wp2_with fail;refine(y8v U.o W 32 32 rfl (by omega)).mono ?_;rintro e w2⟨rfl,h2,G,Y⟩;go_wp2;go_ret;obtain rfl:N=r:=u.o;rw[Bool.or_false];exact⟨⟨_,_,rfl,R.o.kept (G.block s A.o.1 A.o.2),X⟩,h2,P.o.trans G,Q.o.trans Y⟩
theorem k6y(k:Nat){o:Int}(hk:k=0/\o=3\/k=1/\o=5)(tx:ByteArray)(n:Int):z9s (⟨o,tx,n⟩::[]) ([]) (false):=by
 have g:Tag k:=.mk;rcases hk with⟨rfl,rfl⟩|⟨rfl,rfl⟩
 all_goals
  intro B b s ds M a U l k w c K H I Z Y E hl;generalize L:[]++M=r;have j:Hid ([]++M=r):=L;have m:Hid (r.length=([]:List Nd).length+M.length):=(show _=_ by rw[<-L,List.length_append]);obtain rfl:ds=⟨↑(sel g (3:Int) 5),tx,n⟩::r:=by rw[c,<-L];rfl
  clear c L;obtain⟨f,ea,x,y,z⟩:=K 0 (by simp);subst ea;simp only[List.length_cons]at Z hl⊢;have R:Hid (q1k s w (some ⟨s,f+3,none⟩) r):=K.rest
  have D:Hid (U=1->q1k s w (some ⟨s,f,none⟩) r):=fun h=>by
   have X:=K.slid Z;rw[if_pos h]at X;exact X
  have u:Hid (Ln B b l k w):=Y;simp only[Nat.zero_mul,Nat.add_zero,List.getElem_cons_zero]at x y z;have Ab:s<w.heap.size:=by omega
  have Ac:(1:Int)<=(r.length:Int)+1:=by omega
  have J:Hid (∀O:Obj,q0v B b w (w.alloc O).drew):=fun O=>q0v.drew ((q0v.refl B b w).alloc E O)
  have i:Hid (∀O:Obj,Lib.OthersKept 5 (some b) w (w.alloc O).drew):=fun O=>((Lib.OthersKept.refl _ _ w).alloc O).drew
  have C:Hid (s<B/\s≠b):=⟨H,I⟩;clear K Y H I;go_in
  go_upto_region 1 with fail
  go_cut [0,1,5,6] (fun t _ p q wx=>k2y B b s w.heap.size ⟨↑(sel g (3:Int) 5),tx,n⟩ r l k w t p q wx)
  case first=>
   go_region
   all_goals (go_wp2_with fail)
   all_goals
    go_meet
    refine⟨rfl,rfl,⟨_,_,rfl,?_,by omega⟩,by simp[go_sem],by simp[go_sem],by simp[go_sem],IsX.drew (IsX.alloc u.o _),J.o _,i.o _⟩
    first
     | exact R.o.kept ((J.o _).block s C.o.1 C.o.2)
     | exact(D.o (by assumption)).kept ((J.o _).block s C.o.1 C.o.2)
     | exact(D.o rfl).kept ((J.o _).block s C.o.1 C.o.2)
  case rest=>
   obtain⟨rfl,rfl,⟨v,W,rfl,d,V⟩,e1,e2,e3,e,A,G⟩:=hcut;dsimp only at e1 e2 e3;have Q:Hid (q1k s wc v r):=d;have S:Hid (Ln B b l k wc):=e;have N:Hid (q0v B b w wc):=A;have P:Hid (Lib.OthersKept 5 (some b) w wc):=G;have Aa:B<=wc.heap.size:=Nat.le_trans E A.size;clear d e A G;go_wp2;go_ret;obtain rfl:M=r:=j.o;rw[Bool.or_false,List.append_nil];exact⟨⟨_,_,rfl,Q.o,V⟩,S.o,N.o,P.o⟩
theorem y1v(tx:ByteArray)(n:Int):z9s (⟨4,tx,n⟩::[]) ([]) (true):=by
 intro B b s y N a U l k w c L I J Z Y G hl;generalize M:[]++N=r;have i:Hid ([]++N=r):=M;have j:Hid (r.length=([]:List Nd).length+N.length):=(show _=_ by rw[<-M,List.length_append]);obtain rfl:y=⟨4,tx,n⟩::r:=by rw[c,<-M];rfl
 clear c M;obtain⟨f,ea,u,v,x⟩:=L 0 (by simp);subst ea;simp only[List.length_cons]at Z hl⊢;have S:Hid (q1k s w (some ⟨s,f+3,none⟩) r):=L.rest
 have E:Hid (U=1->q1k s w (some ⟨s,f,none⟩) r):=fun h=>by
  have X:=L.slid Z;rw[if_pos h]at X;exact X
 have m:Hid (Ln B b l k w):=Y;simp only[Nat.zero_mul,Nat.add_zero,List.getElem_cons_zero]at u v x;have Ab:s<w.heap.size:=by omega
 have Ac:(1:Int)<=(r.length:Int)+1:=by omega
 have K:Hid (∀O:Obj,q0v B b w (w.alloc O).drew):=fun O=>q0v.drew ((q0v.refl B b w).alloc G O)
 have g:Hid (∀O:Obj,Lib.OthersKept 5 (some b) w (w.alloc O).drew):=fun O=>((Lib.OthersKept.refl _ _ w).alloc O).drew
 have A:Hid (s<B/\s≠b):=⟨I,J⟩;clear L Y I J;go_in
 go_upto_region 1 with fail
 go_cut [0,1,5,6] (fun t _ p q wx=>k2y B b s w.heap.size ⟨4,tx,n⟩ r l k w t p q wx)
 case first=>
  go_region
  all_goals (go_wp2_with fail)
  all_goals
   go_meet
   refine⟨rfl,rfl,⟨_,_,rfl,?_,by omega⟩,by simp[go_sem],by simp[go_sem],by simp[go_sem],IsX.drew (IsX.alloc m.o _),K.o _,g.o _⟩
   first
    | exact S.o.kept ((K.o _).block s A.o.1 A.o.2)
    | exact(E.o (by assumption)).kept ((K.o _).block s A.o.1 A.o.2)
    | exact(E.o rfl).kept ((K.o _).block s A.o.1 A.o.2)
 case rest=>
  obtain⟨rfl,rfl,⟨o,W,rfl,d,V⟩,z,e2,e3,e,D,H⟩:=hcut;dsimp only at z e2 e3;have R:Hid (q1k s wc o r):=d;have C:Hid (Ln B b l k wc):=e;have P:Hid (q0v B b w wc):=D;have Q:Hid (Lib.OthersKept 5 (some b) w wc):=H;have Aa:B<=wc.heap.size:=Nat.le_trans G D.size;clear d e D H;have g1:=C.o.cell;have g2:=C.o.frozen;go_wp2;go_ret;obtain rfl:N=r:=i.o;rw[Bool.or_true,List.append_nil];refine⟨⟨_,_,rfl,R.o.kept (Below.heap_setCell _ _ _ _ A.o.2),V⟩,C.o.stored true,P.o.setCell (.inl rfl) _,Q.o.setCell _ rfl _⟩
theorem y1w(tx:ByteArray)(n:Int)(A C:List Nd)(tA tC:List UInt8)(kA kC:Bool)(hA:z9s A tA kA)(hC:z9s C tC kC)(Ae:tA.length<=20*A.length):z9s (⟨6,tx,n⟩::(A++C)) (tA++tC) (kA||kC):=by
 intro B b s ds H a j l k w hd S P Q hc hW K hl;generalize U:(A++C)++H=r;have d:Hid ((A++C)++H=r):=U;have g:Hid (r.length=((A++C):List Nd).length+H.length):=(show _=_ by rw[<-U,List.length_append]);obtain rfl:ds=⟨6,tx,n⟩::r:=by rw[hd,<-U];rfl
 clear hd U;obtain⟨o0,ea,c1,c2,c3⟩:=S 0 (by simp);subst ea;simp only[List.length_cons]at hc hl⊢;have c:Hid (q1k s w (some ⟨s,o0+3,none⟩) r):=S.rest
 have I:Hid (j=1->q1k s w (some ⟨s,o0,none⟩) r):=fun h=>by
  have h1:=S.slid hc;rw[if_pos h]at h1;exact h1
 have HW:Hid (Ln B b l k w):=hW;simp only[Nat.zero_mul,Nat.add_zero,List.getElem_cons_zero]at c1 c2 c3;have Ac:s<w.heap.size:=by omega
 have Ad:(1:Int)<=(r.length:Int)+1:=by omega
 have R:Hid (∀O:Obj,q0v B b w (w.alloc O).drew):=fun O=>q0v.drew ((q0v.refl B b w).alloc K O)
 have HK:Hid (∀O:Obj,Lib.OthersKept 5 (some b) w (w.alloc O).drew):=fun O=>((Lib.OthersKept.refl _ _ w).alloc O).drew
 have D:Hid (s<B/\s≠b):=⟨P,Q⟩;clear S hW P Q;go_in
 go_upto_region 1 with fail
 go_cut [0,1,5,6] (fun t _ p q wx=>k2y B b s w.heap.size ⟨6,tx,n⟩ r l k w t p q wx)
 case first=>
  go_region
  all_goals (go_wp2_with fail)
  all_goals
   go_meet
   refine⟨rfl,rfl,⟨_,_,rfl,?_,by omega⟩,by simp[go_sem],by simp[go_sem],by simp[go_sem],IsX.drew (IsX.alloc HW.o _),R.o _,HK.o _⟩
   first
    | exact c.o.kept ((R.o _).block s D.o.1 D.o.2)
    | exact(I.o (by assumption)).kept ((R.o _).block s D.o.1 D.o.2)
    | exact(I.o rfl).kept ((R.o _).block s D.o.1 D.o.2)
 case rest=>
  obtain⟨rfl,rfl,⟨a',z,rfl,hn,o⟩,e1,e2,e3,hw,E,N⟩:=hcut;dsimp only at e1 e2 e3;have Z:Hid (q1k s wc a' r):=hn;have i:Hid (Ln B b l k wc):=hw;have W:Hid (q0v B b w wc):=E;have X:Hid (Lib.OthersKept 5 (some b) w wc):=N;have J:B<=wc.heap.size:=Nat.le_trans K E.size;clear hn hw E N;rw[List.append_assoc]at d;generalize G:C++H=rc at d;have f:Hid (C++H=rc):=G;have Y:Hid (rc.length=C.length+H.length):=(show _=_ by rw[<-G,List.length_append]);have V:Hid ((A++C).length=A.length+C.length):=(show _=_ from List.length_append);clear G;have HA:Hid (z9s A tA kA):=hA;have HC:Hid (z9s C tC kC):=hC;clear hA hC;go_wp2_with fail;refine(HA.o B b s r rc _ _ l k _ d.o.symm Z.o D.o.1 D.o.2 o i.o J (by omega)).mono ?_;rintro e w3⟨⟨a3,Aa,rfl,n3,u⟩,h3,M,x⟩;have L:B<=w3.heap.size:=Nat.le_trans J M.size;go_wp2_with fail;refine(HC.o B b s rc H _ _ _ _ _ f.o.symm n3 D.o.1 D.o.2 u h3 L (by have q1:=g.o;have q2:=Y.o;have q3:=V.o;simp;omega)).mono ?_;rintro e w4⟨⟨a4,Ab,rfl,n4,v⟩,h4,m,y⟩;go_wp2;go_ret;rw[<-Bool.or_assoc,<-List.append_assoc];exact⟨⟨_,_,rfl,n4,v⟩,h4,W.o.trans (M.trans m),X.o.trans (x.trans y)⟩
end Go.Proofs.YthcpdohdppkmkaaGreatDoor
