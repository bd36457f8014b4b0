import Derived.Test.YtfdppahhbpfnoaaGreatDoorPb27
import Derived.Deep.DeepFit
import Derived.Test.YtfdppahhbpfnoaaGreatDoorPb25
open Go.Proofs.Tryz
namespace Go.Proofs.YtfdppahhbpfnoaaGreatDoor
open Go Go.RowKit
set_option maxRecDepth 100000
set_option maxHeartbeats 8000000
theorem j4l(a b c d e:Value)(w:World):(Instr.field 174 (.agg #[a,b,c,d,e]) 0).run prog w=.ok (.agg #[a,b]) w:=by kernel_rfl
theorem k4r(a b c d e:Value)(w:World):(Instr.field 174 (.agg #[a,b,c,d,e]) 1).run prog w=.ok c w:=by kernel_rfl
theorem j4m(a b c d e:Value)(w:World):(Instr.field 174 (.agg #[a,b,c,d,e]) 2).run prog w=.ok (.agg #[d,e]) w:=by kernel_rfl
structure TkB(w1 wx:World)(b b7 b8:Nat)(m:Mv):Prop where
 p0:wx.cell? ⟨b7,0,none⟩=some (.int .i64 m.np)
 p1:wx.cell? ⟨b7,1,none⟩=some (.int .i64 m.nc)
 o0:wx.cell? ⟨b8,0,none⟩=some (.int .i64 m.o)
 o1:wx.cell? ⟨b8,1,none⟩=some (.int .i64 m.l)
 n7:b<b7
 n8:b<b8
 bw:Below (b+1) w1 wx
theorem q1i{w1 w2:World}{n:Nat}(h:Below n w1 w2)(hn:n<=w1.heap.size)(O:Obj):Below n w1 (w2.alloc O):=h.alloc (Nat.le_trans hn h.size) O
section
variable {w1 w2:World} {b:Nat} {m:Mv} {T7 T8:TypeId}
theorem g1a(h:Below (b+1) w1 w2)(hb:b+1=w1.heap.size):TkB w1 ((w2.alloc (.cells #[.int .i64 m.np,.int .i64 m.nc] T7)).alloc (.cells #[.int .i64 m.o,.int .i64 m.l] T8)) b w2.heap.size (w2.heap.size+1) m:=
 have hs:=h.size
 ⟨by simp[go_sem],by simp[go_sem],by simp[go_sem],by simp[go_sem],by omega,by omega,q1i (q1i h (by omega) _) (by omega) _⟩
theorem g1b(h:Below (b+1) w1 w2)(hb:b+1=w1.heap.size):TkB w1 ((w2.alloc (.cells #[.int .i64 m.o,.int .i64 m.l] T8)).alloc (.cells #[.int .i64 m.np,.int .i64 m.nc] T7)) b (w2.heap.size+1) w2.heap.size m:=
 have hs:=h.size
 ⟨by simp[go_sem],by simp[go_sem],by simp[go_sem],by simp[go_sem],by omega,by omega,q1i (q1i h (by omega) _) (by omega) _⟩
theorem z4x{W:World}{a:Nat}{u0 u1 v0 v1:Value}(h0:W.cell? ⟨a,0,none⟩=some u0)(h1:W.cell? ⟨a,1,none⟩=some u1):((W.setCell ⟨a,0,none⟩ v0).setCell ⟨a,1,none⟩ v1).cell? ⟨a,0,none⟩=some v0/\((W.setCell ⟨a,0,none⟩ v0).setCell ⟨a,1,none⟩ v1).cell? ⟨a,1,none⟩=some v1:=
 ⟨(cso (by omega)).trans (css h0),css ((cso (by omega)).trans h1)⟩
theorem q4j{n a:Nat}{v0 v1:Value}(h:Below n w1 w2)(hn:n<=a):Below n w1 ((w2.setCell ⟨a,0,none⟩ v0).setCell ⟨a,1,none⟩ v1):=(h.setCell (p:=⟨a,0,none⟩) hn _).setCell (p:=⟨a,1,none⟩) hn _
theorem z5z{W:World}{a d:Nat}{u0 u1 s0 s1 v0 v1 t0 t1:Value}(A:a≠d)(h0:W.cell? ⟨a,0,none⟩=some u0)(h1:W.cell? ⟨a,1,none⟩=some u1)(k0:W.cell? ⟨d,0,none⟩=some s0)(k1:W.cell? ⟨d,1,none⟩=some s1):
  ((((W.setCell ⟨a,0,none⟩ v0).setCell ⟨a,1,none⟩ v1).setCell ⟨d,0,none⟩ t0).setCell ⟨d,1,none⟩ t1).cell? ⟨a,0,none⟩=some v0/\((((W.setCell ⟨a,0,none⟩ v0).setCell ⟨a,1,none⟩ v1).setCell ⟨d,0,none⟩ t0).setCell ⟨d,1,none⟩ t1).cell? ⟨a,1,none⟩=some v1/\((((W.setCell ⟨a,0,none⟩ v0).setCell ⟨a,1,none⟩ v1).setCell ⟨d,0,none⟩ t0).setCell ⟨d,1,none⟩ t1).cell? ⟨d,0,none⟩=some t0/\((((W.setCell ⟨a,0,none⟩ v0).setCell ⟨a,1,none⟩ v1).setCell ⟨d,0,none⟩ t0).setCell ⟨d,1,none⟩ t1).cell? ⟨d,1,none⟩=some t1:=by
 obtain⟨B,C⟩:=z4x (v0:=v0) (v1:=v1) h0 h1;obtain⟨D,E⟩:=z4x (W:=(W.setCell ⟨a,0,none⟩ v0).setCell ⟨a,1,none⟩ v1) (v0:=t0) (v1:=t1) ((cso (.inl A)).trans ((cso (.inl A)).trans k0)) ((cso (.inl A)).trans ((cso (.inl A)).trans k1));exact⟨(cso (.inl A.symm)).trans ((cso (.inl A.symm)).trans B),(cso (.inl A.symm)).trans ((cso (.inl A.symm)).trans C),D,E⟩
theorem g1c{u0 u1:Value}(h:Below (b+1) w1 w2)(hb:b+1=w1.heap.size)(x0:w2.cell? ⟨b+1,0,none⟩=some u0)(x1:w2.cell? ⟨b+1,1,none⟩=some u1):
  TkB w1 (((((w2.alloc (.cells #[.int .i64 0,.int .i64 0] T8)).setCell ⟨b+1,0,none⟩ (.int .i64 m.np)).setCell ⟨b+1,1,none⟩ (.int .i64 m.nc)).setCell ⟨w2,0,none⟩ (.int .i64 m.o)).setCell ⟨w2,1,none⟩ (.int .i64 m.l)) b (b+1) w2.heap.size m:=by
 have A:=World.block_lt_of_cell? w2 ⟨b+1,0,none⟩ x0;have B:b+1<w2.heap.size:=A;obtain⟨C,D,E,G⟩:=z5z (W:=w2.alloc (.cells #[.int .i64 0,.int .i64 0] T8)) (a:=b+1) (d:=w2.heap.size) (s0:=.int .i64 0) (s1:=.int .i64 0) (v0:=.int .i64 m.np) (v1:=.int .i64 m.nc) (t0:=.int .i64 m.o) (t1:=.int .i64 m.l) (by omega) (ka x0 _) (ka x1 _) (by simp[go_sem]) (by simp[go_sem]);exact⟨C,D,E,G,by omega,by omega,q4j (q4j (q1i h (by omega) _) (by omega)) (by omega)⟩
theorem g1d{u0 u1:Value}(h:Below (b+1) w1 w2)(hb:b+1=w1.heap.size)(x0:w2.cell? ⟨b+1,0,none⟩=some u0)(x1:w2.cell? ⟨b+1,1,none⟩=some u1):
  TkB w1 (((w2.alloc (.cells #[.int .i64 m.np,.int .i64 m.nc] T7)).setCell ⟨b+1,0,none⟩ (.int .i64 m.o)).setCell ⟨b+1,1,none⟩ (.int .i64 m.l)) b w2.heap.size (b+1) m:=by
 have A:=World.block_lt_of_cell? w2 ⟨b+1,0,none⟩ x0;have B:b+1<w2.heap.size:=A;obtain⟨C,D⟩:=z4x (W:=w2.alloc (.cells #[.int .i64 m.np,.int .i64 m.nc] T7)) (v0:=.int .i64 m.o) (v1:=.int .i64 m.l) (ka x0 _) (ka x1 _);exact⟨(cso (by omega)).trans ((cso (by omega)).trans (by simp[go_sem])),(cso (by omega)).trans ((cso (by omega)).trans (by simp[go_sem])),C,D,by omega,by omega,q4j (q1i h (by omega) _) (by omega)⟩
theorem g1s{a d:Nat}{u0 u1 s0 s1:Value}(h:Below (b+1) w1 w2)(A:a≠d)(ha:b<a)(hd:b<d)(h0:w2.cell? ⟨a,0,none⟩=some u0)(h1:w2.cell? ⟨a,1,none⟩=some u1)(k0:w2.cell? ⟨d,0,none⟩=some s0)(k1:w2.cell? ⟨d,1,none⟩=some s1):
  TkB w1 ((((w2.setCell ⟨a,0,none⟩ (.int .i64 m.np)).setCell ⟨a,1,none⟩ (.int .i64 m.nc)).setCell ⟨d,0,none⟩ (.int .i64 m.o)).setCell ⟨d,1,none⟩ (.int .i64 m.l)) b a d m:=by
 obtain⟨B,C,D,E⟩:=z5z (v0:=.int .i64 m.np) (v1:=.int .i64 m.nc) (t0:=.int .i64 m.o) (t1:=.int .i64 m.l) A h0 h1 k0 k1;exact⟨B,C,D,E,ha,hd,q4j (q4j h (by omega)) (by omega)⟩
end
theorem k7i{W:World}{b b' o:Nat}{v v0 v1 v2 v3 v4:Value}(hb:b≠b')(h:W.cell? ⟨b,o,none⟩=some v):(((((W.setCell ⟨b',0,none⟩ v0).setCell ⟨b',1,none⟩ v1).setCell ⟨b',2,none⟩ v2).setCell ⟨b',3,none⟩ v3).setCell ⟨b',4,none⟩ v4).cell? ⟨b,o,none⟩=some v:=
 (cso (.inl hb.symm)).trans ((cso (.inl hb.symm)).trans ((cso (.inl hb.symm)).trans ((cso (.inl hb.symm)).trans ((cso (.inl hb.symm)).trans h))))
structure TkF(w wx:World)(b7 b8:Nat)(m:Mv):Prop where
 p0:wx.cell? ⟨b7,0,none⟩=some (.int .i64 m.np)
 p1:wx.cell? ⟨b7,1,none⟩=some (.int .i64 m.nc)
 o0:wx.cell? ⟨b8,0,none⟩=some (.int .i64 m.o)
 o1:wx.cell? ⟨b8,1,none⟩=some (.int .i64 m.l)
 r0:wx.cell? ⟨w.heap.size+1,0,none⟩=some (.int .i64 0)
 r1:wx.cell? ⟨w.heap.size+1,1,none⟩=some (.int .i64 0)
 r2:wx.cell? ⟨w.heap.size+1,2,none⟩=some (.int .i64 0)
 r3:wx.cell? ⟨w.heap.size+1,3,none⟩=some (.int .i64 0)
 r4:wx.cell? ⟨w.heap.size+1,4,none⟩=some (.int .i64 0)
 fr:z3g wx (w.heap.size+1)
 n7:w.heap.size+1<b7
 n8:w.heap.size+1<b8
theorem TkF.kept{w wx wy:World}{b7 b8 mb:Nat}{m:Mv}(h:TkF w wx b7 b8 m)(hb:q0p wx mb wx wy)(hm:mb<w.heap.size):TkF w wy b7 b8 m:=by
 have B:=h.n7;have C:=h.n8;have A:∀b o v,b≠mb->wx.cell? ⟨b,o,none⟩=some v->wy.cell? ⟨b,o,none⟩=some v:=fun b o v he hv=>(hb.cell (p:=⟨b,o,none⟩) (World.block_lt_of_cell? wx ⟨b,o,none⟩ hv) he).trans hv
 exact⟨A _ _ _ (by omega) h.p0,A _ _ _ (by omega) h.p1,A _ _ _ (by omega) h.o0,A _ _ _ (by omega) h.o1,A _ _ _ (by omega) h.r0,A _ _ _ (by omega) h.r1,A _ _ _ (by omega) h.r2,A _ _ _ (by omega) h.r3,A _ _ _ (by omega) h.r4,h.fr.kept (hb.block _ h.fr.lt (by omega)),B,C⟩
theorem y7y{sb g mb wd i c b7 b8:Nat}{R:List Pl}{S:Nat->Nat->Bool}{w w1 wx:World}{m:Mv}(h:Sk1 sb g mb wd i c R S w w1)(hT:TkB w1 wx (w.heap.size+1) b7 b8 m):TkF w wx b7 b8 m:=by
 have A:∀o v,w1.cell? ⟨w.heap.size+1,o,none⟩=some v->wx.cell? ⟨w.heap.size+1,o,none⟩=some v:=fun o v hv=>(hT.bw.cell (p:=⟨w.heap.size+1,o,none⟩) (by simp)).trans hv
 exact⟨hT.p0,hT.p1,hT.o0,hT.o1,A _ _ h.r0,A _ _ h.r1,A _ _ h.r2,A _ _ h.r3,A _ _ h.r4,h.fr.kept (hT.bw.block _ (by omega)),hT.n7,hT.n8⟩
theorem v6c{R:List Pl}{L M i nx dp wd c ch:Nat}{ks:List (Nat × Tr)}{t:Tr}(sb g mb:Nat)(hR:R.length<=400)(Aa:Sp R L M i t nx dp ks)(hc:c<=wd)(hw:wd<=100)(hL:L<=400)(hM:M<=3200)(An:ch=0\/ch=1)(hh:t.lg=-1->ch=1)
  (Am:j2j sb g mb wd R (q2z R wd i c ch).np (q2z R wd i c ch).nc) (hV:∃k:Cv,k=(if(q2z R wd i c ch).np<R.length then crs R wd (q2z R wd i c ch).np (q2z R wd i c ch).nc else zCv)/\k.o=(vv R wd (q2z R wd i c ch).np (q2z R wd i c ch).nc).1.1/\k.l=(vv R wd (q2z R wd i c ch).np (q2z R wd i c ch).nc).1.2/\k.o<=400000/\k.l<=400000):z5j sb g mb wd R i c ch:=by
 intro w S h;have H:Hid (Inv sb g mb wd R w S):=h;have Aq:=h.lt;obtain⟨k,hk,Ap,Ao,Ax,Aw⟩:=hV;have hm:=j6s (ch:=ch) Aa hc hw hL hM;have Z:Hid (∀W:World,q4i W sb g wd R->Calls prog 217 #[.pointer (some ⟨sb,0,none⟩),.agg #[.int .i64 i,.int .i64 c],.int .i64 ch] W fun e w'=>e=.returned (.tuple #[.agg #[.int .i64 (q2z R wd i c ch).np,.int .i64 (q2z R wd i c ch).nc],.agg #[.int .i64 (q2z R wd i c ch).o,.int .i64 (q2z R wd i c ch).l]])/\Below W W w'):=fun W hW=>j3d sb g W hR Aa hc hw hL hM An hh hW
 have Ah:Hid (∀W S,Inv sb g mb wd R W S->Calls prog 109 #[.pointer (some ⟨sb,0,none⟩),.agg #[.int .i64 (q2z R wd i c ch).np,.int .i64 (q2z R wd i c ch).nc]] W fun e w'=>e=.returned (.agg #[.int .i64 k.o,.int .i64 k.l,.int .i64 k.ch,.int .i64 k.np,.int .i64 k.nc])/\Left sb g mb wd R S (q2z R wd i c ch).np (q2z R wd i c ch).np (q2z R wd i c ch).nc W w'):=fun W S hW=>by
  have:=Am W S hW
  rw[<-hk]at this;exact this
 have Al:tkC R wd i c ch=⟨(q2z R wd i c ch).o+k.o,(q2z R wd i c ch).l+k.l,ch,(q2z R wd i c ch).np,(q2z R wd i c ch).nc⟩:=by rw[tkC,j3z,Ap,Ao]
 rw[Al,cvV];dsimp only;clear hk Ap Ao Am Al h;generalize q2z R wd i c ch=m at *;have HM:Hid (g1k R wd i m):=hm;have ho:=hm.bo;have A1:=hm.bl;clear hm;go_in;go_wp2_with fail;have Y:Sk1 sb g mb wd i c R S w ((w.alloc (.cells #[.int .i64 i,.int .i64 c] 172)).alloc (.cells #[.int .i64 0,.int .i64 0,.int .i64 0,.int .i64 0,.int .i64 0] 174)):=z6u (nq:=0) H.o
 generalize(w.alloc (.cells #[.int .i64 i,.int .i64 c] 172)).alloc (.cells #[.int .i64 0,.int .i64 0,.int .i64 0,.int .i64 0,.int .i64 0] 174)=w1 at *
 have HK:Hid (Sk1 sb g mb wd i c R S w w1):=Y;have a0:=Y.a0;have a1:=Y.a1;have E:=Y.sz;clear Y
 have N:Hid (∀W,Below (w.heap.size+1+1) w1 W->W.cell? ⟨w,0,none⟩=some (.int .i64 i)/\W.cell? ⟨w,1,none⟩=some (.int .i64 c)):=fun W hb=>
  ⟨(hb.cell (p:=⟨w,0,none⟩) (by simp;omega)).trans a0,(hb.cell (p:=⟨w,1,none⟩) (by simp;omega)).trans a1⟩
 have j:Below (w.heap.size+1+1) w1 w1.drew:=(Below.refl _ w1).drew;have n:∀O,Below (w.heap.size+1+1) w1 (w1.alloc O).drew:=fun O=>(q1i (Below.refl _ w1) (by omega) O).drew
 have q:∀O1 O2,Below (w.heap.size+1+1) w1 ((w1.alloc O1).alloc O2).drew:=fun O1 O2=>(q1i (q1i (Below.refl _ w1) (by omega) O1) (by omega) O2).drew
 have f:Hid (∀W,Below (w.heap.size+1+1) w1 W->q4i W sb g wd R):=fun W hb=>HK.o.inv.pl.kept (hb.block _ (by omega)) (hb.block _ (by omega))
 have Ac:Hid (Calls prog 217 #[.pointer (some ⟨sb,0,none⟩),.agg #[.int .i64 i,.int .i64 c],.int .i64 ch] w1.drew fun e w'=>e=.returned (.tuple #[.agg #[.int .i64 m.np,.int .i64 m.nc],.agg #[.int .i64 m.o,.int .i64 m.l]])/\Below w1.drew.heap.size w1.drew w'):=Z.o _ (f.o _ j);have Ad:Hid (∀O,Calls prog 217 #[.pointer (some ⟨sb,0,none⟩),.agg #[.int .i64 i,.int .i64 c],.int .i64 ch] (w1.alloc O).drew fun e w'=>e=.returned (.tuple #[.agg #[.int .i64 m.np,.int .i64 m.nc],.agg #[.int .i64 m.o,.int .i64 m.l]])/\Below (w1.alloc O).drew.heap.size (w1.alloc O).drew w'):=fun O=>Z.o _ (f.o _ (n O))
 have Ae:Hid (∀O1 O2,Calls prog 217 #[.pointer (some ⟨sb,0,none⟩),.agg #[.int .i64 i,.int .i64 c],.int .i64 ch] ((w1.alloc O1).alloc O2).drew fun e w'=>e=.returned (.tuple #[.agg #[.int .i64 m.np,.int .i64 m.nc],.agg #[.int .i64 m.o,.int .i64 m.l]])/\Below ((w1.alloc O1).alloc O2).drew.heap.size ((w1.alloc O1).alloc O2).drew w'):=fun O1 O2=>Z.o _ (f.o _ (q O1 O2))
 have Ai:Hid (∀w2,Below w1.drew.heap.size w1.drew w2->Below (w.heap.size+1+1) w1 w2):=fun w2 hb=>j.trans (hb.mono (by show _<=w1.heap.size;omega))
 have Aj:Hid (∀T w2,Below (w1.alloc (.cells #[.int .i64 0,.int .i64 0] T)).drew.heap.size (w1.alloc (.cells #[.int .i64 0,.int .i64 0] T)).drew w2->Below (w.heap.size+1+1) w1 w2/\w2.cell? ⟨w.heap.size+1+1,0,none⟩=some (.int .i64 0)/\w2.cell? ⟨w.heap.size+1+1,1,none⟩=some (.int .i64 0)/\w2.frozen? ⟨w.heap.size+1+1,0,none⟩=false/\w2.frozen? ⟨w.heap.size+1+1,1,none⟩=false/\w.heap.size+1+1+1<=w2.heap.size):=fun T w2 hb=>by
  obtain⟨I,J⟩:=q1o hb;have B:(w1.alloc (.cells #[.int .i64 0,.int .i64 0] T)).drew.heap.size=w.heap.size+1+1+1:=by show(w1.alloc (.cells #[.int .i64 0,.int .i64 0] T)).heap.size=_;simp[E]
  have X:=hb.size;rw[B]at X;refine⟨(n _).trans (hb.mono (by rw[B];omega)),(I _ _ (by rw[B];omega)).trans ?_,(I _ _ (by rw[B];omega)).trans ?_,(J _ _ (by rw[B];omega)).trans ?_,(J _ _ (by rw[B];omega)).trans ?_,X⟩
  ·rw[<-E];simp[go_sem]
  ·rw[<-E];simp[go_sem]
  ·rw[<-E];simp[go_sem]
  ·rw[<-E];simp[go_sem]
 have Ak:Hid (∀T1 T2 w2,Below ((w1.alloc (.cells #[.int .i64 0,.int .i64 0] T1)).alloc (.cells #[.int .i64 0,.int .i64 0] T2)).drew.heap.size ((w1.alloc (.cells #[.int .i64 0,.int .i64 0] T1)).alloc (.cells #[.int .i64 0,.int .i64 0] T2)).drew w2->Below (w.heap.size+1+1) w1 w2/\(w2.cell? ⟨w.heap.size+1+1,0,none⟩=some (.int .i64 0)/\w2.cell? ⟨w.heap.size+1+1,1,none⟩=some (.int .i64 0)/\w2.frozen? ⟨w.heap.size+1+1,0,none⟩=false/\w2.frozen? ⟨w.heap.size+1+1,1,none⟩=false)/\w2.cell? ⟨w.heap.size+1+1+1,0,none⟩=some (.int .i64 0)/\w2.cell? ⟨w.heap.size+1+1+1,1,none⟩=some (.int .i64 0)/\w2.frozen? ⟨w.heap.size+1+1+1,0,none⟩=false/\w2.frozen? ⟨w.heap.size+1+1+1,1,none⟩=false):=fun T1 T2 w2 hb=>by
  obtain⟨I,J⟩:=q1o hb;have B:((w1.alloc (.cells #[.int .i64 0,.int .i64 0] T1)).alloc (.cells #[.int .i64 0,.int .i64 0] T2)).drew.heap.size=w.heap.size+1+1+1+1:=by show((w1.alloc (.cells #[.int .i64 0,.int .i64 0] T1)).alloc (.cells #[.int .i64 0,.int .i64 0] T2)).heap.size=_;simp[E]
  refine⟨(q _ _).trans (hb.mono (by rw[B];omega)),⟨(I _ _ (by rw[B];omega)).trans ?_,(I _ _ (by rw[B];omega)).trans ?_,(J _ _ (by rw[B];omega)).trans ?_,(J _ _ (by rw[B];omega)).trans ?_⟩,(I _ _ (by rw[B];omega)).trans ?_,(I _ _ (by rw[B];omega)).trans ?_,(J _ _ (by rw[B];omega)).trans ?_,(J _ _ (by rw[B];omega)).trans ?_⟩
  all_goals rw[<-E];simp[go_sem]
 have D:Hid (w1.heap.size=w.heap.size+1+1):=E;clear Z An hh Aa
 go_cut [0,2,6,7,8] (fun s0 s2 s6 s7 s8 wx=>s0=.pointer (some ⟨sb,0,none⟩)/\s2=.int .i64 ch/\s6=.pointer (some ⟨w.heap.size+1,0,none⟩)/\∃P Q,s7=.pointer (some ⟨P,0,none⟩)/\s8=.pointer (some ⟨Q,0,none⟩)/\TkB w1 wx (w.heap.size+1) P Q m)
 case first=>
  go_region_held3 (fun w'=>w'.cell? ⟨w,0,none⟩=some (.int .i64 i)/\w'.cell? ⟨w,1,none⟩=some (.int .i64 c))
   (first|with_reducible exact N.o _ j|with_reducible exact N.o _ (n _)|with_reducible exact N.o _ (q _ _)|with_reducible exact N.o _ C|with_reducible exact N.o _ (q1i C (Nat.le_of_eq D.o.symm) _)|with_reducible exact N.o _ (q1i (q1i C (Nat.le_of_eq D.o.symm) _) (Nat.le_of_eq D.o.symm) _)|with_reducible exact N.o _ (q4j C (by omega))|with_reducible exact N.o _ (q4j (q4j C (by omega)) (by omega))|with_reducible exact N.o _ (q4j (q1i C (Nat.le_of_eq D.o.symm) _) (by omega))|with_reducible exact N.o _ (q4j (q4j (q1i C (Nat.le_of_eq D.o.symm) _) (by omega)) (by omega)))
   (first|(go_at_call 217;go_fit Ac.o;rintro e w2⟨rfl,V⟩;have C:=Ai.o _ V)|(go_at_call 217;go_fit (Ad.o _);rintro e w2⟨rfl,V⟩;obtain⟨C,x0,x1,f0,f1,X⟩:=Aj.o _ _ V;have A3:=fun O=>ka x0 O;have A4:=fun O=>ka x1 O;have Ay:=fun O=>kaf (Nat.lt_of_succ_le X) f0 O;have Az:=fun O=>kaf (Nat.lt_of_succ_le X) f1 O)|(go_at_call 217;go_fit (Ae.o _ _);rintro e w2⟨rfl,V⟩;obtain⟨C,⟨x0,x1,f0,f1⟩,x2,x3,f2,f3⟩:=Ak.o _ _ _ V))
  all_goals
   go_wp2
   go_meet
   first
    | with_reducible exact⟨rfl,rfl,rfl,w2.heap.size,w2.heap.size+1,rfl,rfl,g1a (w2:=w2) (b:=w.heap.size+1) (m:=m) (T7:=172) (T8:=54) C D.o.symm⟩
    | with_reducible exact⟨rfl,rfl,rfl,w2.heap.size+1,w2.heap.size,rfl,rfl,g1b (w2:=w2) (b:=w.heap.size+1) (m:=m) (T7:=172) (T8:=54) C D.o.symm⟩
    | with_reducible exact⟨rfl,rfl,rfl,w.heap.size+1+1,w2.heap.size,rfl,rfl,g1c (w2:=w2) (b:=w.heap.size+1) (m:=m) (T8:=54) C D.o.symm x0 x1⟩
    | with_reducible exact⟨rfl,rfl,rfl,w2.heap.size,w.heap.size+1+1,rfl,rfl,g1d (w2:=w2) (b:=w.heap.size+1) (m:=m) (T7:=172) C D.o.symm x0 x1⟩
    | with_reducible exact⟨rfl,rfl,rfl,w.heap.size+1+1,w.heap.size+1+1+1,rfl,rfl,g1s (w2:=w2) (b:=w.heap.size+1) (m:=m) (a:=w.heap.size+1+1) (d:=w.heap.size+1+1+1) C (by omega) (by omega) (by omega) x0 x1 x2 x3⟩
    | with_reducible exact⟨rfl,rfl,rfl,w.heap.size+1+1+1,w.heap.size+1+1,rfl,rfl,g1s (w2:=w2) (b:=w.heap.size+1) (m:=m) (a:=w.heap.size+1+1+1) (d:=w.heap.size+1+1) C (by omega) (by omega) (by omega) x2 x3 x0 x1⟩
 case rest=>
  obtain⟨rfl,rfl,rfl,P,Q,rfl,rfl,hT⟩:=hcut;have G:Hid (TkF w wc P Q m):=y7y HK.o hT;have Ar:Hid (Inv sb g mb wd R wc.drew S):=HK.o.inv.kept3 (hT.bw.block _ (by omega)) (hT.bw.block _ (by omega)) (hT.bw.block _ (by omega));have Ab:Hid (q0p w mb w wc.drew):=(q0p.of (HK.o.bw.trans (hT.bw.mono (by omega)))).drew;have o0:wc.drew.cell? ⟨Q,0,none⟩=some (.int .i64 m.o):=G.o.o0;have o1:wc.drew.cell? ⟨Q,1,none⟩=some (.int .i64 m.l):=G.o.o1;have p0:wc.drew.cell? ⟨P,0,none⟩=some (.int .i64 m.np):=G.o.p0;have p1:wc.drew.cell? ⟨P,1,none⟩=some (.int .i64 m.nc):=G.o.p1;have Af:Hid (P≠w.heap.size+1):=(show P≠w.heap.size+1 by have:=G.o.n7;omega);have Ag:Hid (Q≠w.heap.size+1):=(show Q≠w.heap.size+1 by have:=G.o.n8;omega)
  have As:Hid (Calls prog 109 #[.pointer (some ⟨sb,0,none⟩),.agg #[.int .i64 m.np,.int .i64 m.nc]] wc.drew fun e w'=>e=.returned (.agg #[.int .i64 k.o,.int .i64 k.l,.int .i64 k.ch,.int .i64 k.np,.int .i64 k.nc])/\TkF w w' P Q m/\q0p w mb w w'/\∃r,Inv sb g mb wd R w' r/\(∀a b,S a b=true->r a b=true)/\(∀a b,r a b=true->S a b=true\/i+1<=a)/\(m.np<R.length->r m.np m.nc=true)):=by
   refine(Ah.o wc.drew S Ar.o).mono ?_;rintro e w6⟨rfl,K,r,hI,z,y,x⟩;have A2:=HM.o.lo;refine⟨rfl,G.o.kept (mb:=mb) ⟨K.os,K.tape,K.output,K.size,K.block⟩ Aq.2.2,Ab.o.trans (K.mono Ab.o.size),r,hI,z,fun a b hab=>?_,x⟩;rcases y a b hab with h|h
   ·exact .inl h
   ·exact .inr (by omega)
  have At:Hid (∀W,Calls prog 218 #[.agg #[.int .i64 m.o,.int .i64 m.l],.agg #[.int .i64 k.o,.int .i64 k.l]] W fun e w'=>e=.returned (.agg #[.int .i64 ((m.o+k.o:Nat):Int),.int .i64 ((m.l+k.l:Nat):Int)])/\Below W W w'):=fun W=>v2n m.o m.l k.o k.l (by omega) (by omega) Ax Aw W
  clear hT Ah Ac Ad Ae Ai Aj Ak N f j n q a0 a1 E;have A0:=j4l;go_wp2_with fail
  go_region_held3 (fun w'=>w'.cell? ⟨Q,0,none⟩=some (.int .i64 m.o)/\w'.cell? ⟨Q,1,none⟩=some (.int .i64 m.l)/\w'.cell? ⟨P,0,none⟩=some (.int .i64 m.np)/\w'.cell? ⟨P,1,none⟩=some (.int .i64 m.nc))
   (first|with_reducible exact⟨o0,o1,p0,p1⟩|with_reducible exact⟨U.o0,U.o1,U.p0,U.p1⟩|with_reducible exact⟨A.o0,A.o1,A.p0,A.p1⟩|with_reducible exact⟨k7i Ag.o A.o0,k7i Ag.o A.o1,k7i Af.o A.p0,k7i Af.o A.p1⟩)
   (first|(go_at_call 109;refine As.o.mono ?_;rintro e w6⟨rfl,U,Av⟩)|(go_at_call 218;refine(At.o _).mono ?_;rintro e w7⟨rfl,u⟩;have A:=U.kept (q0p.of u) Aq.2.2;have r0:=A.r0;have r1:=A.r1;have r2:=A.r2;have r3:=A.r3;have r4:=A.r4;have y0:w7.frozen? ⟨w.heap.size+1,0,none⟩=false:=A.fr.frozen;have y1:w7.frozen? ⟨w.heap.size+1,1,none⟩=false:=A.fr.frozen;have y2:w7.frozen? ⟨w.heap.size+1,2,none⟩=false:=A.fr.frozen;have y3:w7.frozen? ⟨w.heap.size+1,3,none⟩=false:=A.fr.frozen;have y4:w7.frozen? ⟨w.heap.size+1,4,none⟩=false:=A.fr.frozen))
  all_goals
   obtain⟨s,r,Au,z,y,x⟩:=Av;go_wp2;exact bodyPost_ret (v:=.agg #[.int .i64 ((m.o:Int)+k.o),.int .i64 ((m.l:Int)+k.l),.int .i64 ch,.int .i64 m.np,.int .i64 m.nc]) (by simp[results,Tryz.results195,go_sem,r0,r1,r2,r3,r4]) rfl ⟨rfl,k4e (s.trans (q0p.of (u.mono s.size))) (by omega) _ _ _ _ _,r,(Au.W u).set5 (by omega) (by omega) (by omega) _ _ _ _ _,z,y,x⟩
theorem g0i{b:UInt8}(h:(((b.toNat:Nat):Int)==10)=true):b=10:=by
 have A:((b.toNat:Nat):Int)=10:=beq_iff_eq.1 h;exact UInt8.toNat_inj.1 (by simpa using(by omega:b.toNat=10))
theorem y6j{b:UInt8}(h:(((b.toNat:Nat):Int)==10)=false):¬b=10:=by
 rintro rfl;simp at h
theorem j9e(s:ByteArray)(wd:Int)(w:World)(hs:s.size<=2000000000):
  Calls prog 20 #[.string s,.int .i64 wd] w fun e w'=>e=.returned (.agg #[.int .i64 (stL wd s.data.toList).1,.int .i64 (stL wd s.data.toList).2.1])/\Below w w w':=by
 go_in;go_wp2
 go_loopw [6,7] (fun c i wr=>∃k:Nat,k<=s.size/\i=.int .i64 k/\c=.int .i64 (stL wd (s.data.toList.take k)).2.2/\Below w w wr
   /\wr.cell? ⟨w,0,none⟩=some (.int .i64 0)/\wr.cell? ⟨w,1,none⟩=some (.int .i64 0)/\wr.frozen? ⟨w,0,none⟩=false/\wr.frozen? ⟨w,1,none⟩=false
   /\wr.cell? ⟨w.heap.size+1,0,none⟩=some (.int .i64 (stL wd (s.data.toList.take k)).1)/\wr.cell? ⟨w.heap.size+1,1,none⟩=some (.int .i64 (stL wd (s.data.toList.take k)).2.1)/\wr.frozen? ⟨w.heap.size+1,0,none⟩=false/\wr.frozen? ⟨w.heap.size+1,1,none⟩=false)
  (fun _ i _=>s.size-(intOf i).toNat)
 case atStart=>
  exact⟨0,Nat.zero_le _,rfl,rfl,(Zb.alloc Zl _).alloc (by simp) _,by simp[go_sem],by simp[go_sem],by simp[go_sem],by simp[go_sem],by simp[go_sem,stL],by simp[go_sem,stL],by simp[go_sem],by simp[go_sem]⟩
 case round=>
  obtain⟨k,l,rfl,rfl,H,I,J,K,L,E,G,M,N⟩:=hrel;obtain⟨⟨Z,R⟩,⟨b,U⟩,⟨f,V⟩⟩:=y7t wd (s.data.toList.take k);have j:((s.data.toList.take k).length:Int)<=2000000000:=by have:=List.length_take_le k s.data.toList;omega
  generalize W:stL wd (s.data.toList.take k)=S at Z R b U f V E G⊢;have a:S.1<=2000000000:=by omega
  have d:S.2.1<=2000000000:=by omega
  have g:S.2.2<=2000000000:=by omega
  clear R U V j;have Q:Hid (stL wd (s.data.toList.take k)=S):=W;clear W;by_cases P:k<s.size
  ·have C:Hid (stL wd (s.data.toList.take (k+1))=stp wd S s[k]):=by
    have h:=v5v wd (s.data.toList.take k) s[k];rw[<-j9z s k P,Q.o]at h;exact h
   cases X:(((s[k].toNat:Nat):Int)==10)with
   | true=>
    have A:s[k]=10:=g0i X;have B:Hid (stL wd (s.data.toList.take (k+1))=(S.1,S.2.1+1,0)):=by rw[stp,if_pos A]at C;exact C
    clear A C;go_wp2
    go_roundw
    case rel=>
     refine⟨k+1,by omega,by go_num,by rw[B.o],H.setCell (p:=⟨w.heap.size+1,1,none⟩) (by simp) _,(cso (by omega)).trans I,(cso (by omega)).trans J,csf.trans K,csf.trans L,?_,?_,csf.trans M,csf.trans N⟩
     ·rw[B.o];exact(cso (by omega)).trans E
     ·rw[B.o];exact css G
    case measure=>simp[intOf];omega
   | false=>
    have A:¬s[k]=10:=y6j X;by_cases Y:wd<S.2.2+1
    ·have B:Hid (stL wd (s.data.toList.take (k+1))=(S.1+1,S.2.1,S.2.2+1)):=by rw[stp,if_neg A,if_pos Y]at C;exact C
     clear A C;go_wp2
     go_roundw
     case rel=>
      refine⟨k+1,by omega,by go_num,by rw[B.o],H.setCell (p:=⟨w.heap.size+1,0,none⟩) (by simp) _,(cso (by omega)).trans I,(cso (by omega)).trans J,csf.trans K,csf.trans L,?_,?_,csf.trans M,csf.trans N⟩
      ·rw[B.o];exact css E
      ·rw[B.o];exact(cso (by omega)).trans G
     case measure=>simp[intOf];omega
    ·have B:Hid (stL wd (s.data.toList.take (k+1))=(S.1,S.2.1,S.2.2+1)):=by rw[stp,if_neg A,if_neg Y]at C;exact C
     clear A C;go_wp2
     go_roundw
     case rel=>
      refine⟨k+1,by omega,by go_num,by rw[B.o],H,I,J,K,L,?_,?_,M,N⟩
      ·rw[B.o];exact E
      ·rw[B.o];exact G
     case measure=>simp[intOf];omega
  ·have D:s.data.toList.take k=s.data.toList:=List.take_of_length_le (by rw[<-Lib.size_eq];omega);have O:=Q.o;rw[D]at O;rw[<-O]at E G;clear O D;go_wp2;exact bodyPost_ret (v:=.agg #[.int .i64 (stL wd s.data.toList).1,.int .i64 (stL wd s.data.toList).2.1]) (by simp[results,Tryz.results20,go_sem,I,J]) rfl ⟨rfl,(H.setCell (p:=⟨w,0,none⟩) (by simp) _).setCell (p:=⟨w,1,none⟩) (by simp) _⟩
def Gd(r:List UInt8):Prop:=∀p q,r≠p++32::10::q
theorem k1p{a b:List UInt8}(ha:Gd a)(hb:Gd b)(h:¬(a.getLast?=some 32/\b.head?=some 10)):Gd (a++b):=by
 intro p q e;rcases List.append_eq_append_iff.1 e with⟨c,B,A⟩|⟨c,B,A⟩
 ·exact hb c q A
 ·cases c with
  | nil=>exact hb [] q (by simpa using A.symm)
  | cons x c=>
   rw[List.cons_append,List.cons.injEq]at A;obtain⟨rfl,A⟩:=A;cases c with
   | nil=>
    refine h ⟨by rw[B];simp,?_⟩
    have:b=10::q:=by simpa using A.symm
    rw[this];rfl
   | cons y c=>
    rw[List.cons_append,List.cons.injEq]at A;obtain⟨rfl,_⟩:=A;exact ha p c B
theorem z8p{r:List UInt8}(h:∀c∈r,c≠32):Gd r:=fun p q e=>h 32 (by rw[e];simp) rfl
theorem z3x{r:List UInt8}(h:∀c∈r,c≠10):Gd r:=fun p q e=>h 10 (by rw[e];simp) rfl
def GdD(D:Tr):Prop:=∀r,Txt D r->Gd r
def HdD(D:Tr):Prop:=∀r,Txt D r->∃a r',r=a::r'/\a≠32/\a≠10
def LsD(D:Tr):Prop:=∀r,Txt D r->∃a r',r=r'++[a]/\a≠32/\a≠10
theorem q8x{a b:Tr}(ha:GdD a)(hb:GdD b)(h:LsD a\/HdD b):GdD (twD a b):=fun r hr=>by
 obtain⟨ra,rb,h1,h2,rfl⟩:=z7c hr;refine k1p (ha ra h1) (hb rb h2) fun⟨e1,e2⟩=>?_
 rcases h with h|h
 ·obtain⟨x,r',rfl,hx,_⟩:=h ra h1;simp at e1;exact hx e1
 ·obtain⟨x,r',rfl,_,hx⟩:=h rb h2;simp at e2;exact hx e2
theorem y1u{s:List UInt8}(h:∀c∈s,c≠10):GdD (wdD s):=fun r hr=>by rw[z7d hr];exact z3x h
theorem j5j{D:Tr}{op:Int}(hD:D=.leaf ⟨op,⟨#[]⟩,0⟩)(A:op=2\/op=3):GdD D:=fun r hr=>by
 subst hD;rcases hr with h|⟨deep,cs,cs',h⟩
 ·rcases A with rfl|rfl
  ·cases h;exact z3x (by simp)
  ·cases h;exact z3x (by simp)
 ·have e:r=[10]++List.replicate deep 32:=by
   rcases A with rfl|rfl<;>(cases h;rfl)
  rw[e];exact k1p (z8p (by simp)) (z3x fun c hc=>by rw[List.eq_of_mem_replicate hc];decide) fun h=>by simp at h
theorem y1r:GdD blD:=j5j rfl (.inl rfl)
theorem y6g:GdD sfD:=j5j rfl (.inr rfl)
theorem y1s{a:Tr}(h:GdD a):GdD (dpD a):=fun _ hr=>h _ (k9l hr)
theorem y1t{a:Tr}(h:GdD a):GdD (grD a):=fun _ hr=>h _ (k9m hr)
theorem y1w{a:Tr}(h:HdD a):HdD (grD a):=fun _ hr=>h _ (k9m hr)
theorem y2v{a:Tr}(h:LsD a):LsD (dpD a):=fun _ hr=>h _ (k9l hr)
theorem y2w{a:Tr}(h:LsD a):LsD (grD a):=fun _ hr=>h _ (k9m hr)
theorem k1s{a b:Tr}(h:HdD a):HdD (twD a b):=fun r hr=>by
 obtain⟨ra,rb,h1,h2,rfl⟩:=z7c hr;obtain⟨x,r',rfl,hx⟩:=h ra h1;exact⟨x,r'++rb,rfl,hx⟩
theorem q9d{a b:Tr}(h:LsD b):LsD (twD a b):=fun r hr=>by
 obtain⟨ra,rb,h1,h2,rfl⟩:=z7c hr;obtain⟨x,r',rfl,hx⟩:=h rb h2;exact⟨x,ra++r',by simp,hx⟩
theorem y1x{c:UInt8}{s:List UInt8}(h:c≠32/\c≠10):HdD (wdD (c::s)):=fun _ hr=>⟨c,s,z7d hr,h⟩
theorem y6s{c:UInt8}{s:List UInt8}(h:c≠32/\c≠10):LsD (wdD (s++[c])):=fun _ hr=>⟨c,s,z7d hr,h⟩
structure Nb(D:Tr):Prop where
 h:HdD D
 l:LsD D
 g:GdD D
theorem z9g{s:List UInt8}(h0:s≠[])(h:∀c∈s,c≠32/\c≠10):Nb (wdD s):=by
 obtain⟨c,r,rfl⟩:=List.exists_cons_of_ne_nil h0;refine⟨y1x (h c (by simp)),?_,y1u fun x hx=>(h x hx).2⟩;have e:(c::r)=(c::r).dropLast++[(c::r).getLast h0]:=(List.dropLast_concat_getLast h0).symm;rw[e];exact y6s (h _ (List.getLast_mem h0))
theorem y6y{l:Nat}{x:Td}{d:Tr}(h:Nb d):Nb (inD l x d):=by
 unfold inD
 split
 ·have A:Nb (wdD [40]):=z9g (by simp) (by decide);have B:Nb (wdD [41]):=z9g (by simp) (by decide);exact⟨k1s A.h,q9d (q9d B.l),q8x A.g (q8x h.g B.g (.inl h.l)) (.inl A.l)⟩
 ·exact h
theorem y6z:∀ps:List (Td × Tr),(∀p∈ps,Nb p.2)->ps≠[]->Nb (kdD ps)
 | [p],h,_=>h p (by simp)
 | p::q::r,h,_=>by
  have hp:=h p (by simp);have ih:=y6z (q::r) (fun z hz=>h z (by simp at hz⊢;right;exact hz)) (by simp);have h1:Nb (wdD [44]):=z9g (by simp) (by decide);exact⟨k1s (k1s hp.h),q9d (q9d ih.l),q8x (q8x hp.g h1.g (.inl hp.l)) (q8x y1r ih.g (.inr ih.h)) (.inl (q9d h1.l))⟩
theorem j6t{op:List UInt8}{o cl:UInt8}{ps:List (Td × Tr)}(h:∀p∈ps,Nb p.2)(ho:∀c∈op++[o],c≠32/\c≠10)(hc:cl≠32/\cl≠10):Nb (q1g (op++[o]) [cl] ps):=by
 have B:Nb (wdD (op++[o])):=z9g (by simp) ho;have C:Nb (wdD [cl]):=z9g (by simp) (fun c hc'=>by simp at hc';subst hc';exact hc);unfold q1g
 split
 ·refine z9g (by simp) fun c hc'=>?_
  rcases List.mem_append.1 hc' with A|A
  ·exact ho c A
  ·simp at A;subst A;exact hc
 ·rename_i h0;have D:=y6z ps h fun e=>h0 (by rw[e];rfl)
  exact⟨y1w (k1s B.h),y2w (q9d (q9d (q9d C.l))),y1t (q8x B.g (q8x (y1s (q8x y6g D.g (.inr D.h))) (q8x y6g C.g (.inr C.h)) (.inl (y2v (q9d D.l)))) (.inl B.l))⟩
theorem y6q{c:UInt8}(h:q2f c=true):c≠32/\c≠10:=⟨fun e=>by subst e;revert h;decide,fun e=>by subst e;revert h;decide⟩
theorem y5u{c:UInt8}(h:q4f c=true):c≠32/\c≠10:=⟨fun e=>by subst e;revert h;decide,fun e=>by subst e;revert h;decide⟩
theorem z9f{s:ByteArray}(h:q0o s=true):btL s≠[]/\∀c∈btL s,c≠32/\c≠10:=by
 have A:=q7m h;simp only[q0o,Bool.and_eq_true,decide_eq_true_eq,List.all_eq_true]at h;exact⟨fun e=>by rw[e]at A;simp at A,fun c hc=>y6q (h.2 c hc)⟩
theorem g0t{x:Td}{ps:List (Td × Tr)}(h:∀p∈ps,Nb p.2)(hx:exN x)(hk:ps.length=kdT x):Nb (q0g x ps):=by
 have H:kdT x=2->∃a b,ps=[a,b]/\Nb a.2/\Nb b.2:=fun e=>by
  rw[e]at hk
  match ps,hk with
  | [a,b],_=>exact⟨a,b,rfl,h a (by simp),h b (by simp)⟩
 have G:∀(l m:Nat)(c:UInt8)(a b:Td × Tr),c≠32/\c≠10->Nb a.2->Nb b.2->Nb (grD (twD (inD l a.1 a.2) (dpD (twD blD (twD (wdD [c,32]) (inD m b.1 b.2)))))):=fun l m c a b A ha hb=>by
  have J:=y6y (l:=l) (x:=a.1) ha;have C:=y6y (l:=m) (x:=b.1) hb;have D:HdD (wdD [c,32]):=y1x A
  have E:GdD (wdD [c,32]):=y1u fun z hz=>by
   simp at hz;rcases hz with rfl|rfl
   ·exact A.2
   ·decide
  exact⟨y1w (k1s J.h),y2w (q9d (y2v (q9d (q9d C.l)))),y1t (q8x J.g (y1s (q8x y1r (q8x E C.g (.inr C.h)) (.inr (k1s D)))) (.inl J.l))⟩
 rcases q1l hx with⟨B,_⟩|⟨B,I,_⟩|⟨B,I,_⟩|⟨B,_⟩|⟨B,_,_,C⟩|⟨B,_,_,C⟩
 ·rw[show q0g x ps=wdD (q2n x.n.toNat) by simp[q0g,B]];exact z9g (z7w _) fun c A=>y5u (q9r _ c A)
 ·rw[show q0g x ps=wdD (btL x.tx) by simp[q0g,B]];exact z9g (z9f I).1 (z9f I).2
 ·rw[show q0g x ps=q1g (btL x.tx++[40]) [41] ps by simp[q0g,B]];refine j6t h (fun c A=>?_) (by decide);rcases List.mem_append.1 A with A|A
  ·exact(z9f I).2 c A
  ·simp at A;subst A;decide
 ·rw[show q0g x ps=q1g ([]++[91]) [93] ps by simp[q0g,B]];exact j6t h (by decide) (by decide)
 ·obtain⟨a,b,rfl,D,E⟩:=H C;rw[show q0g x [a,b]=grD (twD (inD 0 a.1 a.2) (dpD (twD blD (twD (wdD [43,32]) (inD 1 b.1 b.2))))) by simp[q0g,tw2,B]];exact G 0 1 43 a b (by decide) D E
 ·obtain⟨a,b,rfl,D,E⟩:=H C;rw[show q0g x [a,b]=grD (twD (inD 1 a.1 a.2) (dpD (twD blD (twD (wdD [42,32]) (inD 2 b.1 b.2))))) by simp[q0g,tw2,B]];exact G 1 2 42 a b (by decide) D E
theorem j4c:∀F:Fo,F.ok->F.exs->∀p∈F.D,Nb p.2
 | .nil,_,_,p,hp=>by cases hp
 | .cons x k n,hok,hex,p,hp=>by
  have h1:=j4c k hok.2.1 fun y hy=>hex y (by simp[Fo.N,hy])
  have h2:=j4c n hok.2.2 fun y hy=>hex y (by simp[Fo.N,hy])
  rcases List.mem_cons.1 hp with rfl|hp
  ·exact g0t h1 (hex x (by simp[Fo.N])) (by rw[q3i];exact hok.1)
  ·exact h2 p hp
theorem y5l{t:List Td}(h:q0b t=0)(h9:opT t≠9):Nb (q0j t):=by
 obtain⟨x,y,k,rfl,E,H,P,Q⟩:=q5a h h9;have C:=j4c _ E H (y,q0g y k.D) (by simp[Fo.D]);have K:q0j (x::(Fo.cons y k .nil).N)=stD x (q0g y k.D):=q6p E P;have B:Nb (wdD [59]):=z9g (by simp) (by decide);rw[K];simp only at C;generalize q0g y k.D=D at C;have G:Nb (twD D (wdD [59])):=⟨k1s C.h,q9d B.l,q8x C.g B.g (.inl C.l)⟩;rcases Q with⟨J,I,_⟩|⟨J,_,_⟩
 ·rw[stD,if_pos J];have L:HdD (wdD ([108,101,116,32]++btL x.tx++[32,61])):=y1x (c:=108) (by decide)
  have M:LsD (wdD ([108,101,116,32]++btL x.tx++[32,61])):=by
   have e:[108,101,116,32]++btL x.tx++[32,61]=([108,101,116,32]++btL x.tx++[32])++[61]:=by simp
   rw[e];exact y6s (by decide)
  have O:GdD (wdD ([108,101,116,32]++btL x.tx++[32,61])):=y1u fun c A=>by
   rcases List.mem_append.1 A with A|A
   ·rcases List.mem_append.1 A with A|A
    ·simp at A;rcases A with rfl|rfl|rfl|rfl<;>decide
    ·exact((z9f I).2 c A).2
   ·simp at A;rcases A with rfl|rfl<;>decide
  exact⟨y1w (k1s L),y2w (q9d (y2v (q9d G.l))),y1t (q8x O (y1s (q8x y1r G.g (.inr G.h))) (.inl M))⟩
 ·rw[stD,if_neg (by omega)];exact G
theorem k1x{t:List Td}(h:q7f t=0):q0b t=0/\opT t≠9/\q4v t=(q0j t).N/\(q0j t).N.length<=400:=by
 have A:=h;unfold q7f at h
 split at h
 ·rename_i h0;exact absurd h h0
 ·rename_i h0
  split at h
  ·cases h
  ·rename_i h9
   split at h
   ·cases h
   ·rename_i hm;exact⟨by simpa using h0,h9,by rw[q4v,if_pos A],by omega⟩
theorem z8t{t:List Td}(h:q7f t=0)(ws:List Int):q6l (q4v t) ws=(q0j t).show ws:=by
 obtain⟨B,C,A,D⟩:=k1x h;exact z6t (q7h B C).w A (by rw[A];exact D)
def dnS(s:ByteArray):ByteArray:=wbS ((btL s).filter dnB)
theorem y2d{t:List Td}(h:q7f t=0){ws:List Int}{r:List UInt8}(hs:(q0j t).show ws=.ok r):dnS (wbS r)=dnS (wbS (q5i t))/\r.length<=2000000:=by
 obtain⟨C,D,I,J⟩:=k1x h;have E:=q7h C D;refine⟨?_,?_⟩
 ·show wbS (r.filter dnB)=wbS ((q5i t).filter dnB);rw[j4h C D hs]
 ·unfold Tr.show at hs
  split at hs
  ·cases B:(q0j t).lay 0 ws with
   | error e=>rw[B]at hs;cases hs
   | ok p=>
    obtain⟨G,A⟩:=p;rw[B]at hs;have H:=q6e _ 0 ws G A E.w B (by omega);cases A with
    | nil=>
     cases hs
     have:4000*(q0j t).N.length<=2000000:=by omega
     omega
    | cons a b=>cases hs
  ·cases hs
theorem c32{c:UInt8}(h:(c.toNat:Int)=32):c=32:=by
 apply UInt8.toNat_inj.1;show c.toNat=32;omega
theorem c10{c:UInt8}(h:(c.toNat:Int)=10):c=10:=by
 apply UInt8.toNat_inj.1;show c.toNat=10;omega
end Go.Proofs.YtfdppahhbpfnoaaGreatDoor
