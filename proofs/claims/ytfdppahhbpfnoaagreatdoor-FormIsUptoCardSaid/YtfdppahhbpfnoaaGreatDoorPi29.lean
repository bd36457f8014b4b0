import Derived.Test.YtfdppahhbpfnoaaGreatDoorPi27
import Derived.Deep.DeepFit
import Derived.Test.YtfdppahhbpfnoaaGreatDoorPi09
import Derived.Lay
import Derived.LaidMore
import Derived.LaidSub
import Derived.LaidOnce
import Derived.Test.YtfdppahhbpfnoaaGreatDoorPi24
open Go.Proofs.Tryz
namespace Go.Proofs.YtfdppahhbpfnoaaGreatDoor
open Go Go.RowKit
set_option maxRecDepth 100000
set_option maxHeartbeats 8000000
theorem j3v(a b c d e:Value)(w:World):(Instr.field 174 (.agg #[a,b,c,d,e]) 0).run prog w=.ok (.agg #[a,b]) w:=by kernel_rfl
theorem k3n(a b c d e:Value)(w:World):(Instr.field 174 (.agg #[a,b,c,d,e]) 1).run prog w=.ok c w:=by kernel_rfl
theorem j3w(a b c d e:Value)(w:World):(Instr.field 174 (.agg #[a,b,c,d,e]) 2).run prog w=.ok (.agg #[d,e]) w:=by kernel_rfl
structure TkB(w1 wx:World)(b b7 b8:Nat)(m:Mv):Prop where
 p0:wx.cell? ⟨b7,0,none⟩=some (.int .i64 m.np)
 p1:wx.cell? ⟨b7,1,none⟩=some (.int .i64 m.nc)
 o0:wx.cell? ⟨b8,0,none⟩=some (.int .i64 m.o)
 o1:wx.cell? ⟨b8,1,none⟩=some (.int .i64 m.l)
 n7:b<b7
 n8:b<b8
 bw:Below (b+1) w1 wx
theorem q1t{w1 w2:World}{n:Nat}(h:Below n w1 w2)(hn:n<=w1.heap.size)(O:Obj):Below n w1 (w2.alloc O):=h.alloc (Nat.le_trans hn h.size) O
section
variable {w1 w2:World} {b:Nat} {m:Mv} {T7 T8:TypeId}
theorem y8f(h:Below (b+1) w1 w2)(hb:b+1=w1.heap.size):TkB w1 ((w2.alloc (.cells #[.int .i64 m.np,.int .i64 m.nc] T7)).alloc (.cells #[.int .i64 m.o,.int .i64 m.l] T8)) b w2.heap.size (w2.heap.size+1) m:=
 have hs:=h.size
 ⟨by simp[go_sem],by simp[go_sem],by simp[go_sem],by simp[go_sem],by omega,by omega,q1t (q1t h (by omega) _) (by omega) _⟩
theorem y8g(h:Below (b+1) w1 w2)(hb:b+1=w1.heap.size):TkB w1 ((w2.alloc (.cells #[.int .i64 m.o,.int .i64 m.l] T8)).alloc (.cells #[.int .i64 m.np,.int .i64 m.nc] T7)) b (w2.heap.size+1) w2.heap.size m:=
 have hs:=h.size
 ⟨by simp[go_sem],by simp[go_sem],by simp[go_sem],by simp[go_sem],by omega,by omega,q1t (q1t h (by omega) _) (by omega) _⟩
theorem z5f{W:World}{a:Nat}{u0 u1 v0 v1:Value}(h0:W.cell? ⟨a,0,none⟩=some u0)(h1:W.cell? ⟨a,1,none⟩=some u1):((W.setCell ⟨a,0,none⟩ v0).setCell ⟨a,1,none⟩ v1).cell? ⟨a,0,none⟩=some v0/\((W.setCell ⟨a,0,none⟩ v0).setCell ⟨a,1,none⟩ v1).cell? ⟨a,1,none⟩=some v1:=
 ⟨(cso (by omega)).trans (css h0),css ((cso (by omega)).trans h1)⟩
theorem q5a{n a:Nat}{v0 v1:Value}(h:Below n w1 w2)(hn:n<=a):Below n w1 ((w2.setCell ⟨a,0,none⟩ v0).setCell ⟨a,1,none⟩ v1):=(h.setCell (p:=⟨a,0,none⟩) hn _).setCell (p:=⟨a,1,none⟩) hn _
theorem z6h{W:World}{a d:Nat}{u0 u1 s0 s1 v0 v1 t0 t1:Value}(A:a≠d)(h0:W.cell? ⟨a,0,none⟩=some u0)(h1:W.cell? ⟨a,1,none⟩=some u1)(k0:W.cell? ⟨d,0,none⟩=some s0)(k1:W.cell? ⟨d,1,none⟩=some s1):
  ((((W.setCell ⟨a,0,none⟩ v0).setCell ⟨a,1,none⟩ v1).setCell ⟨d,0,none⟩ t0).setCell ⟨d,1,none⟩ t1).cell? ⟨a,0,none⟩=some v0/\((((W.setCell ⟨a,0,none⟩ v0).setCell ⟨a,1,none⟩ v1).setCell ⟨d,0,none⟩ t0).setCell ⟨d,1,none⟩ t1).cell? ⟨a,1,none⟩=some v1/\((((W.setCell ⟨a,0,none⟩ v0).setCell ⟨a,1,none⟩ v1).setCell ⟨d,0,none⟩ t0).setCell ⟨d,1,none⟩ t1).cell? ⟨d,0,none⟩=some t0/\((((W.setCell ⟨a,0,none⟩ v0).setCell ⟨a,1,none⟩ v1).setCell ⟨d,0,none⟩ t0).setCell ⟨d,1,none⟩ t1).cell? ⟨d,1,none⟩=some t1:=by
 obtain⟨B,C⟩:=z5f (v0:=v0) (v1:=v1) h0 h1;obtain⟨D,E⟩:=z5f (W:=(W.setCell ⟨a,0,none⟩ v0).setCell ⟨a,1,none⟩ v1) (v0:=t0) (v1:=t1) ((cso (.inl A)).trans ((cso (.inl A)).trans k0)) ((cso (.inl A)).trans ((cso (.inl A)).trans k1));exact⟨(cso (.inl A.symm)).trans ((cso (.inl A.symm)).trans B),(cso (.inl A.symm)).trans ((cso (.inl A.symm)).trans C),D,E⟩
theorem y8h{u0 u1:Value}(h:Below (b+1) w1 w2)(hb:b+1=w1.heap.size)(x0:w2.cell? ⟨b+1,0,none⟩=some u0)(x1:w2.cell? ⟨b+1,1,none⟩=some u1):
  TkB w1 (((((w2.alloc (.cells #[.int .i64 0,.int .i64 0] T8)).setCell ⟨b+1,0,none⟩ (.int .i64 m.np)).setCell ⟨b+1,1,none⟩ (.int .i64 m.nc)).setCell ⟨w2,0,none⟩ (.int .i64 m.o)).setCell ⟨w2,1,none⟩ (.int .i64 m.l)) b (b+1) w2.heap.size m:=by
 have A:=World.block_lt_of_cell? w2 ⟨b+1,0,none⟩ x0;have B:b+1<w2.heap.size:=A;obtain⟨C,D,E,G⟩:=z6h (W:=w2.alloc (.cells #[.int .i64 0,.int .i64 0] T8)) (a:=b+1) (d:=w2.heap.size) (s0:=.int .i64 0) (s1:=.int .i64 0) (v0:=.int .i64 m.np) (v1:=.int .i64 m.nc) (t0:=.int .i64 m.o) (t1:=.int .i64 m.l) (by omega) (ka x0 _) (ka x1 _) (by simp[go_sem]) (by simp[go_sem]);exact⟨C,D,E,G,by omega,by omega,q5a (q5a (q1t h (by omega) _) (by omega)) (by omega)⟩
theorem y8i{u0 u1:Value}(h:Below (b+1) w1 w2)(hb:b+1=w1.heap.size)(x0:w2.cell? ⟨b+1,0,none⟩=some u0)(x1:w2.cell? ⟨b+1,1,none⟩=some u1):
  TkB w1 (((w2.alloc (.cells #[.int .i64 m.np,.int .i64 m.nc] T7)).setCell ⟨b+1,0,none⟩ (.int .i64 m.o)).setCell ⟨b+1,1,none⟩ (.int .i64 m.l)) b w2.heap.size (b+1) m:=by
 have A:=World.block_lt_of_cell? w2 ⟨b+1,0,none⟩ x0;have B:b+1<w2.heap.size:=A;obtain⟨C,D⟩:=z5f (W:=w2.alloc (.cells #[.int .i64 m.np,.int .i64 m.nc] T7)) (v0:=.int .i64 m.o) (v1:=.int .i64 m.l) (ka x0 _) (ka x1 _);exact⟨(cso (by omega)).trans ((cso (by omega)).trans (by simp[go_sem])),(cso (by omega)).trans ((cso (by omega)).trans (by simp[go_sem])),C,D,by omega,by omega,q5a (q1t h (by omega) _) (by omega)⟩
theorem y8t{a d:Nat}{u0 u1 s0 s1:Value}(h:Below (b+1) w1 w2)(A:a≠d)(ha:b<a)(hd:b<d)(h0:w2.cell? ⟨a,0,none⟩=some u0)(h1:w2.cell? ⟨a,1,none⟩=some u1)(k0:w2.cell? ⟨d,0,none⟩=some s0)(k1:w2.cell? ⟨d,1,none⟩=some s1):
  TkB w1 ((((w2.setCell ⟨a,0,none⟩ (.int .i64 m.np)).setCell ⟨a,1,none⟩ (.int .i64 m.nc)).setCell ⟨d,0,none⟩ (.int .i64 m.o)).setCell ⟨d,1,none⟩ (.int .i64 m.l)) b a d m:=by
 obtain⟨B,C,D,E⟩:=z6h (v0:=.int .i64 m.np) (v1:=.int .i64 m.nc) (t0:=.int .i64 m.o) (t1:=.int .i64 m.l) A h0 h1 k0 k1;exact⟨B,C,D,E,ha,hd,q5a (q5a h (by omega)) (by omega)⟩
end
theorem k5x{W:World}{b b' o:Nat}{v v0 v1 v2 v3 v4:Value}(hb:b≠b')(h:W.cell? ⟨b,o,none⟩=some v):(((((W.setCell ⟨b',0,none⟩ v0).setCell ⟨b',1,none⟩ v1).setCell ⟨b',2,none⟩ v2).setCell ⟨b',3,none⟩ v3).setCell ⟨b',4,none⟩ v4).cell? ⟨b,o,none⟩=some v:=
 (cso (.inl hb.symm)).trans ((cso (.inl hb.symm)).trans ((cso (.inl hb.symm)).trans ((cso (.inl hb.symm)).trans ((cso (.inl hb.symm)).trans h))))
structure TkF(w wx:World)(b7 b8:Nat)(m:Mv):Prop where
 p0:wx.cell? ⟨b7,0,none⟩=some (.int .i64 m.np)
 p1:wx.cell? ⟨b7,1,none⟩=some (.int .i64 m.nc)
 o0:wx.cell? ⟨b8,0,none⟩=some (.int .i64 m.o)
 o1:wx.cell? ⟨b8,1,none⟩=some (.int .i64 m.l)
 r0:wx.cell? ⟨w.heap.size+1,0,none⟩=some (.int .i64 0)
 r1:wx.cell? ⟨w.heap.size+1,1,none⟩=some (.int .i64 0)
 r2:wx.cell? ⟨w.heap.size+1,2,none⟩=some (.int .i64 0)
 r3:wx.cell? ⟨w.heap.size+1,3,none⟩=some (.int .i64 0)
 r4:wx.cell? ⟨w.heap.size+1,4,none⟩=some (.int .i64 0)
 fr:q7u wx (w.heap.size+1)
 n7:w.heap.size+1<b7
 n8:w.heap.size+1<b8
theorem TkF.kept{w wx wy:World}{b7 b8 mb:Nat}{m:Mv}(h:TkF w wx b7 b8 m)(hb:q0v wx mb wx wy)(hm:mb<w.heap.size):TkF w wy b7 b8 m:=by
 have B:=h.n7;have C:=h.n8;have A:∀b o v,b≠mb->wx.cell? ⟨b,o,none⟩=some v->wy.cell? ⟨b,o,none⟩=some v:=fun b o v he hv=>(hb.cell (p:=⟨b,o,none⟩) (World.block_lt_of_cell? wx ⟨b,o,none⟩ hv) he).trans hv
 exact⟨A _ _ _ (by omega) h.p0,A _ _ _ (by omega) h.p1,A _ _ _ (by omega) h.o0,A _ _ _ (by omega) h.o1,A _ _ _ (by omega) h.r0,A _ _ _ (by omega) h.r1,A _ _ _ (by omega) h.r2,A _ _ _ (by omega) h.r3,A _ _ _ (by omega) h.r4,h.fr.kept (hb.block _ h.fr.lt (by omega)),B,C⟩
theorem y5m{sb g mb wd i c b7 b8:Nat}{R:List Pl}{S:Nat->Nat->Bool}{w w1 wx:World}{m:Mv}(h:Sk1 sb g mb wd i c R S w w1)(hT:TkB w1 wx (w.heap.size+1) b7 b8 m):TkF w wx b7 b8 m:=by
 have A:∀o v,w1.cell? ⟨w.heap.size+1,o,none⟩=some v->wx.cell? ⟨w.heap.size+1,o,none⟩=some v:=fun o v hv=>(hT.bw.cell (p:=⟨w.heap.size+1,o,none⟩) (by simp)).trans hv
 exact⟨hT.p0,hT.p1,hT.o0,hT.o1,A _ _ h.r0,A _ _ h.r1,A _ _ h.r2,A _ _ h.r3,A _ _ h.r4,h.fr.kept (hT.bw.block _ (by omega)),hT.n7,hT.n8⟩
theorem v5p{R:List Pl}{L M i nx dp wd c ch:Nat}{ks:List (Nat × Tr)}{t:Tr}(sb g mb:Nat)(hR:R.length<=400)(Aa:Sp R L M i t nx dp ks)(hc:c<=wd)(hw:wd<=100)(hL:L<=400)(hM:M<=3200)(An:ch=0\/ch=1)(hh:t.lg=-1->ch=1)
  (Am:j1v sb g mb wd R (q3k R wd i c ch).np (q3k R wd i c ch).nc) (hV:∃k:Cv,k=(if(q3k R wd i c ch).np<R.length then crs R wd (q3k R wd i c ch).np (q3k R wd i c ch).nc else zCv)/\k.o=(vv R wd (q3k R wd i c ch).np (q3k R wd i c ch).nc).1.1/\k.l=(vv R wd (q3k R wd i c ch).np (q3k R wd i c ch).nc).1.2/\k.o<=400000/\k.l<=400000):z5q sb g mb wd R i c ch:=by
 intro w S h;have H:Hid (Inv sb g mb wd R w S):=h;have Aq:=h.lt;obtain⟨k,hk,Ap,Ao,Ax,Aw⟩:=hV;have hm:=j6l (ch:=ch) Aa hc hw hL hM;have Z:Hid (∀W:World,q4z W sb g wd R->Calls prog 217 #[.pointer (some ⟨sb,0,none⟩),.agg #[.int .i64 i,.int .i64 c],.int .i64 ch] W fun e w'=>e=.returned (.tuple #[.agg #[.int .i64 (q3k R wd i c ch).np,.int .i64 (q3k R wd i c ch).nc],.agg #[.int .i64 (q3k R wd i c ch).o,.int .i64 (q3k R wd i c ch).l]])/\Below W W w'):=fun W hW=>j2r sb g W hR Aa hc hw hL hM An hh hW
 have Ah:Hid (∀W S,Inv sb g mb wd R W S->Calls prog 109 #[.pointer (some ⟨sb,0,none⟩),.agg #[.int .i64 (q3k R wd i c ch).np,.int .i64 (q3k R wd i c ch).nc]] W fun e w'=>e=.returned (.agg #[.int .i64 k.o,.int .i64 k.l,.int .i64 k.ch,.int .i64 k.np,.int .i64 k.nc])/\Left sb g mb wd R S (q3k R wd i c ch).np (q3k R wd i c ch).np (q3k R wd i c ch).nc W w'):=fun W S hW=>by
  have:=Am W S hW
  rw[<-hk]at this;exact this
 have Al:tkC R wd i c ch=⟨(q3k R wd i c ch).o+k.o,(q3k R wd i c ch).l+k.l,ch,(q3k R wd i c ch).np,(q3k R wd i c ch).nc⟩:=by rw[tkC,j3k,Ap,Ao]
 rw[Al,cvV];dsimp only;clear hk Ap Ao Am Al h;generalize q3k R wd i c ch=m at *;have HM:Hid (y8n R wd i m):=hm;have ho:=hm.bo;have A1:=hm.bl;clear hm;go_in;go_wp2_with fail;have Y:Sk1 sb g mb wd i c R S w ((w.alloc (.cells #[.int .i64 i,.int .i64 c] 172)).alloc (.cells #[.int .i64 0,.int .i64 0,.int .i64 0,.int .i64 0,.int .i64 0] 174)):=z6z (nq:=0) H.o
 generalize(w.alloc (.cells #[.int .i64 i,.int .i64 c] 172)).alloc (.cells #[.int .i64 0,.int .i64 0,.int .i64 0,.int .i64 0,.int .i64 0] 174)=w1 at *
 have HK:Hid (Sk1 sb g mb wd i c R S w w1):=Y;have a0:=Y.a0;have a1:=Y.a1;have E:=Y.sz;clear Y
 have N:Hid (∀W,Below (w.heap.size+1+1) w1 W->W.cell? ⟨w,0,none⟩=some (.int .i64 i)/\W.cell? ⟨w,1,none⟩=some (.int .i64 c)):=fun W hb=>
  ⟨(hb.cell (p:=⟨w,0,none⟩) (by simp;omega)).trans a0,(hb.cell (p:=⟨w,1,none⟩) (by simp;omega)).trans a1⟩
 have j:Below (w.heap.size+1+1) w1 w1.drew:=(Below.refl _ w1).drew;have n:∀O,Below (w.heap.size+1+1) w1 (w1.alloc O).drew:=fun O=>(q1t (Below.refl _ w1) (by omega) O).drew
 have q:∀O1 O2,Below (w.heap.size+1+1) w1 ((w1.alloc O1).alloc O2).drew:=fun O1 O2=>(q1t (q1t (Below.refl _ w1) (by omega) O1) (by omega) O2).drew
 have f:Hid (∀W,Below (w.heap.size+1+1) w1 W->q4z W sb g wd R):=fun W hb=>HK.o.inv.pl.kept (hb.block _ (by omega)) (hb.block _ (by omega))
 have Ac:Hid (Calls prog 217 #[.pointer (some ⟨sb,0,none⟩),.agg #[.int .i64 i,.int .i64 c],.int .i64 ch] w1.drew fun e w'=>e=.returned (.tuple #[.agg #[.int .i64 m.np,.int .i64 m.nc],.agg #[.int .i64 m.o,.int .i64 m.l]])/\Below w1.drew.heap.size w1.drew w'):=Z.o _ (f.o _ j);have Ad:Hid (∀O,Calls prog 217 #[.pointer (some ⟨sb,0,none⟩),.agg #[.int .i64 i,.int .i64 c],.int .i64 ch] (w1.alloc O).drew fun e w'=>e=.returned (.tuple #[.agg #[.int .i64 m.np,.int .i64 m.nc],.agg #[.int .i64 m.o,.int .i64 m.l]])/\Below (w1.alloc O).drew.heap.size (w1.alloc O).drew w'):=fun O=>Z.o _ (f.o _ (n O))
 have Ae:Hid (∀O1 O2,Calls prog 217 #[.pointer (some ⟨sb,0,none⟩),.agg #[.int .i64 i,.int .i64 c],.int .i64 ch] ((w1.alloc O1).alloc O2).drew fun e w'=>e=.returned (.tuple #[.agg #[.int .i64 m.np,.int .i64 m.nc],.agg #[.int .i64 m.o,.int .i64 m.l]])/\Below ((w1.alloc O1).alloc O2).drew.heap.size ((w1.alloc O1).alloc O2).drew w'):=fun O1 O2=>Z.o _ (f.o _ (q O1 O2))
 have Ai:Hid (∀w2,Below w1.drew.heap.size w1.drew w2->Below (w.heap.size+1+1) w1 w2):=fun w2 hb=>j.trans (hb.mono (by show _<=w1.heap.size;omega))
 have Aj:Hid (∀T w2,Below (w1.alloc (.cells #[.int .i64 0,.int .i64 0] T)).drew.heap.size (w1.alloc (.cells #[.int .i64 0,.int .i64 0] T)).drew w2->Below (w.heap.size+1+1) w1 w2/\w2.cell? ⟨w.heap.size+1+1,0,none⟩=some (.int .i64 0)/\w2.cell? ⟨w.heap.size+1+1,1,none⟩=some (.int .i64 0)/\w2.frozen? ⟨w.heap.size+1+1,0,none⟩=false/\w2.frozen? ⟨w.heap.size+1+1,1,none⟩=false/\w.heap.size+1+1+1<=w2.heap.size):=fun T w2 hb=>by
  obtain⟨I,J⟩:=q1y hb;have B:(w1.alloc (.cells #[.int .i64 0,.int .i64 0] T)).drew.heap.size=w.heap.size+1+1+1:=by show(w1.alloc (.cells #[.int .i64 0,.int .i64 0] T)).heap.size=_;simp[E]
  have X:=hb.size;rw[B]at X;refine⟨(n _).trans (hb.mono (by rw[B];omega)),(I _ _ (by rw[B];omega)).trans ?_,(I _ _ (by rw[B];omega)).trans ?_,(J _ _ (by rw[B];omega)).trans ?_,(J _ _ (by rw[B];omega)).trans ?_,X⟩
  ·rw[<-E];simp[go_sem]
  ·rw[<-E];simp[go_sem]
  ·rw[<-E];simp[go_sem]
  ·rw[<-E];simp[go_sem]
 have Ak:Hid (∀T1 T2 w2,Below ((w1.alloc (.cells #[.int .i64 0,.int .i64 0] T1)).alloc (.cells #[.int .i64 0,.int .i64 0] T2)).drew.heap.size ((w1.alloc (.cells #[.int .i64 0,.int .i64 0] T1)).alloc (.cells #[.int .i64 0,.int .i64 0] T2)).drew w2->Below (w.heap.size+1+1) w1 w2/\(w2.cell? ⟨w.heap.size+1+1,0,none⟩=some (.int .i64 0)/\w2.cell? ⟨w.heap.size+1+1,1,none⟩=some (.int .i64 0)/\w2.frozen? ⟨w.heap.size+1+1,0,none⟩=false/\w2.frozen? ⟨w.heap.size+1+1,1,none⟩=false)/\w2.cell? ⟨w.heap.size+1+1+1,0,none⟩=some (.int .i64 0)/\w2.cell? ⟨w.heap.size+1+1+1,1,none⟩=some (.int .i64 0)/\w2.frozen? ⟨w.heap.size+1+1+1,0,none⟩=false/\w2.frozen? ⟨w.heap.size+1+1+1,1,none⟩=false):=fun T1 T2 w2 hb=>by
  obtain⟨I,J⟩:=q1y hb;have B:((w1.alloc (.cells #[.int .i64 0,.int .i64 0] T1)).alloc (.cells #[.int .i64 0,.int .i64 0] T2)).drew.heap.size=w.heap.size+1+1+1+1:=by show((w1.alloc (.cells #[.int .i64 0,.int .i64 0] T1)).alloc (.cells #[.int .i64 0,.int .i64 0] T2)).heap.size=_;simp[E]
  refine⟨(q _ _).trans (hb.mono (by rw[B];omega)),⟨(I _ _ (by rw[B];omega)).trans ?_,(I _ _ (by rw[B];omega)).trans ?_,(J _ _ (by rw[B];omega)).trans ?_,(J _ _ (by rw[B];omega)).trans ?_⟩,(I _ _ (by rw[B];omega)).trans ?_,(I _ _ (by rw[B];omega)).trans ?_,(J _ _ (by rw[B];omega)).trans ?_,(J _ _ (by rw[B];omega)).trans ?_⟩
  all_goals rw[<-E];simp[go_sem]
 have D:Hid (w1.heap.size=w.heap.size+1+1):=E;clear Z An hh Aa
 go_cut [0,2,6,7,8] (fun s0 s2 s6 s7 s8 wx=>s0=.pointer (some ⟨sb,0,none⟩)/\s2=.int .i64 ch/\s6=.pointer (some ⟨w.heap.size+1,0,none⟩)/\∃P Q,s7=.pointer (some ⟨P,0,none⟩)/\s8=.pointer (some ⟨Q,0,none⟩)/\TkB w1 wx (w.heap.size+1) P Q m)
 case first=>
  go_region_held3 (fun w'=>w'.cell? ⟨w,0,none⟩=some (.int .i64 i)/\w'.cell? ⟨w,1,none⟩=some (.int .i64 c))
   (first|with_reducible exact N.o _ j|with_reducible exact N.o _ (n _)|with_reducible exact N.o _ (q _ _)|with_reducible exact N.o _ C|with_reducible exact N.o _ (q1t C (Nat.le_of_eq D.o.symm) _)|with_reducible exact N.o _ (q1t (q1t C (Nat.le_of_eq D.o.symm) _) (Nat.le_of_eq D.o.symm) _)|with_reducible exact N.o _ (q5a C (by omega))|with_reducible exact N.o _ (q5a (q5a C (by omega)) (by omega))|with_reducible exact N.o _ (q5a (q1t C (Nat.le_of_eq D.o.symm) _) (by omega))|with_reducible exact N.o _ (q5a (q5a (q1t C (Nat.le_of_eq D.o.symm) _) (by omega)) (by omega)))
   (first|(go_at_call 217;go_fit Ac.o;rintro e w2⟨rfl,V⟩;have C:=Ai.o _ V)|(go_at_call 217;go_fit (Ad.o _);rintro e w2⟨rfl,V⟩;obtain⟨C,x0,x1,f0,f1,X⟩:=Aj.o _ _ V;have A3:=fun O=>ka x0 O;have A4:=fun O=>ka x1 O;have Ay:=fun O=>kaf (Nat.lt_of_succ_le X) f0 O;have Az:=fun O=>kaf (Nat.lt_of_succ_le X) f1 O)|(go_at_call 217;go_fit (Ae.o _ _);rintro e w2⟨rfl,V⟩;obtain⟨C,⟨x0,x1,f0,f1⟩,x2,x3,f2,f3⟩:=Ak.o _ _ _ V))
  all_goals
   go_wp2
   go_meet
   first
    | with_reducible exact⟨rfl,rfl,rfl,w2.heap.size,w2.heap.size+1,rfl,rfl,y8f (w2:=w2) (b:=w.heap.size+1) (m:=m) (T7:=172) (T8:=54) C D.o.symm⟩
    | with_reducible exact⟨rfl,rfl,rfl,w2.heap.size+1,w2.heap.size,rfl,rfl,y8g (w2:=w2) (b:=w.heap.size+1) (m:=m) (T7:=172) (T8:=54) C D.o.symm⟩
    | with_reducible exact⟨rfl,rfl,rfl,w.heap.size+1+1,w2.heap.size,rfl,rfl,y8h (w2:=w2) (b:=w.heap.size+1) (m:=m) (T8:=54) C D.o.symm x0 x1⟩
    | with_reducible exact⟨rfl,rfl,rfl,w2.heap.size,w.heap.size+1+1,rfl,rfl,y8i (w2:=w2) (b:=w.heap.size+1) (m:=m) (T7:=172) C D.o.symm x0 x1⟩
    | with_reducible exact⟨rfl,rfl,rfl,w.heap.size+1+1,w.heap.size+1+1+1,rfl,rfl,y8t (w2:=w2) (b:=w.heap.size+1) (m:=m) (a:=w.heap.size+1+1) (d:=w.heap.size+1+1+1) C (by omega) (by omega) (by omega) x0 x1 x2 x3⟩
    | with_reducible exact⟨rfl,rfl,rfl,w.heap.size+1+1+1,w.heap.size+1+1,rfl,rfl,y8t (w2:=w2) (b:=w.heap.size+1) (m:=m) (a:=w.heap.size+1+1+1) (d:=w.heap.size+1+1) C (by omega) (by omega) (by omega) x2 x3 x0 x1⟩
 case rest=>
  obtain⟨rfl,rfl,rfl,P,Q,rfl,rfl,hT⟩:=hcut;have G:Hid (TkF w wc P Q m):=y5m HK.o hT;have Ar:Hid (Inv sb g mb wd R wc.drew S):=HK.o.inv.kept3 (hT.bw.block _ (by omega)) (hT.bw.block _ (by omega)) (hT.bw.block _ (by omega));have Ab:Hid (q0v w mb w wc.drew):=(q0v.of (HK.o.bw.trans (hT.bw.mono (by omega)))).drew;have o0:wc.drew.cell? ⟨Q,0,none⟩=some (.int .i64 m.o):=G.o.o0;have o1:wc.drew.cell? ⟨Q,1,none⟩=some (.int .i64 m.l):=G.o.o1;have p0:wc.drew.cell? ⟨P,0,none⟩=some (.int .i64 m.np):=G.o.p0;have p1:wc.drew.cell? ⟨P,1,none⟩=some (.int .i64 m.nc):=G.o.p1;have Af:Hid (P≠w.heap.size+1):=(show P≠w.heap.size+1 by have:=G.o.n7;omega);have Ag:Hid (Q≠w.heap.size+1):=(show Q≠w.heap.size+1 by have:=G.o.n8;omega)
  have As:Hid (Calls prog 109 #[.pointer (some ⟨sb,0,none⟩),.agg #[.int .i64 m.np,.int .i64 m.nc]] wc.drew fun e w'=>e=.returned (.agg #[.int .i64 k.o,.int .i64 k.l,.int .i64 k.ch,.int .i64 k.np,.int .i64 k.nc])/\TkF w w' P Q m/\q0v w mb w w'/\∃r,Inv sb g mb wd R w' r/\(∀a b,S a b=true->r a b=true)/\(∀a b,r a b=true->S a b=true\/i+1<=a)/\(m.np<R.length->r m.np m.nc=true)):=by
   refine(Ah.o wc.drew S Ar.o).mono ?_;rintro e w6⟨rfl,K,r,hI,z,y,x⟩;have A2:=HM.o.lo;refine⟨rfl,G.o.kept (mb:=mb) ⟨K.os,K.tape,K.output,K.size,K.block⟩ Aq.2.2,Ab.o.trans (K.mono Ab.o.size),r,hI,z,fun a b hab=>?_,x⟩;rcases y a b hab with h|h
   ·exact .inl h
   ·exact .inr (by omega)
  have At:Hid (∀W,Calls prog 218 #[.agg #[.int .i64 m.o,.int .i64 m.l],.agg #[.int .i64 k.o,.int .i64 k.l]] W fun e w'=>e=.returned (.agg #[.int .i64 ((m.o+k.o:Nat):Int),.int .i64 ((m.l+k.l:Nat):Int)])/\Below W W w'):=fun W=>v1u m.o m.l k.o k.l (by omega) (by omega) Ax Aw W
  clear hT Ah Ac Ad Ae Ai Aj Ak N f j n q a0 a1 E;have A0:=j3v;go_wp2_with fail
  go_region_held3 (fun w'=>w'.cell? ⟨Q,0,none⟩=some (.int .i64 m.o)/\w'.cell? ⟨Q,1,none⟩=some (.int .i64 m.l)/\w'.cell? ⟨P,0,none⟩=some (.int .i64 m.np)/\w'.cell? ⟨P,1,none⟩=some (.int .i64 m.nc))
   (first|with_reducible exact⟨o0,o1,p0,p1⟩|with_reducible exact⟨U.o0,U.o1,U.p0,U.p1⟩|with_reducible exact⟨A.o0,A.o1,A.p0,A.p1⟩|with_reducible exact⟨k5x Ag.o A.o0,k5x Ag.o A.o1,k5x Af.o A.p0,k5x Af.o A.p1⟩)
   (first|(go_at_call 109;refine As.o.mono ?_;rintro e w6⟨rfl,U,Av⟩)|(go_at_call 218;refine(At.o _).mono ?_;rintro e w7⟨rfl,u⟩;have A:=U.kept (q0v.of u) Aq.2.2;have r0:=A.r0;have r1:=A.r1;have r2:=A.r2;have r3:=A.r3;have r4:=A.r4;have y0:w7.frozen? ⟨w.heap.size+1,0,none⟩=false:=A.fr.frozen;have y1:w7.frozen? ⟨w.heap.size+1,1,none⟩=false:=A.fr.frozen;have y2:w7.frozen? ⟨w.heap.size+1,2,none⟩=false:=A.fr.frozen;have y3:w7.frozen? ⟨w.heap.size+1,3,none⟩=false:=A.fr.frozen;have y4:w7.frozen? ⟨w.heap.size+1,4,none⟩=false:=A.fr.frozen))
  all_goals
   obtain⟨s,r,Au,z,y,x⟩:=Av;go_wp2;exact bodyPost_ret (v:=.agg #[.int .i64 ((m.o:Int)+k.o),.int .i64 ((m.l:Int)+k.l),.int .i64 ch,.int .i64 m.np,.int .i64 m.nc]) (by simp[results,Tryz.results195,go_sem,r0,r1,r2,r3,r4]) rfl ⟨rfl,k3c (s.trans (q0v.of (u.mono s.size))) (by omega) _ _ _ _ _,r,(Au.W u).set5 (by omega) (by omega) (by omega) _ _ _ _ _,z,y,x⟩
end Go.Proofs.YtfdppahhbpfnoaaGreatDoor
namespace Go.Proofs.YtfdppahhbpfnoaaGreatDoor
open Go.ChangeShapes Go.WideShapes Go.RowKit
set_option maxRecDepth 100000
def v5i : List (String × DataW Unit) := [("math/bits.deBruijn32tab", Rows.laid_math_bits_deBruijn32tab), ("math/bits.deBruijn64tab", Rows.laid_math_bits_deBruijn64tab), ("internal/strconv.uint64pow10", Rows.laid_internal_strconv_uint64pow10), ("unicode/utf8.acceptRanges", Rows.laid_unicode_utf8_acceptRanges), ("strconv.ErrRange", Rows.laid_strconv_ErrRange), ("strconv.ErrSyntax", Rows.laid_strconv_ErrSyntax), ("unicode.White_Space", Rows.laid_unicode_White_Space), ("strings.asciiSpace", Rows.laid_strings_asciiSpace), ("unicode/utf8.first", Rows.laid_unicode_utf8_first)]
abbrev y2w : List (String × DataW Unit) := [("math/bits.deBruijn32tab", Rows.laid_math_bits_deBruijn32tab), ("math/bits.deBruijn64tab", Rows.laid_math_bits_deBruijn64tab), ("internal/strconv.uint64pow10", Rows.laid_internal_strconv_uint64pow10), ("unicode/utf8.acceptRanges", Rows.laid_unicode_utf8_acceptRanges), ("errors.errorType", Rows.laid_errors_errorType), ("strconv.ErrRange", Rows.laid_strconv_ErrRange), ("strconv.ErrSyntax", Rows.laid_strconv_ErrSyntax), ("unicode.White_Space", Rows.laid_unicode_White_Space), ("strings.asciiSpace", Rows.laid_strings_asciiSpace), ("unicode/utf8.first", Rows.laid_unicode_utf8_first)]
def q7g(P:Program)(os:Os):World:=(k0z P os).layVars P v5i
theorem v5j(os:Os)(args:Array Value):laidMet prog v5i ((q7g prog os).forCall (fun _ _=>0) ⟨#[],args,[]⟩).memory:=by
 have A:(v5i.filter fun x=>(v5i.map (·.1)).contains x.1)=v5i:=List.filter_eq_self.2 fun x hx=>List.contains_iff_mem.2 (List.mem_map.2 ⟨x,hx,rfl⟩)
 have B:(v5i.filter fun x=>!(v5i.map (·.1)).contains x.1)=[]:=List.filter_eq_nil_iff.2 fun x hx=>by rw[List.contains_iff_mem.2 (List.mem_map.2 ⟨x,hx,rfl⟩)];simp
 have h:laidMet prog v5i (q7g prog os):=laidMet_layVars (w0:=k0z prog os) (v5i.map (·.1)) [] (by rw[A];rfl) (by rw[A];kernel_rfl) (by rw[A];kernel_rfl) (by rw[B];exact LaidIn.none);exact h.of_heap (by simp[World.memory,World.forCall,Input.heap])
theorem j9i(os:Os)(args:Array Value):((q7g prog os).forCall (fun _ _=>0) ⟨#[],args,[]⟩).Shaped prog:=World.shaped_of_ZipB (by kernel_rfl) (by kernel_rfl)
theorem y1t(os:Os)(args:Array Value):laidMetH prog y2w ((q7g prog os).forCall (fun _ _=>0) ⟨#[],args,[]⟩).memory:=
 laidMetH_of_parts (v5j os args) (by kernel_rfl)
theorem j0x{W:World}(h:laidMetH prog y2w W):Hnd W:=by
 have h1 := h.filter (fun x => x.1 == "errors.errorType")
 have e : (y2w.filter fun x => x.1 == "errors.errorType") = y0l := by rfl
 rw[e]at h1;exact z5r h1
theorem v5k{W:World}(h:laidMetH prog y2w W):z2u W:=by
 have h0:=(laidMetH_iff.1 h).1;refine⟨?_,?_⟩
 ·have h1 := h0.filter (fun x => x.1 == "internal/strconv.uint64pow10")
  have e : ((y2w.filter fun x => x.2.handleName?.isNone).filter fun x => x.1 == "internal/strconv.uint64pow10") = [("internal/strconv.uint64pow10", Lib.tabData .u64 Lib.pow10Tab)] := by kernel_rfl
  rw[e]at h1;exact Lib.tabIs_of_head (g:=4) (t:=321) (e:=255) (n:=20) (by kernel_rfl) (by kernel_rfl) (by kernel_rfl) (by kernel_rfl) (by kernel_rfl) (by kernel_rfl) h1
 ·have h1 := h0.filter (fun x => x.1 == "strings.asciiSpace")
  have e : ((y2w.filter fun x => x.2.handleName?.isNone).filter fun x => x.1 == "strings.asciiSpace") = [("strings.asciiSpace", Lib.tabData .u8 Lib.asciiSpaceTab)] := by kernel_rfl
  rw[e]at h1;exact Lib.tabIs_of_head (g:=1) (t:=216) (e:=5) (n:=256) (by kernel_rfl) (by kernel_rfl) (by kernel_rfl) (by kernel_rfl) (by kernel_rfl) (by kernel_rfl) h1
end Go.Proofs.YtfdppahhbpfnoaaGreatDoor
namespace Go.Proofs.YtfdppahhbpfnoaaGreatDoor
open Go Go.RowKit
set_option maxRecDepth 100000
set_option maxHeartbeats 4000000
structure z9u(wd:Nat)(ws:List ByteArray)(bL k:Nat)(w:World):Prop where
 rl:z9v w bL (ws.length+1)
 cl:∀j,k<=j->j<=ws.length->w.cell? ⟨bL,j,none⟩=some (.int .i64 ((best wd (ws.drop j):Nat):Int))
theorem z9u.kept{wd:Nat}{ws:List ByteArray}{bL k:Nat}{w w':World}(h:z9u wd ws bL k w)(h1:w'.heap[bL]?=w.heap[bL]?):z9u wd ws bL k w' where
 rl:=h.rl.kept h1
 cl:=fun j a b=>(World.cell?_of_block (w:=w) (a:=⟨bL,j,none⟩) h1).trans (h.cl j a b)
theorem z9u.made(wd:Nat)(ws:List ByteArray)(w:World):z9u wd ws w.heap.size ws.length (w.alloc (.cells (madeCells #[.int .i64 0] (ws.length+1)) 3)):=by
 have A:(w.alloc (.cells (madeCells #[.int .i64 0] (ws.length+1)) 3)).heap[w.heap.size]?=some (.cells (madeCells #[.int .i64 0] (ws.length+1)) 3 (0,0)):=heap_alloc_new w _;refine⟨⟨_,_,A,size_madeCells _ _⟩,fun j a b=>?_⟩;obtain rfl:j=ws.length:=by omega
 have:best wd (ws.drop ws.length)=0:=by rw[List.drop_length];rfl
 rw[this];simp only[World.cell?,A];exact k1q _ (by omega)
def v1e(g:Nat->Nat)(m:Nat):Int:=if m=0 then -1 else(q9f g m:Int)
structure k2u(wd:Nat)(ws:List ByteArray)(bL i m:Nat)(w:World):Prop where
 l:z9u wd ws bL (i+1) w
 c:w.cell? ⟨bL,i,none⟩=some (.int .i64 (v1e (fOf wd (ws.drop i)) m))
theorem k2u.set{wd:Nat}{ws:List ByteArray}{bL i m:Nat}{w:World}{z:Int}(h:z9u wd ws bL (i+1) w)(hi:i<ws.length)(hz:z=v1e (fOf wd (ws.drop i)) m):k2u wd ws bL i m (w.setCell ⟨bL,i,none⟩ (.int .i64 z)):=by
 obtain⟨B,A⟩:=h.rl.cell (i:=i) (by omega);refine⟨⟨h.rl.set,fun j a b=>(cso (.inr (by omega))).trans (h.cl j a b)⟩,?_⟩;rw[hz];exact css A
theorem k2u.kept{wd:Nat}{ws:List ByteArray}{bL i m:Nat}{w w':World}(h:k2u wd ws bL i m w)(h1:w'.heap[bL]?=w.heap[bL]?):k2u wd ws bL i m w' where
 l:=h.l.kept h1
 c:=(World.cell?_of_block (w:=w) (a:=⟨bL,i,none⟩) h1).trans h.c
theorem k2u.done{wd:Nat}{ws:List ByteArray}{bL i m:Nat}{w:World}(h:k2u wd ws bL i m w)(hi:i<ws.length)(hm:m=ws.length-i):z9u wd ws bL i w:=by
 have A:ws.drop i≠[]:=fun e=>by
  have:=congrArg List.length e
  rw[List.length_drop,List.length_nil]at this;omega
 have B:=h.c;refine⟨h.l.rl,fun j a b=>?_⟩;by_cases e:j=i
 ·subst e;rw[z3o wd A,List.length_drop,<-hm];rw[v1e,if_neg (by omega)]at B;exact B
 ·exact h.l.cl j (by omega) b
theorem k7b{g:Nat->Nat}{q:Nat}(hq:1<=q)(h:q=1\/g q<q9f g (q-1)):((g q:Nat):Int)=v1e g (q+1-1):=by
 obtain⟨m,rfl⟩:∃m,q=m+1:=⟨q-1,by omega⟩;simp only[Nat.add_sub_cancel]at h⊢;rw[v1e,if_neg (by omega),j6k,if_pos (by omega)]
theorem j6i{g:Nat->Nat}{q:Nat}(hq:1<=q)(h1:¬q=1)(h:¬g q<q9f g (q-1)):v1e g (q-1)=v1e g (q+1-1):=by
 obtain⟨m,rfl⟩:∃m,q=m+1:=⟨q-1,by omega⟩;simp only[Nat.add_sub_cancel]at h h1⊢;rw[v1e,if_neg (by omega),v1e,if_neg (by omega),j6k,if_neg (by omega)]
theorem y4y{ws:List ByteArray}{b0 o0 wd:Nat}{w wr:World}(hW:Wds w (some ⟨b0,o0,none⟩) ws)(hF:Few ws)(hw:wd<=100)(hb:Below w w wr)(i q c n:Nat)(h1:1<=q)(h2:i+q<=ws.length):
  Calls prog 55 #[.slice (some ⟨b0,o0+i,none⟩) q c,.int .i64 wd,.bool ((i:Int)+(q:Int)==(ws.length:Int))] (wr.drewN n) fun e w'=>e=.returned (.int .i64 (bd (ln ((ws.drop i).take q)) wd (q==ws.length-i)))/\w'=wr.drewN n:=by
 rw[y3z h2];exact(y1o q _ (k7c h1 h2).1 _ c wd _ _ ((hF.drop i).take q) hw (Wds.W ((z2x.drop hW i).take q) (q0f hb n))).mono fun _ _ h=>⟨h.1,h.2.symm⟩
theorem y4z{ws:List ByteArray}{b0 o0:Nat}{w wr:World}(hW:Wds w (some ⟨b0,o0,none⟩) ws)(hF:Few ws)(hb:Below w w wr)(i q c:Nat)(h1:1<=q)(h2:i+q<=ws.length):
  Calls prog 56 #[.slice (some ⟨b0,o0+i,none⟩) q c] wr fun e w'=>e=.returned (.string (jnS ((ws.drop i).take q)))/\wr=w':=by
 have:=q7e ((ws.drop i).take q) (some ⟨b0,o0+i,none⟩) c wr ((hF.drop i).take q) (Wds.W ((z2x.drop hW i).take q) hb)
 rw[(k7c h1 h2).1]at this;exact this
structure y2x(wd:Nat)(ws:List ByteArray)(w w1:World)(k:Nat)(done:List ByteArray)(L:Option Addr)(lc:Nat)(wx:World):Prop where
 b:Below (w.heap.size+1) w1 wx
 le:k<=ws.length
 dl:done.length<=k
 ro:q2g (w.heap.size+1) (.slice L done.length lc) done wx
 li:q1s wd ws=done++q1s wd (ws.drop k)
theorem k9d(ws:List ByteArray)(a:Option Addr)(cap wd:Nat)(w:World)(hc:ws.length<=cap)(hF:Few ws)(hw:wd<=100)(hW:Wds w a ws):
  Calls prog 25 #[.slice a ws.length cap,.int .i64 wd] w fun e w'=>(∃L c,e=.returned (.slice L (q1s wd ws).length c)/\q2g w (.slice L (q1s wd ws).length c) (q1s wd ws) w')/\Below w w w':=by
 have hl:=hF.1;have HW:Hid (Wds w a ws):=hW;have y:Hid (Few ws):=hF
 have Bd:∀W:World,(Instr.makeSlice 45 (.int .i64 ((ws.length:Int)+1)) (.int .i64 ((ws.length:Int)+1))).run prog W=.ok (.slice (some ⟨W,0,none⟩) (ws.length+1) (ws.length+1)) (W.alloc (.cells (madeCells #[.int .i64 0] (ws.length+1)) 3)):=fun W=>by
  have:=run_make_row' 45 3 _ 8 Tryz.underlying45 z2n rfl .i64 .i64 (ws.length+1) (by omega) (by omega) W
  have e:((ws.length+1:Nat):Int)=(ws.length:Int)+1:=by omega
  rw[e]at this;exact this
 have HM:Hid (z9u wd ws w.heap.size ws.length (w.alloc (.cells (madeCells #[.int .i64 0] (ws.length+1)) 3))):=z9u.made wd ws w;clear hW hF;go_in;go_wp2
 go_loopw [7] (fun i wr=>Below w w wr/\∃k:Nat,k<=ws.length/\i=.int .i64 ((k:Int)-1)/\z9u wd ws w.heap.size k wr) (fun i _=>(intOf i+1).toNat)
 case atStart=>exact⟨(Below.refl _ w).alloc Zl _,ws.length,Nat.le_refl _,by go_num,HM.o⟩
 case round=>
  obtain⟨hb,k,hk,rfl,hL⟩:=hrel;have HB:Hid (Below w w wr):=hb;have d:Hid (z9u wd ws w.heap.size k wr):=hL;clear hb hL;by_cases Aj:k=0
  ·subst Aj;have A9:¬((0:Int)<=((0:Nat):Int)-1):=by omega
   have Ao:w.heap.size+1<=wr.heap.size:=d.o.rl.lt;generalize wr=w1 at HB d Ao;go_wp2
   go_loopw [10,11] (fun l i wx=>∃(k:Nat)(A:List ByteArray)(L:Option Addr)(x:Nat),i=.int .i64 (k:Int)/\l=.slice L A.length x/\y2x wd ws w w1 k A L x wx) (fun _ i _=>ws.length-(intOf i).toNat)
   case atStart=>exact⟨0,[],none,0,rfl,rfl,{b:=Below.refl _ _,le:=Nat.zero_le _,dl:=Nat.le_refl _,ro:=World.ownsRow_nil _ _ _ _,li:=rfl}⟩
   case round=>
    obtain⟨k,A,L,x,rfl,rfl,hO⟩:=hrel;have D:Hid (y2x wd ws w w1 k A L x wr):=hO;have Bb:=hO.le;have Bc:=hO.dl;have R:=hO.b;have Aq:Hid (z9u wd ws w.heap.size 0 wr):=d.o.kept (R.block _ (by omega));have Aa:Hid (Below w w wr):=HB.o.trans (R.mono (by omega));have Be:=R.size;clear R hO;by_cases r:k<ws.length
    ·have U:(k:Int)<(ws.length:Int):=by omega
     obtain⟨z,o0,ea,Av⟩:=HW.o.some (show 0<ws.length by omega);subst ea
     have N:ws.drop k≠[]:=fun e=>by
      have:=congrArg List.length e
      rw[List.length_drop,List.length_nil]at this;omega
     obtain⟨Aw,o⟩:=z1l wd N;rw[List.length_drop]at o;have g:=j2b (fOf wd (ws.drop k)) (ws.drop k).length (by rw[List.length_drop];omega);rw[<-z3o wd N]at g;have Y:Hid (fOf wd (ws.drop k) (agF wd (ws.drop k))=best wd (ws.drop k)):=g
     have E:Hid (∀q,agF wd (ws.drop k)<q->q<=ws.length-k->fOf wd (ws.drop k) q≠best wd (ws.drop k)):=fun q h1 h2=>by
      rw[z3o wd N];exact k0e _ _ q h1 (by rw[List.length_drop];exact h2) (by omega)
     have Z:Hid (q1s wd ws=(A++[jnS ((ws.drop k).take (agF wd (ws.drop k)))])++q1s wd (ws.drop (k+agF wd (ws.drop k)))):=by
      show q1s wd ws=_;rw[D.o.li,q3v wd N,List.drop_drop,List.append_assoc];rfl
     have A2:best wd (ws.drop k)<=1300000:=j2l hw _ _ Zl (y.o.drop k);have Af:Hid (∀W:World,z9u wd ws w.heap.size 0 W->W.cell? ⟨w,k,none⟩=some (.int .i64 ((best wd (ws.drop k):Nat):Int))):=fun W h=>h.cl k (Nat.zero_le _) (by omega)
     generalize Au:agF wd (ws.drop k)=av at Y E Z Aw o;generalize best wd (ws.drop k)=tv at Y E Af A2;clear N g Au;go_wp2
     go_loopw [12] (fun v wy=>∃m q:Nat,wy=wr.drewN m/\av<=q/\q<=ws.length-k/\v=.int .i64 (q:Int)) (fun v _=>(intOf v).toNat)
     case atStart=>exact⟨0,ws.length-k,rfl,o,Nat.le_refl _,by congr 1;omega⟩
     case round=>
      rename_i wo _;obtain⟨m,q,Q,P,Am,rfl⟩:=hrel;have At:=(show Hid (wr=_)from Q)
      have f:Hid (z9u wd ws w.heap.size 0 wr):=by
       show z9u _ _ _ _ _;rw[Q];exact Aq.o.kept rfl
      have C:Hid (Below w w wr):=by
       show Below _ _ _;rw[Q];exact q0f Aa.o m
      have A1:w.heap.size+1<=wr.heap.size:=f.o.rl.lt
      have Ae:Hid (y2x wd ws w w1 k A L x wr):=by
       show y2x _ _ _ _ _ _ _ _ _;rw[Q];exact⟨q0f D.o.b m,D.o.le,D.o.dl,D.o.ro,D.o.li⟩
      clear Q;have c1:=Af.o wr f.o;have V:k+q<=ws.length:=by omega
      have A6:(k:Int)+(q:Int)<=(ws.length:Int):=by omega
      have A0:=j9b z o0 ws.length cap k q (by omega) (by omega);have H:wr.cell? ⟨w,k+q,none⟩=some (.int .i64 ((best wd (ws.drop (k+q)):Nat):Int)):=f.o.cl (k+q) (by omega) V
      have B:Hid (∀n,Calls prog 55 #[.slice (some ⟨z,o0+k,none⟩) q (cap-k),.int .i64 wd,.bool ((k:Int)+(q:Int)==(ws.length:Int))] (wr.drewN n) fun e w'=>e=.returned (.int .i64 (bd (ln ((ws.drop k).take q)) wd (q==ws.length-k)))/\w'=wr.drewN n):=fun n=>
       y4y HW.o y.o hw C.o k q (cap-k) n (by omega) V
      have HJ:Hid (∀n,Calls prog 56 #[.slice (some ⟨z,o0+k,none⟩) q (cap-k)] (wr.drewN n) fun e w'=>e=.returned (.string (jnS ((ws.drop k).take q)))/\wr.drewN n=w'):=fun n=>
       y4z HW.o y.o (q0f C.o n) k q (cap-k) (by omega) V
      have K:Hid (fOf wd (ws.drop k) q=bd (ln ((ws.drop k).take q)) wd (q==ws.length-k)+best wd (ws.drop (k+q))):=j3t wd ws k q;have I:=j3u hw (y.o.drop k) q;rw[K.o]at I;generalize bd (ln ((ws.drop k).take q)) wd (q==ws.length-k)=bv at B K I;generalize best wd (ws.drop (k+q))=sv at H K I;by_cases S:bv+sv=tv
      ·have An:q=av:=by
        rcases Nat.lt_or_ge av q with h|h
        ·exact absurd (K.o.trans S) (E.o q h Am)
        ·omega
       subst An;have Az:((bv:Int)+(sv:Int) != (tv:Int))=false:=by simp;omega
       generalize jnS ((ws.drop k).take q)=s at HJ Z;clear S;go_wp2_with fail
       go_quiet ((go_at_call 55;exact Calls.quiet_of_same (B.o _)))
       go_wp2_with fail;refine(HJ.o nq).mono ?_;rintro e w2⟨rfl,rfl⟩;have Ad:Hid (q2g (w.heap.size+1) (.slice L A.length x) A (wr.drewN nq)):=Ae.o.ro;have Ap:Hid (Below (w.heap.size+1) w1 (wr.drewN nq)):=q0f Ae.o.b nq;obtain⟨i0,Ax,A3,A4,A5⟩:=info_parts z0t;go_wp2_with(at_builtin;refine wpList_append_lies _ rfl _ _ 58 rfl (w.heap.size+1) 9 i0 _ 1 16 Tryz.underlying58 Ax A3 A4 A5 rfl (by decide) _ _ _ rfl (World.ownsRow.alloc (w:=wr.drewN nq) Ad.o _) ⟨wr,0,none⟩ 1 1 [.string s] rfl rfl (cell_one_new (wr.drewN nq) _ _) (by intro u hu;simp at hu;subst hu;rfl) (by decide) (by unfold maxLen;omega) (by omega) (by simp;omega) (wr.heap.size+1) (by simp) ?_);intro g2 M w3 O J Ah Al;have Ai:=(Ap.o.alloc (show w.heap.size+1<=(wr.drewN nq).heap.size from A1) (.cells #[.string s] 9)).grown J (by simp;omega) (fun j hj=>(World.ownsRow.lt Ad.o j hj).1)
       have Ag:q2g (w.heap.size+1) (.slice (some ⟨g2,0,none⟩) (A++[s]).length M) (A++[s]) w3:=by
        show w3.ownsRow _ _ _ _ _ _;rw[q2f,List.length_append];exact O
       have As:Hid (y2x wd ws w w1 (k+q) (A++[s]) (some ⟨g2,0,none⟩) M w3):=⟨Ai,V,by simp;omega,Ag,Z.o⟩;clear O J Ai Ag Ah Al;go_wp2
       go_roundw
       case rel=>exact⟨k+q,A++[s],some ⟨g2,0,none⟩,M,by go_num,by rw[List.length_append];rfl,As.o⟩
       case measure=>simp[intOf];omega
      ·have An:av<q:=by
        rcases Nat.lt_or_ge av q with h|h
        ·exact h
        ·obtain rfl:q=av:=by omega
         exact absurd (K.o.symm.trans Y.o) S
       have Az:((bv:Int)+(sv:Int) != (tv:Int))=true:=by simp;omega
       clear S;go_wp2_with fail
       go_quiet ((go_at_call 55;exact Calls.quiet_of_same (B.o _)))
       go_wp2
       go_roundw
       case rel=>exact⟨m+nq,q-1,by rw[At.o,World.drewN_drewN],by omega,by omega,by congr 1;omega⟩
       case measure=>simp[intOf];omega
    ·have U:¬(k:Int)<(ws.length:Int):=by omega
     have HE:Hid (q1s wd ws=A):=by
      show q1s wd ws=A;rw[D.o.li,List.drop_eq_nil_of_le (by omega),q4f,List.append_nil]
     go_wp2;go_ret;rw[HE.o];exact⟨⟨L,x,rfl,Joins.ownsRow_le D.o.ro (by omega)⟩,Aa.o⟩
  ·obtain⟨i,rfl⟩:∃i,k=i+1:=⟨k-1,by omega⟩;have U:(((i+1:Nat):Int)-1)=(i:Int):=by omega
   rw[U];have hi:i<ws.length:=by omega
   obtain⟨y1,e1⟩:=d.o.rl.cell (show i<ws.length+1 by omega);have f1:wr.frozen? ⟨w,i,none⟩=false:=d.o.rl.frozen;have Bf:w.heap.size<wr.heap.size:=d.o.rl.lt;have Ar:Hid (k2u wd ws w.heap.size i 0 (wr.setCell ⟨w,i,none⟩ (.int .i64 (-1)))):=k2u.set d.o hi rfl;clear U Aj;go_wp2
   go_loopw [8] (fun n wx=>Below w w wx/\∃q:Nat,1<=q/\i+q<=ws.length+1/\n=.int .i64 (q:Int)/\k2u wd ws w.heap.size i (q-1) wx) (fun n _=>(ws.length+1-(intOf n).toNat))
   case atStart=>exact⟨HB.o.setCell (p:=⟨w,i,none⟩) Zl _,1,by omega,by omega,by go_num,Ar.o⟩
   case round=>
    obtain⟨hb,q,P,Am,rfl,hM⟩:=hrel;have C:Hid (Below w w wr):=hb;have G:Hid (k2u wd ws w.heap.size i (q-1) wr):=hM;clear hb hM;by_cases r:i+q<=ws.length
    ·obtain⟨z,o0,ea,Av⟩:=HW.o.some (show 0<ws.length by omega);subst ea;have A7:(i:Int)+(q:Int)<=(ws.length:Int):=by omega
     have A8:(q:Int)<=(ws.length:Int)-(i:Int):=by omega
     have A0:=j9b z o0 ws.length cap i q (by omega) (by omega);have H:wr.cell? ⟨w,i+q,none⟩=some (.int .i64 ((best wd (ws.drop (i+q)):Nat):Int)):=G.o.l.cl (i+q) (by omega) r
     have B:Hid (∀n,Calls prog 55 #[.slice (some ⟨z,o0+i,none⟩) q (cap-i),.int .i64 wd,.bool ((i:Int)+(q:Int)==(ws.length:Int))] (wr.drewN n) fun e w'=>e=.returned (.int .i64 (bd (ln ((ws.drop i).take q)) wd (q==ws.length-i)))/\w'=wr.drewN n):=fun n=>
      y4y HW.o y.o hw C.o i q (cap-i) n P r
     have D:Hid (fOf wd (ws.drop i) q=bd (ln ((ws.drop i).take q)) wd (q==ws.length-i)+best wd (ws.drop (i+q))):=j3t wd ws i q;have I:=j3u hw (y.o.drop i) q;rw[D.o]at I;generalize bd (ln ((ws.drop i).take q)) wd (q==ws.length-i)=bv at B D I;generalize best wd (ws.drop (i+q))=sv at H D I;have f2:wr.frozen? ⟨w,i,none⟩=false:=G.o.l.rl.frozen;have Ao:w.heap.size<wr.heap.size:=G.o.l.rl.lt;have e2:=G.o.c;have Ab:Hid (z9u wd ws w.heap.size (i+1) wr):=G.o.l;by_cases hq:q=1
     ·have HP:Hid (∀nq,k2u wd ws w.heap.size i (q+1-1) ((wr.drewN nq).setCell ⟨w,i,none⟩ (.int .i64 ((bv:Int)+(sv:Int))))):=fun nq=>
       k2u.set (w:=wr.drewN nq) (Ab.o.kept rfl) hi (by rw[<-k7b P (.inl hq),D.o];omega)
      have e3:wr.cell? ⟨w,i,none⟩=some (.int .i64 (-1)):=by rw[e2,hq];rfl
      clear hq e2;go_wp2_with fail
      go_quiet ((go_at_call 55;exact Calls.quiet_of_same (B.o _)))
      go_wp2
      go_roundw
      case rel=>exact⟨(q0f C.o nq).setCell (p:=⟨w,i,none⟩) Zl _,q+1,by omega,by omega,by go_num,HP.o nq⟩
      case measure=>simp[intOf];omega
     ·generalize t:q9f (fOf wd (ws.drop i)) (q-1)=mv;have Ac:Hid (q9f (fOf wd (ws.drop i)) (q-1)=mv):=t;have e3:wr.cell? ⟨w,i,none⟩=some (.int .i64 (mv:Int)):=by rw[e2,v1e,if_neg (by omega),t]
      clear t e2;by_cases X:bv+sv<mv
      ·have HP:Hid (∀nq,k2u wd ws w.heap.size i (q+1-1) ((wr.drewN nq).setCell ⟨w,i,none⟩ (.int .i64 ((bv:Int)+(sv:Int))))):=fun nq=>
        k2u.set (w:=wr.drewN nq) (Ab.o.kept rfl) hi (by rw[<-k7b P (.inr (by rw[Ac.o,D.o];exact X)),D.o];omega)
       have Ak:(bv:Int)+(sv:Int)<(mv:Int):=by omega
       have Ay:¬(mv:Int)<0:=by omega
       clear hq X;go_wp2_with fail
       go_quiet ((go_at_call 55;exact Calls.quiet_of_same (B.o _)))
       go_wp2
       go_roundw
       case rel=>exact⟨(q0f C.o nq).setCell (p:=⟨w,i,none⟩) Zl _,q+1,by omega,by omega,by go_num,HP.o nq⟩
       case measure=>simp[intOf];omega
      ·have HP:Hid (∀nq,k2u wd ws w.heap.size i (q+1-1) (wr.drewN nq)):=fun nq=>by
        have h1:=G.o.kept (w':=wr.drewN nq) rfl;exact⟨h1.l,by rw[<-j6i P hq (by rw[Ac.o,D.o];exact X)];exact h1.c⟩
       have Ak:¬(bv:Int)+(sv:Int)<(mv:Int):=by omega
       have Ay:¬(mv:Int)<0:=by omega
       clear hq X;go_wp2_with fail
       go_quiet ((go_at_call 55;exact Calls.quiet_of_same (B.o _)))
       go_wp2
       go_roundw
       case rel=>exact⟨q0f C.o nq,q+1,by omega,by omega,by go_num,HP.o nq⟩
       case measure=>simp[intOf];omega
    ·have Ba:¬(q:Int)<=(ws.length:Int)-(i:Int):=by omega
     have HD:Hid (z9u wd ws w.heap.size i wr):=G.o.done hi (by omega);go_wp2
     go_roundw
     case rel=>exact⟨C.o,i,by omega,by go_num,HD.o⟩
     case measure=>simp[intOf]
end Go.Proofs.YtfdppahhbpfnoaaGreatDoor
