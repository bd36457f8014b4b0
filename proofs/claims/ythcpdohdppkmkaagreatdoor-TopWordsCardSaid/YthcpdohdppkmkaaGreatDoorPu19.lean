import Derived.Test.YthcpdohdppkmkaaGreatDoorPu18
import Derived.Deep.DeepFit
open Go.Proofs.Tryz
namespace Go.Proofs.YthcpdohdppkmkaaGreatDoor
open Go Go.RowKit
set_option maxRecDepth 100000
set_option maxHeartbeats 8000000
theorem j7t(a b c d e:Value)(w:World):(Instr.field 123 (.agg #[a,b,c,d,e]) 0).run prog w=.ok (.agg #[a,b]) w:=by kernel_rfl
theorem k5z(a b c d e:Value)(w:World):(Instr.field 123 (.agg #[a,b,c,d,e]) 1).run prog w=.ok c w:=by kernel_rfl
theorem j7u(a b c d e:Value)(w:World):(Instr.field 123 (.agg #[a,b,c,d,e]) 2).run prog w=.ok (.agg #[d,e]) w:=by kernel_rfl
structure TkB(w1 wx:World)(b b7 b8:Nat)(m:Mv):Prop where
 p0:wx.cell? ⟨b7,0,none⟩=some (.int .i64 m.np)
 p1:wx.cell? ⟨b7,1,none⟩=some (.int .i64 m.nc)
 o0:wx.cell? ⟨b8,0,none⟩=some (.int .i64 m.o)
 o1:wx.cell? ⟨b8,1,none⟩=some (.int .i64 m.l)
 n7:b<b7
 n8:b<b8
 bw:Below (b+1) w1 wx
theorem q1k{w1 w2:World}{n:Nat}(h:Below n w1 w2)(hn:n<=w1.heap.size)(O:Obj):Below n w1 (w2.alloc O):=h.alloc (Nat.le_trans hn h.size) O
section
variable {w1 w2:World} {b:Nat} {m:Mv} {T7 T8:TypeId}
theorem g5v(h:Below (b+1) w1 w2)(hb:b+1=w1.heap.size):TkB w1 ((w2.alloc (.cells #[.int .i64 m.np,.int .i64 m.nc] T7)).alloc (.cells #[.int .i64 m.o,.int .i64 m.l] T8)) b w2.heap.size (w2.heap.size+1) m:=
 have hs:=h.size
 ⟨by simp[go_sem],by simp[go_sem],by simp[go_sem],by simp[go_sem],by omega,by omega,q1k (q1k h (by omega) _) (by omega) _⟩
theorem g5w(h:Below (b+1) w1 w2)(hb:b+1=w1.heap.size):TkB w1 ((w2.alloc (.cells #[.int .i64 m.o,.int .i64 m.l] T8)).alloc (.cells #[.int .i64 m.np,.int .i64 m.nc] T7)) b (w2.heap.size+1) w2.heap.size m:=
 have hs:=h.size
 ⟨by simp[go_sem],by simp[go_sem],by simp[go_sem],by simp[go_sem],by omega,by omega,q1k (q1k h (by omega) _) (by omega) _⟩
theorem z6b{W:World}{a:Nat}{u0 u1 v0 v1:Value}(h0:W.cell? ⟨a,0,none⟩=some u0)(h1:W.cell? ⟨a,1,none⟩=some u1):((W.setCell ⟨a,0,none⟩ v0).setCell ⟨a,1,none⟩ v1).cell? ⟨a,0,none⟩=some v0/\((W.setCell ⟨a,0,none⟩ v0).setCell ⟨a,1,none⟩ v1).cell? ⟨a,1,none⟩=some v1:=
 ⟨(cso (by omega)).trans (css h0),css ((cso (by omega)).trans h1)⟩
theorem q4u{n a:Nat}{v0 v1:Value}(h:Below n w1 w2)(hn:n<=a):Below n w1 ((w2.setCell ⟨a,0,none⟩ v0).setCell ⟨a,1,none⟩ v1):=(h.setCell (p:=⟨a,0,none⟩) hn _).setCell (p:=⟨a,1,none⟩) hn _
theorem z7i{W:World}{a d:Nat}{u0 u1 s0 s1 v0 v1 t0 t1:Value}(had:a≠d)(h0:W.cell? ⟨a,0,none⟩=some u0)(h1:W.cell? ⟨a,1,none⟩=some u1)(k0:W.cell? ⟨d,0,none⟩=some s0)(k1:W.cell? ⟨d,1,none⟩=some s1):
  ((((W.setCell ⟨a,0,none⟩ v0).setCell ⟨a,1,none⟩ v1).setCell ⟨d,0,none⟩ t0).setCell ⟨d,1,none⟩ t1).cell? ⟨a,0,none⟩=some v0/\((((W.setCell ⟨a,0,none⟩ v0).setCell ⟨a,1,none⟩ v1).setCell ⟨d,0,none⟩ t0).setCell ⟨d,1,none⟩ t1).cell? ⟨a,1,none⟩=some v1/\((((W.setCell ⟨a,0,none⟩ v0).setCell ⟨a,1,none⟩ v1).setCell ⟨d,0,none⟩ t0).setCell ⟨d,1,none⟩ t1).cell? ⟨d,0,none⟩=some t0/\((((W.setCell ⟨a,0,none⟩ v0).setCell ⟨a,1,none⟩ v1).setCell ⟨d,0,none⟩ t0).setCell ⟨d,1,none⟩ t1).cell? ⟨d,1,none⟩=some t1:=by
 obtain⟨e0,e1⟩:=z6b (v0:=v0) (v1:=v1) h0 h1;obtain⟨e2,e3⟩:=z6b (W:=(W.setCell ⟨a,0,none⟩ v0).setCell ⟨a,1,none⟩ v1) (v0:=t0) (v1:=t1) ((cso (.inl had)).trans ((cso (.inl had)).trans k0)) ((cso (.inl had)).trans ((cso (.inl had)).trans k1));exact⟨(cso (.inl had.symm)).trans ((cso (.inl had.symm)).trans e0),(cso (.inl had.symm)).trans ((cso (.inl had.symm)).trans e1),e2,e3⟩
theorem g5x{u0 u1:Value}(h:Below (b+1) w1 w2)(hb:b+1=w1.heap.size)(x0:w2.cell? ⟨b+1,0,none⟩=some u0)(x1:w2.cell? ⟨b+1,1,none⟩=some u1):
  TkB w1 (((((w2.alloc (.cells #[.int .i64 0,.int .i64 0] T8)).setCell ⟨b+1,0,none⟩ (.int .i64 m.np)).setCell ⟨b+1,1,none⟩ (.int .i64 m.nc)).setCell ⟨w2,0,none⟩ (.int .i64 m.o)).setCell ⟨w2,1,none⟩ (.int .i64 m.l)) b (b+1) w2.heap.size m:=by
 have hlt:=World.block_lt_of_cell? w2 ⟨b+1,0,none⟩ x0;have hlt':b+1<w2.heap.size:=hlt;obtain⟨e0,e1,e2,e3⟩:=z7i (W:=w2.alloc (.cells #[.int .i64 0,.int .i64 0] T8)) (a:=b+1) (d:=w2.heap.size) (s0:=.int .i64 0) (s1:=.int .i64 0) (v0:=.int .i64 m.np) (v1:=.int .i64 m.nc) (t0:=.int .i64 m.o) (t1:=.int .i64 m.l) (by omega) (ka x0 _) (ka x1 _) (by simp[go_sem]) (by simp[go_sem]);exact⟨e0,e1,e2,e3,by omega,by omega,q4u (q4u (q1k h (by omega) _) (by omega)) (by omega)⟩
theorem g5y{u0 u1:Value}(h:Below (b+1) w1 w2)(hb:b+1=w1.heap.size)(x0:w2.cell? ⟨b+1,0,none⟩=some u0)(x1:w2.cell? ⟨b+1,1,none⟩=some u1):
  TkB w1 (((w2.alloc (.cells #[.int .i64 m.np,.int .i64 m.nc] T7)).setCell ⟨b+1,0,none⟩ (.int .i64 m.o)).setCell ⟨b+1,1,none⟩ (.int .i64 m.l)) b w2.heap.size (b+1) m:=by
 have hlt:=World.block_lt_of_cell? w2 ⟨b+1,0,none⟩ x0;have hlt':b+1<w2.heap.size:=hlt;obtain⟨e2,e3⟩:=z6b (W:=w2.alloc (.cells #[.int .i64 m.np,.int .i64 m.nc] T7)) (v0:=.int .i64 m.o) (v1:=.int .i64 m.l) (ka x0 _) (ka x1 _);exact⟨(cso (by omega)).trans ((cso (by omega)).trans (by simp[go_sem])),(cso (by omega)).trans ((cso (by omega)).trans (by simp[go_sem])),e2,e3,by omega,by omega,q4u (q1k h (by omega) _) (by omega)⟩
theorem g6i{a d:Nat}{u0 u1 s0 s1:Value}(h:Below (b+1) w1 w2)(had:a≠d)(ha:b<a)(hd:b<d)(h0:w2.cell? ⟨a,0,none⟩=some u0)(h1:w2.cell? ⟨a,1,none⟩=some u1)(k0:w2.cell? ⟨d,0,none⟩=some s0)(k1:w2.cell? ⟨d,1,none⟩=some s1):
  TkB w1 ((((w2.setCell ⟨a,0,none⟩ (.int .i64 m.np)).setCell ⟨a,1,none⟩ (.int .i64 m.nc)).setCell ⟨d,0,none⟩ (.int .i64 m.o)).setCell ⟨d,1,none⟩ (.int .i64 m.l)) b a d m:=by
 obtain⟨e0,e1,e2,e3⟩:=z7i (v0:=.int .i64 m.np) (v1:=.int .i64 m.nc) (t0:=.int .i64 m.o) (t1:=.int .i64 m.l) had h0 h1 k0 k1;exact⟨e0,e1,e2,e3,ha,hd,q4u (q4u h (by omega)) (by omega)⟩
end
theorem k9j{W:World}{b b' o:Nat}{v v0 v1 v2 v3 v4:Value}(hb:b≠b')(h:W.cell? ⟨b,o,none⟩=some v):(((((W.setCell ⟨b',0,none⟩ v0).setCell ⟨b',1,none⟩ v1).setCell ⟨b',2,none⟩ v2).setCell ⟨b',3,none⟩ v3).setCell ⟨b',4,none⟩ v4).cell? ⟨b,o,none⟩=some v:=
 (cso (.inl hb.symm)).trans ((cso (.inl hb.symm)).trans ((cso (.inl hb.symm)).trans ((cso (.inl hb.symm)).trans ((cso (.inl hb.symm)).trans h))))
structure TkF(w wx:World)(b7 b8:Nat)(m:Mv):Prop where
 p0:wx.cell? ⟨b7,0,none⟩=some (.int .i64 m.np)
 p1:wx.cell? ⟨b7,1,none⟩=some (.int .i64 m.nc)
 o0:wx.cell? ⟨b8,0,none⟩=some (.int .i64 m.o)
 o1:wx.cell? ⟨b8,1,none⟩=some (.int .i64 m.l)
 r0:wx.cell? ⟨w.heap.size+1,0,none⟩=some (.int .i64 0)
 r1:wx.cell? ⟨w.heap.size+1,1,none⟩=some (.int .i64 0)
 r2:wx.cell? ⟨w.heap.size+1,2,none⟩=some (.int .i64 0)
 r3:wx.cell? ⟨w.heap.size+1,3,none⟩=some (.int .i64 0)
 r4:wx.cell? ⟨w.heap.size+1,4,none⟩=some (.int .i64 0)
 fr:z4i wx (w.heap.size+1)
 n7:w.heap.size+1<b7
 n8:w.heap.size+1<b8
theorem TkF.kept{w wx wy:World}{b7 b8 mb:Nat}{m:Mv}(h:TkF w wx b7 b8 m)(hb:q0p wx mb wx wy)(hm:mb<w.heap.size):TkF w wy b7 b8 m:=by
 have h7:=h.n7;have h8:=h.n8;have hc:∀b o v,b≠mb->wx.cell? ⟨b,o,none⟩=some v->wy.cell? ⟨b,o,none⟩=some v:=fun b o v he hv=>(hb.cell (p:=⟨b,o,none⟩) (World.block_lt_of_cell? wx ⟨b,o,none⟩ hv) he).trans hv
 exact⟨hc _ _ _ (by omega) h.p0,hc _ _ _ (by omega) h.p1,hc _ _ _ (by omega) h.o0,hc _ _ _ (by omega) h.o1,hc _ _ _ (by omega) h.r0,hc _ _ _ (by omega) h.r1,hc _ _ _ (by omega) h.r2,hc _ _ _ (by omega) h.r3,hc _ _ _ (by omega) h.r4,h.fr.kept (hb.block _ h.fr.lt (by omega)),h7,h8⟩
theorem g3a{sb g mb wd i c b7 b8:Nat}{R:List Pl}{S:Nat->Nat->Bool}{w w1 wx:World}{m:Mv}(h:Sk1 sb g mb wd i c R S w w1)(hT:TkB w1 wx (w.heap.size+1) b7 b8 m):TkF w wx b7 b8 m:=by
 have hc:∀o v,w1.cell? ⟨w.heap.size+1,o,none⟩=some v->wx.cell? ⟨w.heap.size+1,o,none⟩=some v:=fun o v hv=>(hT.bw.cell (p:=⟨w.heap.size+1,o,none⟩) (by simp)).trans hv
 exact⟨hT.p0,hT.p1,hT.o0,hT.o1,hc _ _ h.r0,hc _ _ h.r1,hc _ _ h.r2,hc _ _ h.r3,hc _ _ h.r4,h.fr.kept (hT.bw.block _ (by omega)),hT.n7,hT.n8⟩
theorem v9z{R:List Pl}{L M i nx dp wd c ch:Nat}{ks:List (Nat × Tr)}{t:Tr}(sb g mb:Nat)(hR:R.length<=400)(hsp:Sp R L M i t nx dp ks)(hc:c<=wd)(hw:wd<=100)(hL:L<=400)(hM:M<=3200)(hch:ch=0\/ch=1)(hh:t.lg=-1->ch=1)
  (hSK:j5f sb g mb wd R (q3h R wd i c ch).np (q3h R wd i c ch).nc) (hV:∃k:Cv,k=(if(q3h R wd i c ch).np<R.length then crs R wd (q3h R wd i c ch).np (q3h R wd i c ch).nc else zCv)/\k.o=(vv R wd (q3h R wd i c ch).np (q3h R wd i c ch).nc).1.1/\k.l=(vv R wd (q3h R wd i c ch).np (q3h R wd i c ch).nc).1.2/\k.o<=400000/\k.l<=400000):z6m sb g mb wd R i c ch:=by
 intro w S h;have H:Hid (Inv sb g mb wd R w S):=h;have hlt:=h.lt;obtain⟨k,hk,hko,hkl,hbo,hbl⟩:=hV;have hm:=v0j (ch:=ch) hsp hc hw hL hM;have HMV:Hid (∀W:World,q5t W sb g wd R->Calls prog 217 #[.pointer (some ⟨sb,0,none⟩),.agg #[.int .i64 i,.int .i64 c],.int .i64 ch] W fun e w'=>e=.returned (.tuple #[.agg #[.int .i64 (q3h R wd i c ch).np,.int .i64 (q3h R wd i c ch).nc],.agg #[.int .i64 (q3h R wd i c ch).o,.int .i64 (q3h R wd i c ch).l]])/\Below W W w'):=fun W hW=>j6c sb g W hR hsp hc hw hL hM hch hh hW
 have HSK:Hid (∀W S,Inv sb g mb wd R W S->Calls prog 63 #[.pointer (some ⟨sb,0,none⟩),.agg #[.int .i64 (q3h R wd i c ch).np,.int .i64 (q3h R wd i c ch).nc]] W fun e w'=>e=.returned (.agg #[.int .i64 k.o,.int .i64 k.l,.int .i64 k.ch,.int .i64 k.np,.int .i64 k.nc])/\Left sb g mb wd R S (q3h R wd i c ch).np (q3h R wd i c ch).np (q3h R wd i c ch).nc W w'):=fun W S hW=>by
  have:=hSK W S hW
  rw[<-hk]at this;exact this
 have etk:tkC R wd i c ch=⟨(q3h R wd i c ch).o+k.o,(q3h R wd i c ch).l+k.l,ch,(q3h R wd i c ch).np,(q3h R wd i c ch).nc⟩:=by rw[tkC,j7f,hko,hkl]
 rw[etk,cvV];dsimp only;clear hk hko hkl hSK etk h;generalize q3h R wd i c ch=m at *;have HM:Hid (g6e R wd i m):=hm;have ho:=hm.bo;have hl':=hm.bl;clear hm;go_in;go_wp2_with fail;have hsk:Sk1 sb g mb wd i c R S w ((w.alloc (.cells #[.int .i64 i,.int .i64 c] 121)).alloc (.cells #[.int .i64 0,.int .i64 0,.int .i64 0,.int .i64 0,.int .i64 0] 123)):=z8d (nq:=0) H.o
 generalize(w.alloc (.cells #[.int .i64 i,.int .i64 c] 121)).alloc (.cells #[.int .i64 0,.int .i64 0,.int .i64 0,.int .i64 0,.int .i64 0] 123)=w1 at *
 have HK:Hid (Sk1 sb g mb wd i c R S w w1):=hsk;have a0:=hsk.a0;have a1:=hsk.a1;have hs1:=hsk.sz;clear hsk
 have HA:Hid (∀W,Below (w.heap.size+1+1) w1 W->W.cell? ⟨w,0,none⟩=some (.int .i64 i)/\W.cell? ⟨w,1,none⟩=some (.int .i64 c)):=fun W hb=>
  ⟨(hb.cell (p:=⟨w,0,none⟩) (by simp;omega)).trans a0,(hb.cell (p:=⟨w,1,none⟩) (by simp;omega)).trans a1⟩
 have hd0:Below (w.heap.size+1+1) w1 w1.drew:=(Below.refl _ w1).drew;have hd1:∀O,Below (w.heap.size+1+1) w1 (w1.alloc O).drew:=fun O=>(q1k (Below.refl _ w1) (by omega) O).drew
 have hd2:∀O1 O2,Below (w.heap.size+1+1) w1 ((w1.alloc O1).alloc O2).drew:=fun O1 O2=>(q1k (q1k (Below.refl _ w1) (by omega) O1) (by omega) O2).drew
 have HPL:Hid (∀W,Below (w.heap.size+1+1) w1 W->q5t W sb g wd R):=fun W hb=>HK.o.inv.pl.kept (hb.block _ (by omega)) (hb.block _ (by omega))
 have HM0:Hid (Calls prog 217 #[.pointer (some ⟨sb,0,none⟩),.agg #[.int .i64 i,.int .i64 c],.int .i64 ch] w1.drew fun e w'=>e=.returned (.tuple #[.agg #[.int .i64 m.np,.int .i64 m.nc],.agg #[.int .i64 m.o,.int .i64 m.l]])/\Below w1.drew.heap.size w1.drew w'):=HMV.o _ (HPL.o _ hd0);have HM1:Hid (∀O,Calls prog 217 #[.pointer (some ⟨sb,0,none⟩),.agg #[.int .i64 i,.int .i64 c],.int .i64 ch] (w1.alloc O).drew fun e w'=>e=.returned (.tuple #[.agg #[.int .i64 m.np,.int .i64 m.nc],.agg #[.int .i64 m.o,.int .i64 m.l]])/\Below (w1.alloc O).drew.heap.size (w1.alloc O).drew w'):=fun O=>HMV.o _ (HPL.o _ (hd1 O))
 have HM2:Hid (∀O1 O2,Calls prog 217 #[.pointer (some ⟨sb,0,none⟩),.agg #[.int .i64 i,.int .i64 c],.int .i64 ch] ((w1.alloc O1).alloc O2).drew fun e w'=>e=.returned (.tuple #[.agg #[.int .i64 m.np,.int .i64 m.nc],.agg #[.int .i64 m.o,.int .i64 m.l]])/\Below ((w1.alloc O1).alloc O2).drew.heap.size ((w1.alloc O1).alloc O2).drew w'):=fun O1 O2=>HMV.o _ (HPL.o _ (hd2 O1 O2))
 have HX0:Hid (∀w2,Below w1.drew.heap.size w1.drew w2->Below (w.heap.size+1+1) w1 w2):=fun w2 hb=>hd0.trans (hb.mono (by show _<=w1.heap.size;omega))
 have HX1:Hid (∀T w2,Below (w1.alloc (.cells #[.int .i64 0,.int .i64 0] T)).drew.heap.size (w1.alloc (.cells #[.int .i64 0,.int .i64 0] T)).drew w2->Below (w.heap.size+1+1) w1 w2/\w2.cell? ⟨w.heap.size+1+1,0,none⟩=some (.int .i64 0)/\w2.cell? ⟨w.heap.size+1+1,1,none⟩=some (.int .i64 0)/\w2.frozen? ⟨w.heap.size+1+1,0,none⟩=false/\w2.frozen? ⟨w.heap.size+1+1,1,none⟩=false/\w.heap.size+1+1+1<=w2.heap.size):=fun T w2 hb=>by
  obtain⟨hcl,hfr⟩:=q1c hb;have hsz:(w1.alloc (.cells #[.int .i64 0,.int .i64 0] T)).drew.heap.size=w.heap.size+1+1+1:=by show(w1.alloc (.cells #[.int .i64 0,.int .i64 0] T)).heap.size=_;simp[hs1]
  have hle:=hb.size;rw[hsz]at hle;refine⟨(hd1 _).trans (hb.mono (by rw[hsz];omega)),(hcl _ _ (by rw[hsz];omega)).trans ?_,(hcl _ _ (by rw[hsz];omega)).trans ?_,(hfr _ _ (by rw[hsz];omega)).trans ?_,(hfr _ _ (by rw[hsz];omega)).trans ?_,hle⟩
  ·rw[<-hs1];simp[go_sem]
  ·rw[<-hs1];simp[go_sem]
  ·rw[<-hs1];simp[go_sem]
  ·rw[<-hs1];simp[go_sem]
 have HX2:Hid (∀T1 T2 w2,Below ((w1.alloc (.cells #[.int .i64 0,.int .i64 0] T1)).alloc (.cells #[.int .i64 0,.int .i64 0] T2)).drew.heap.size ((w1.alloc (.cells #[.int .i64 0,.int .i64 0] T1)).alloc (.cells #[.int .i64 0,.int .i64 0] T2)).drew w2->Below (w.heap.size+1+1) w1 w2/\(w2.cell? ⟨w.heap.size+1+1,0,none⟩=some (.int .i64 0)/\w2.cell? ⟨w.heap.size+1+1,1,none⟩=some (.int .i64 0)/\w2.frozen? ⟨w.heap.size+1+1,0,none⟩=false/\w2.frozen? ⟨w.heap.size+1+1,1,none⟩=false)/\w2.cell? ⟨w.heap.size+1+1+1,0,none⟩=some (.int .i64 0)/\w2.cell? ⟨w.heap.size+1+1+1,1,none⟩=some (.int .i64 0)/\w2.frozen? ⟨w.heap.size+1+1+1,0,none⟩=false/\w2.frozen? ⟨w.heap.size+1+1+1,1,none⟩=false):=fun T1 T2 w2 hb=>by
  obtain⟨hcl,hfr⟩:=q1c hb;have hsz:((w1.alloc (.cells #[.int .i64 0,.int .i64 0] T1)).alloc (.cells #[.int .i64 0,.int .i64 0] T2)).drew.heap.size=w.heap.size+1+1+1+1:=by show((w1.alloc (.cells #[.int .i64 0,.int .i64 0] T1)).alloc (.cells #[.int .i64 0,.int .i64 0] T2)).heap.size=_;simp[hs1]
  refine⟨(hd2 _ _).trans (hb.mono (by rw[hsz];omega)),⟨(hcl _ _ (by rw[hsz];omega)).trans ?_,(hcl _ _ (by rw[hsz];omega)).trans ?_,(hfr _ _ (by rw[hsz];omega)).trans ?_,(hfr _ _ (by rw[hsz];omega)).trans ?_⟩,(hcl _ _ (by rw[hsz];omega)).trans ?_,(hcl _ _ (by rw[hsz];omega)).trans ?_,(hfr _ _ (by rw[hsz];omega)).trans ?_,(hfr _ _ (by rw[hsz];omega)).trans ?_⟩
  all_goals rw[<-hs1];simp[go_sem]
 have HS1:Hid (w1.heap.size=w.heap.size+1+1):=hs1;clear HMV hch hh hsp
 go_cut [0,2,6,7,8] (fun s0 s2 s6 s7 s8 wx=>s0=.pointer (some ⟨sb,0,none⟩)/\s2=.int .i64 ch/\s6=.pointer (some ⟨w.heap.size+1,0,none⟩)/\∃b7 b8,s7=.pointer (some ⟨b7,0,none⟩)/\s8=.pointer (some ⟨b8,0,none⟩)/\TkB w1 wx (w.heap.size+1) b7 b8 m)
 case first=>
  go_region_held3 (fun w'=>w'.cell? ⟨w,0,none⟩=some (.int .i64 i)/\w'.cell? ⟨w,1,none⟩=some (.int .i64 c))
   (first|with_reducible exact HA.o _ hd0|with_reducible exact HA.o _ (hd1 _)|with_reducible exact HA.o _ (hd2 _ _)|with_reducible exact HA.o _ hE2|with_reducible exact HA.o _ (q1k hE2 (Nat.le_of_eq HS1.o.symm) _)|with_reducible exact HA.o _ (q1k (q1k hE2 (Nat.le_of_eq HS1.o.symm) _) (Nat.le_of_eq HS1.o.symm) _)|with_reducible exact HA.o _ (q4u hE2 (by omega))|with_reducible exact HA.o _ (q4u (q4u hE2 (by omega)) (by omega))|with_reducible exact HA.o _ (q4u (q1k hE2 (Nat.le_of_eq HS1.o.symm) _) (by omega))|with_reducible exact HA.o _ (q4u (q4u (q1k hE2 (Nat.le_of_eq HS1.o.symm) _) (by omega)) (by omega)))
   (first|(go_at_call 217;go_fit HM0.o;rintro e w2⟨rfl,hb2⟩;have hE2:=HX0.o _ hb2)|(go_at_call 217;go_fit (HM1.o _);rintro e w2⟨rfl,hb2⟩;obtain⟨hE2,x0,x1,f0,f1,hle⟩:=HX1.o _ _ hb2;have x0':=fun O=>ka x0 O;have x1':=fun O=>ka x1 O;have f0':=fun O=>kaf (Nat.lt_of_succ_le hle) f0 O;have f1':=fun O=>kaf (Nat.lt_of_succ_le hle) f1 O)|(go_at_call 217;go_fit (HM2.o _ _);rintro e w2⟨rfl,hb2⟩;obtain⟨hE2,⟨x0,x1,f0,f1⟩,x2,x3,f2,f3⟩:=HX2.o _ _ _ hb2))
  all_goals
   go_wp2
   go_meet
   first
    | with_reducible exact⟨rfl,rfl,rfl,w2.heap.size,w2.heap.size+1,rfl,rfl,g5v (w2:=w2) (b:=w.heap.size+1) (m:=m) (T7:=121) (T8:=57) hE2 HS1.o.symm⟩
    | with_reducible exact⟨rfl,rfl,rfl,w2.heap.size+1,w2.heap.size,rfl,rfl,g5w (w2:=w2) (b:=w.heap.size+1) (m:=m) (T7:=121) (T8:=57) hE2 HS1.o.symm⟩
    | with_reducible exact⟨rfl,rfl,rfl,w.heap.size+1+1,w2.heap.size,rfl,rfl,g5x (w2:=w2) (b:=w.heap.size+1) (m:=m) (T8:=57) hE2 HS1.o.symm x0 x1⟩
    | with_reducible exact⟨rfl,rfl,rfl,w2.heap.size,w.heap.size+1+1,rfl,rfl,g5y (w2:=w2) (b:=w.heap.size+1) (m:=m) (T7:=121) hE2 HS1.o.symm x0 x1⟩
    | with_reducible exact⟨rfl,rfl,rfl,w.heap.size+1+1,w.heap.size+1+1+1,rfl,rfl,g6i (w2:=w2) (b:=w.heap.size+1) (m:=m) (a:=w.heap.size+1+1) (d:=w.heap.size+1+1+1) hE2 (by omega) (by omega) (by omega) x0 x1 x2 x3⟩
    | with_reducible exact⟨rfl,rfl,rfl,w.heap.size+1+1+1,w.heap.size+1+1,rfl,rfl,g6i (w2:=w2) (b:=w.heap.size+1) (m:=m) (a:=w.heap.size+1+1+1) (d:=w.heap.size+1+1) hE2 (by omega) (by omega) (by omega) x2 x3 x0 x1⟩
 case rest=>
  obtain⟨rfl,rfl,rfl,b7,b8,rfl,rfl,hT⟩:=hcut;have HTF:Hid (TkF w wc b7 b8 m):=g3a HK.o hT;have HIC:Hid (Inv sb g mb wd R wc.drew S):=HK.o.inv.kept3 (hT.bw.block _ (by omega)) (hT.bw.block _ (by omega)) (hT.bw.block _ (by omega));have HBC:Hid (q0p w mb w wc.drew):=(q0p.of (HK.o.bw.trans (hT.bw.mono (by omega)))).drew;have o0:wc.drew.cell? ⟨b8,0,none⟩=some (.int .i64 m.o):=HTF.o.o0;have o1:wc.drew.cell? ⟨b8,1,none⟩=some (.int .i64 m.l):=HTF.o.o1;have p0:wc.drew.cell? ⟨b7,0,none⟩=some (.int .i64 m.np):=HTF.o.p0;have p1:wc.drew.cell? ⟨b7,1,none⟩=some (.int .i64 m.nc):=HTF.o.p1;have HN7:Hid (b7≠w.heap.size+1):=(show b7≠w.heap.size+1 by have:=HTF.o.n7;omega);have HN8:Hid (b8≠w.heap.size+1):=(show b8≠w.heap.size+1 by have:=HTF.o.n8;omega)
  have HSE:Hid (Calls prog 63 #[.pointer (some ⟨sb,0,none⟩),.agg #[.int .i64 m.np,.int .i64 m.nc]] wc.drew fun e w'=>e=.returned (.agg #[.int .i64 k.o,.int .i64 k.l,.int .i64 k.ch,.int .i64 k.np,.int .i64 k.nc])/\TkF w w' b7 b8 m/\q0p w mb w w'/\∃S',Inv sb g mb wd R w' S'/\(∀a b,S a b=true->S' a b=true)/\(∀a b,S' a b=true->S a b=true\/i+1<=a)/\(m.np<R.length->S' m.np m.nc=true)):=by
   refine(HSK.o wc.drew S HIC.o).mono ?_;rintro e w6⟨rfl,hbx,S',hI,hmo,hlo,hin⟩;have hnp:=HM.o.lo;refine⟨rfl,HTF.o.kept (mb:=mb) ⟨hbx.os,hbx.tape,hbx.output,hbx.size,hbx.block⟩ hlt.2.2,HBC.o.trans (hbx.mono HBC.o.size),S',hI,hmo,fun a b hab=>?_,hin⟩;rcases hlo a b hab with h|h
   ·exact .inl h
   ·exact .inr (by omega)
  have HSU:Hid (∀W,Calls prog 218 #[.agg #[.int .i64 m.o,.int .i64 m.l],.agg #[.int .i64 k.o,.int .i64 k.l]] W fun e w'=>e=.returned (.agg #[.int .i64 ((m.o+k.o:Nat):Int),.int .i64 ((m.l+k.l:Nat):Int)])/\Below W W w'):=fun W=>v5o m.o m.l k.o k.l (by omega) (by omega) hbo hbl W
  clear hT HSK HM0 HM1 HM2 HX0 HX1 HX2 HA HPL hd0 hd1 hd2 a0 a1 hs1;have hfc:=j7t;go_wp2_with fail
  go_region_held3 (fun w'=>w'.cell? ⟨b8,0,none⟩=some (.int .i64 m.o)/\w'.cell? ⟨b8,1,none⟩=some (.int .i64 m.l)/\w'.cell? ⟨b7,0,none⟩=some (.int .i64 m.np)/\w'.cell? ⟨b7,1,none⟩=some (.int .i64 m.nc))
   (first|with_reducible exact⟨o0,o1,p0,p1⟩|with_reducible exact⟨hF6.o0,hF6.o1,hF6.p0,hF6.p1⟩|with_reducible exact⟨hF7.o0,hF7.o1,hF7.p0,hF7.p1⟩|with_reducible exact⟨k9j HN8.o hF7.o0,k9j HN8.o hF7.o1,k9j HN7.o hF7.p0,k9j HN7.o hF7.p1⟩)
   (first|(go_at_call 63;refine HSE.o.mono ?_;rintro e w6⟨rfl,hF6,hR6⟩)|(go_at_call 218;refine(HSU.o _).mono ?_;rintro e w7⟨rfl,hb7⟩;have hF7:=hF6.kept (q0p.of hb7) hlt.2.2;have r0:=hF7.r0;have r1:=hF7.r1;have r2:=hF7.r2;have r3:=hF7.r3;have r4:=hF7.r4;have y0:w7.frozen? ⟨w.heap.size+1,0,none⟩=false:=hF7.fr.frozen;have y1:w7.frozen? ⟨w.heap.size+1,1,none⟩=false:=hF7.fr.frozen;have y2:w7.frozen? ⟨w.heap.size+1,2,none⟩=false:=hF7.fr.frozen;have y3:w7.frozen? ⟨w.heap.size+1,3,none⟩=false:=hF7.fr.frozen;have y4:w7.frozen? ⟨w.heap.size+1,4,none⟩=false:=hF7.fr.frozen))
  all_goals
   obtain⟨hbx6,S',hI6,hmo,hlo,hin⟩:=hR6;go_wp2;exact bodyPost_ret (v:=.agg #[.int .i64 ((m.o:Int)+k.o),.int .i64 ((m.l:Int)+k.l),.int .i64 ch,.int .i64 m.np,.int .i64 m.nc]) (by simp[results,Tryz.results180,go_sem,r0,r1,r2,r3,r4]) rfl ⟨rfl,k5m (hbx6.trans (q0p.of (hb7.mono hbx6.size))) (by omega) _ _ _ _ _,S',(hI6.W hb7).set5 (by omega) (by omega) (by omega) _ _ _ _ _,hmo,hlo,hin⟩
def Ln(B b:Nat)(l:List UInt8)(k:Bool)(w:World):Prop:=IsX 326 B b (Lib.byteCells l) [.bool k] w
theorem y1y:z1v 326 3:=by unfold z1v;kernel_rfl
theorem Ln.cell{B b:Nat}{l:List UInt8}{k:Bool}{w:World}(h:Ln B b l k w):w.cell? ⟨b,2,none⟩=some (.bool k):=IsX.cellR h 0
theorem Ln.frozen{B b:Nat}{l:List UInt8}{k:Bool}{w:World}(h:Ln B b l k w):w.frozen? ⟨b,2,none⟩=false:=IsX.frozen h 2
theorem Ln.stored{B b:Nat}{l:List UInt8}{k:Bool}{w:World}(h:Ln B b l k w)(k':Bool):Ln B b l k' (w.setCell ⟨b,2,none⟩ (.bool k')):=IsX.stored h 0 (.bool k')
theorem g5h{B b:Nat}{l:List UInt8}{k:Bool}{w:World}(h:Ln B b l k w)(hB:B<=w.heap.size)(c:UInt8)(z:Int)(hz:z=(c.toNat:Int))(hl:l.length<=1000000):
  Calls prog 55 #[.pointer (some ⟨b,0,none⟩),.int .u8 z] w fun e w'=>e=.returned .nilIface/\Ln B b (l++[c]) k w'/\q0p B b w w'/\Lib.OthersKept 5 (some b) w w':=by
 subst hz;refine(k5a 326 B b _ [.bool k] _ w y1y (by decide) h (by rw[Lib.byteCells_length];omega) hB).mono ?_;rintro e w'⟨rfl,h1,h2,h3⟩;refine⟨rfl,?_,h2,h3⟩;rw[Ln,Lib.byteCells_append];exact h1
theorem g6m{B b:Nat}{l:List UInt8}{k:Bool}{w:World}(h:Ln B b l k w)(hB:B<=w.heap.size)(s:ByteArray)(hl:l.length+s.size<=2000000):
  Calls prog 47 #[.pointer (some ⟨b,0,none⟩),.string s] w fun e w'=>(∃z,e=.returned (.tuple #[.int .i64 z,.nilIface]))/\Ln B b (l++s.data.toList) k w'/\q0p B b w w'/\Lib.OthersKept 5 (some b) w w':=by
 refine(q7h 326 B b _ [.bool k] s w y1y (by decide) h (by rw[Lib.byteCells_length];omega) hB).mono ?_;rintro e w'⟨rfl,h1,h2,h3⟩;refine⟨⟨_,rfl⟩,?_,h2,h3⟩;rw[Ln,Lib.byteCells_append];exact h1
def y9e(B b s:Nat)(r:List Nd)(l:List UInt8)(k:Bool)(w:World)(e:Ending)(w':World):Prop:=
 (∃a' cap',e=.returned (.slice a' r.length cap')/\q0x s w' a' r/\r.length<=cap')/\Ln B b l k w'/\q0p B b w w'/\Lib.OthersKept 5 (some b) w w'
def k1j(A:List Nd)(tA:List UInt8)(kA:Bool):Prop:=∀(B b s:Nat)(ds r:List Nd)(a:Option Addr)(cap:Nat)(l:List UInt8)(k:Bool)(w:World),ds=A++r->q0x s w a ds->s<B->s≠b->ds.length<=cap->Ln B b l k w->B<=w.heap.size->l.length+20*ds.length<=1000000->
  Calls prog 245 #[.pointer (some ⟨b,0,none⟩),.slice a ds.length cap] w (y9e B b s r (l++tA) (k||kA) w)
def k5j(B b s:Nat)(n0:Nat)(x:Nd)(r:List Nd)(l:List UInt8)(k:Bool)(w:World)(t p q:Value)(wx:World):Prop:=
 t=.pointer (some ⟨b,0,none⟩)/\p=.pointer (some ⟨n0,0,none⟩)/\(∃a' cap',q=.slice a' r.length cap'/\q0x s wx a' r/\r.length<=cap')/\wx.cell? ⟨n0,0,none⟩=some (.int .i64 x.op)/\wx.cell? ⟨n0,1,none⟩=some (.string x.tx)/\wx.cell? ⟨n0,2,none⟩=some (.int .i64 x.n)/\Ln B b l k wx/\q0p B b w wx/\Lib.OthersKept 5 (some b) w wx
theorem q0p.weak{B B' b x:Nat}{w w':World}(h:q0p B' x w w')(hB:B<=B')(hx:B<=x):q0p B b w w':=⟨h.os,h.tape,h.output,h.size,fun k hk _=>h.block k (by omega) (by omega)⟩
theorem v7a{e:TypeId}{b x:Nat}{w w3 w4:World}(h:Lib.OthersKept e (some b) w w3)(h':Lib.OthersKept e (some x) w3 w4)(hx:w.heap.size<=x):Lib.OthersKept e (some b) w w4:=by
 intro k o hk hb ho;have hlt:k<w.heap.size:=(Array.getElem?_eq_some_iff.1 hk).1;exact h' k o (h k o hk hb ho) (fun e=>by cases e;omega) ho
theorem y6a(tx:ByteArray)(n:Int)(ht:tx.size<=20):k1j (⟨1,tx,n⟩::[]) (tx.data.toList) (false):=by
 intro B b s ds r0 a cap l k w hd hN hsB hsb hc hW hBw hl;generalize hr:[]++r0=r;have HR:Hid ([]++r0=r):=hr;have HRL:Hid (r.length=([]:List Nd).length+r0.length):=(show _=_ by rw[<-hr,List.length_append]);obtain rfl:ds=⟨1,tx,n⟩::r:=by rw[hd,<-hr];rfl
 clear hd hr;obtain⟨o0,ea,c1,c2,c3⟩:=hN 0 (by simp);subst ea;simp only[List.length_cons]at hc hl⊢;have HN1:Hid (q0x s w (some ⟨s,o0+3,none⟩) r):=hN.rest
 have HN2:Hid (cap=1->q0x s w (some ⟨s,o0,none⟩) r):=fun h=>by
  have h1:=hN.slid hc;rw[if_pos h]at h1;exact h1
 have HW:Hid (Ln B b l k w):=hW;simp only[Nat.zero_mul,Nat.add_zero,List.getElem_cons_zero]at c1 c2 c3;have hb0:s<w.heap.size:=by omega
 have hr1:(1:Int)<=(r.length:Int)+1:=by omega
 have HB:Hid (∀O:Obj,q0p B b w (w.alloc O).drew):=fun O=>q0p.drew ((q0p.refl B b w).alloc hBw O)
 have HK:Hid (∀O:Obj,Lib.OthersKept 5 (some b) w (w.alloc O).drew):=fun O=>((Lib.OthersKept.refl _ _ w).alloc O).drew
 have HS:Hid (s<B/\s≠b):=⟨hsB,hsb⟩;clear hN hW hsB hsb;go_in
 go_upto_region 1 with fail
 go_cut [0,1,5,6] (fun t _ p q wx=>k5j B b s w.heap.size ⟨1,tx,n⟩ r l k w t p q wx)
 case first=>
  go_region
  all_goals (go_wp2_with fail)
  all_goals
   go_meet
   refine⟨rfl,rfl,⟨_,_,rfl,?_,by omega⟩,by simp[go_sem],by simp[go_sem],by simp[go_sem],IsX.drew (IsX.alloc HW.o _),HB.o _,HK.o _⟩
   first
    | exact HN1.o.kept ((HB.o _).block s HS.o.1 HS.o.2)
    | exact(HN2.o (by assumption)).kept ((HB.o _).block s HS.o.1 HS.o.2)
    | exact(HN2.o rfl).kept ((HB.o _).block s HS.o.1 HS.o.2)
 case rest=>
  obtain⟨rfl,rfl,⟨a',cap',rfl,hn,hc'⟩,e1,e2,e3,hw,hbw,hkw⟩:=hcut;dsimp only at e1 e2 e3;have HN':Hid (q0x s wc a' r):=hn;have HW':Hid (Ln B b l k wc):=hw;have HB':Hid (q0p B b w wc):=hbw;have HK':Hid (Lib.OthersKept 5 (some b) w wc):=hkw;have hBc:B<=wc.heap.size:=Nat.le_trans hBw hbw.size;clear hn hw hbw hkw;go_wp2_with fail
  go_region_with (go_at_call 47;refine(g6m (w:=wc.drew) HW'.o hBc tx (by omega)).mono ?_;rintro e w2⟨⟨z,rfl⟩,h2,hb2,hk2⟩)
  all_goals
   go_wp2;go_ret;obtain rfl:r0=r:=HR.o;rw[Bool.or_false];exact⟨⟨_,_,rfl,q0x.kept (w:=wc.drew) HN'.o (hb2.block s HS.o.1 HS.o.2),hc'⟩,h2,HB'.o.drew.trans hb2,HK'.o.drew.trans hk2⟩
theorem y6b(tx:ByteArray)(n:Int):k1j (⟨2,tx,n⟩::[]) ([32]) (false):=by
 intro B b s ds r0 a cap l k w hd hN hsB hsb hc hW hBw hl;generalize hr:[]++r0=r;have HR:Hid ([]++r0=r):=hr;have HRL:Hid (r.length=([]:List Nd).length+r0.length):=(show _=_ by rw[<-hr,List.length_append]);obtain rfl:ds=⟨2,tx,n⟩::r:=by rw[hd,<-hr];rfl
 clear hd hr;obtain⟨o0,ea,c1,c2,c3⟩:=hN 0 (by simp);subst ea;simp only[List.length_cons]at hc hl⊢;have HN1:Hid (q0x s w (some ⟨s,o0+3,none⟩) r):=hN.rest
 have HN2:Hid (cap=1->q0x s w (some ⟨s,o0,none⟩) r):=fun h=>by
  have h1:=hN.slid hc;rw[if_pos h]at h1;exact h1
 have HW:Hid (Ln B b l k w):=hW;simp only[Nat.zero_mul,Nat.add_zero,List.getElem_cons_zero]at c1 c2 c3;have hb0:s<w.heap.size:=by omega
 have hr1:(1:Int)<=(r.length:Int)+1:=by omega
 have HB:Hid (∀O:Obj,q0p B b w (w.alloc O).drew):=fun O=>q0p.drew ((q0p.refl B b w).alloc hBw O)
 have HK:Hid (∀O:Obj,Lib.OthersKept 5 (some b) w (w.alloc O).drew):=fun O=>((Lib.OthersKept.refl _ _ w).alloc O).drew
 have HS:Hid (s<B/\s≠b):=⟨hsB,hsb⟩;clear hN hW hsB hsb;go_in
 go_upto_region 1 with fail
 go_cut [0,1,5,6] (fun t _ p q wx=>k5j B b s w.heap.size ⟨2,tx,n⟩ r l k w t p q wx)
 case first=>
  go_region
  all_goals (go_wp2_with fail)
  all_goals
   go_meet
   refine⟨rfl,rfl,⟨_,_,rfl,?_,by omega⟩,by simp[go_sem],by simp[go_sem],by simp[go_sem],IsX.drew (IsX.alloc HW.o _),HB.o _,HK.o _⟩
   first
    | exact HN1.o.kept ((HB.o _).block s HS.o.1 HS.o.2)
    | exact(HN2.o (by assumption)).kept ((HB.o _).block s HS.o.1 HS.o.2)
    | exact(HN2.o rfl).kept ((HB.o _).block s HS.o.1 HS.o.2)
 case rest=>
  obtain⟨rfl,rfl,⟨a',cap',rfl,hn,hc'⟩,e1,e2,e3,hw,hbw,hkw⟩:=hcut;dsimp only at e1 e2 e3;have HN':Hid (q0x s wc a' r):=hn;have HW':Hid (Ln B b l k wc):=hw;have HB':Hid (q0p B b w wc):=hbw;have HK':Hid (Lib.OthersKept 5 (some b) w wc):=hkw;have hBc:B<=wc.heap.size:=Nat.le_trans hBw hbw.size;clear hn hw hbw hkw;go_wp2_with fail;refine(g5h HW'.o hBc 32 32 rfl (by omega)).mono ?_;rintro e w2⟨rfl,h2,hb2,hk2⟩;go_wp2;go_ret;obtain rfl:r0=r:=HR.o;rw[Bool.or_false];exact⟨⟨_,_,rfl,HN'.o.kept (hb2.block s HS.o.1 HS.o.2),hc'⟩,h2,HB'.o.trans hb2,HK'.o.trans hk2⟩
theorem j0h(k:Nat){o:Int}(hk:k=0/\o=3\/k=1/\o=5)(tx:ByteArray)(n:Int):k1j (⟨o,tx,n⟩::[]) ([]) (false):=by
 have tg:Tag k:=.mk;rcases hk with⟨rfl,rfl⟩|⟨rfl,rfl⟩
 all_goals
  intro B b s ds r0 a cap l k w hd hN hsB hsb hc hW hBw hl;generalize hr:[]++r0=r;have HR:Hid ([]++r0=r):=hr;have HRL:Hid (r.length=([]:List Nd).length+r0.length):=(show _=_ by rw[<-hr,List.length_append]);obtain rfl:ds=⟨↑(sel tg (3:Int) 5),tx,n⟩::r:=by rw[hd,<-hr];rfl
  clear hd hr;obtain⟨o0,ea,c1,c2,c3⟩:=hN 0 (by simp);subst ea;simp only[List.length_cons]at hc hl⊢;have HN1:Hid (q0x s w (some ⟨s,o0+3,none⟩) r):=hN.rest
  have HN2:Hid (cap=1->q0x s w (some ⟨s,o0,none⟩) r):=fun h=>by
   have h1:=hN.slid hc;rw[if_pos h]at h1;exact h1
  have HW:Hid (Ln B b l k w):=hW;simp only[Nat.zero_mul,Nat.add_zero,List.getElem_cons_zero]at c1 c2 c3;have hb0:s<w.heap.size:=by omega
  have hr1:(1:Int)<=(r.length:Int)+1:=by omega
  have HB:Hid (∀O:Obj,q0p B b w (w.alloc O).drew):=fun O=>q0p.drew ((q0p.refl B b w).alloc hBw O)
  have HK:Hid (∀O:Obj,Lib.OthersKept 5 (some b) w (w.alloc O).drew):=fun O=>((Lib.OthersKept.refl _ _ w).alloc O).drew
  have HS:Hid (s<B/\s≠b):=⟨hsB,hsb⟩;clear hN hW hsB hsb;go_in
  go_upto_region 1 with fail
  go_cut [0,1,5,6] (fun t _ p q wx=>k5j B b s w.heap.size ⟨↑(sel tg (3:Int) 5),tx,n⟩ r l k w t p q wx)
  case first=>
   go_region
   all_goals (go_wp2_with fail)
   all_goals
    go_meet
    refine⟨rfl,rfl,⟨_,_,rfl,?_,by omega⟩,by simp[go_sem],by simp[go_sem],by simp[go_sem],IsX.drew (IsX.alloc HW.o _),HB.o _,HK.o _⟩
    first
     | exact HN1.o.kept ((HB.o _).block s HS.o.1 HS.o.2)
     | exact(HN2.o (by assumption)).kept ((HB.o _).block s HS.o.1 HS.o.2)
     | exact(HN2.o rfl).kept ((HB.o _).block s HS.o.1 HS.o.2)
  case rest=>
   obtain⟨rfl,rfl,⟨a',cap',rfl,hn,hc'⟩,e1,e2,e3,hw,hbw,hkw⟩:=hcut;dsimp only at e1 e2 e3;have HN':Hid (q0x s wc a' r):=hn;have HW':Hid (Ln B b l k wc):=hw;have HB':Hid (q0p B b w wc):=hbw;have HK':Hid (Lib.OthersKept 5 (some b) w wc):=hkw;have hBc:B<=wc.heap.size:=Nat.le_trans hBw hbw.size;clear hn hw hbw hkw;go_wp2;go_ret;obtain rfl:r0=r:=HR.o;rw[Bool.or_false,List.append_nil];exact⟨⟨_,_,rfl,HN'.o,hc'⟩,HW'.o,HB'.o,HK'.o⟩
theorem y6c(tx:ByteArray)(n:Int):k1j (⟨4,tx,n⟩::[]) ([]) (true):=by
 intro B b s ds r0 a cap l k w hd hN hsB hsb hc hW hBw hl;generalize hr:[]++r0=r;have HR:Hid ([]++r0=r):=hr;have HRL:Hid (r.length=([]:List Nd).length+r0.length):=(show _=_ by rw[<-hr,List.length_append]);obtain rfl:ds=⟨4,tx,n⟩::r:=by rw[hd,<-hr];rfl
 clear hd hr;obtain⟨o0,ea,c1,c2,c3⟩:=hN 0 (by simp);subst ea;simp only[List.length_cons]at hc hl⊢;have HN1:Hid (q0x s w (some ⟨s,o0+3,none⟩) r):=hN.rest
 have HN2:Hid (cap=1->q0x s w (some ⟨s,o0,none⟩) r):=fun h=>by
  have h1:=hN.slid hc;rw[if_pos h]at h1;exact h1
 have HW:Hid (Ln B b l k w):=hW;simp only[Nat.zero_mul,Nat.add_zero,List.getElem_cons_zero]at c1 c2 c3;have hb0:s<w.heap.size:=by omega
 have hr1:(1:Int)<=(r.length:Int)+1:=by omega
 have HB:Hid (∀O:Obj,q0p B b w (w.alloc O).drew):=fun O=>q0p.drew ((q0p.refl B b w).alloc hBw O)
 have HK:Hid (∀O:Obj,Lib.OthersKept 5 (some b) w (w.alloc O).drew):=fun O=>((Lib.OthersKept.refl _ _ w).alloc O).drew
 have HS:Hid (s<B/\s≠b):=⟨hsB,hsb⟩;clear hN hW hsB hsb;go_in
 go_upto_region 1 with fail
 go_cut [0,1,5,6] (fun t _ p q wx=>k5j B b s w.heap.size ⟨4,tx,n⟩ r l k w t p q wx)
 case first=>
  go_region
  all_goals (go_wp2_with fail)
  all_goals
   go_meet
   refine⟨rfl,rfl,⟨_,_,rfl,?_,by omega⟩,by simp[go_sem],by simp[go_sem],by simp[go_sem],IsX.drew (IsX.alloc HW.o _),HB.o _,HK.o _⟩
   first
    | exact HN1.o.kept ((HB.o _).block s HS.o.1 HS.o.2)
    | exact(HN2.o (by assumption)).kept ((HB.o _).block s HS.o.1 HS.o.2)
    | exact(HN2.o rfl).kept ((HB.o _).block s HS.o.1 HS.o.2)
 case rest=>
  obtain⟨rfl,rfl,⟨a',cap',rfl,hn,hc'⟩,e1,e2,e3,hw,hbw,hkw⟩:=hcut;dsimp only at e1 e2 e3;have HN':Hid (q0x s wc a' r):=hn;have HW':Hid (Ln B b l k wc):=hw;have HB':Hid (q0p B b w wc):=hbw;have HK':Hid (Lib.OthersKept 5 (some b) w wc):=hkw;have hBc:B<=wc.heap.size:=Nat.le_trans hBw hbw.size;clear hn hw hbw hkw;have g1:=HW'.o.cell;have g2:=HW'.o.frozen;go_wp2;go_ret;obtain rfl:r0=r:=HR.o;rw[Bool.or_true,List.append_nil];refine⟨⟨_,_,rfl,HN'.o.kept (Below.heap_setCell _ _ _ _ HS.o.2),hc'⟩,HW'.o.stored true,HB'.o.setCell (.inl rfl) _,HK'.o.setCell _ rfl _⟩
end Go.Proofs.YthcpdohdppkmkaaGreatDoor
