import Derived.Test.YtelcnplcpboonaaGreatDoorPe26
import Derived.Deep.DeepFit
import Derived.Test.YtelcnplcpboonaaGreatDoorPe25
open Go.Proofs.Tryz
open List renaming length->ſ
open Go.Value renaming int->À,pointer->Æ,agg->É,string->Í,slice->Ð,tuple->Ñ
open Go.IntKind renaming i64->Á
open Option renaming none->Â,some->Ã
open Go.Obj renaming cells->Ä
open Go.World renaming block_lt_of_cell?->Å,cell?->È
open Go.RowKit renaming Below->Ç
open Go.Ending renaming returned->Ê
open Nat renaming le_of_eq->Ë,lt_of_succ_le->Î,le_refl->Ò
open Go renaming World->Ì,bodyPost_ret->Ï
namespace Go.Proofs.YtelcnplcpboonaaGreatDoor
open Go Go.RowKit
set_option maxRecDepth 100000
set_option maxHeartbeats 8000000
theorem RG(a b c d e w):(Instr.field 282 (É #[a,b,c,d,e]) 0).run prog w=.ok (É #[a,b]) w:=by kernel_rfl
theorem Pr(a b c d e w):(Instr.field 282 (É #[a,b,c,d,e]) 1).run prog w=.ok c w:=by kernel_rfl
theorem RH(a b c d e w):(Instr.field 282 (É #[a,b,c,d,e]) 2).run prog w=.ok (É #[d,e]) w:=by kernel_rfl
structure l4(w1 wx:Ì)(b b7 b8:Nat)(m:Mv):Prop where
 p0:wx.cell? ⟨b7,0,Â⟩=Ã (À Á m.np)
 p1:wx.cell? ⟨b7,1,Â⟩=Ã (À Á m.nc)
 o0:wx.cell? ⟨b8,0,Â⟩=Ã (À Á m.o)
 o1:wx.cell? ⟨b8,1,Â⟩=Ã (À Á m.l)
 n7:b<b7
 n8:b<b8
 bw:Ç (b+1) w1 wx
theorem iC{A B n}(h:Ç n A B)(C:n<=A.heap.size)(O):Ç n A (B.alloc O):=h.alloc (Nat.le_trans C h.size) O
section
variable {w1 w2:Ì} {b:Nat} {m:Mv} {T7 T8:TypeId}
theorem QM(h:Ç (b+1) w1 w2)(A:b+1=w1.heap.size):l4 w1 ((w2.alloc (Ä #[m.np,m.nc] T7)).alloc (Ä #[m.o,m.l] T8)) b w2.heap.size (w2.heap.size+1) m:=
 have B:=h.size
 ⟨by simp[go_sem],by simp[go_sem],by simp[go_sem],by simp[go_sem],by omega,by omega,iC (iC h (by omega) _) (by omega) _⟩
theorem QN(h:Ç (b+1) w1 w2)(A:b+1=w1.heap.size):l4 w1 ((w2.alloc (Ä #[m.o,m.l] T8)).alloc (Ä #[m.np,m.nc] T7)) b (w2.heap.size+1) w2.heap.size m:=
 have B:=h.size
 ⟨by simp[go_sem],by simp[go_sem],by simp[go_sem],by simp[go_sem],by omega,by omega,iC (iC h (by omega) _) (by omega) _⟩
theorem ye{W:Ì}{a:Nat}{u0 u1 v0 v1}(A:W.cell? a=Ã u0)(B:W.cell? (a,1)=Ã u1):((W.setCell a v0).setCell (a,1) v1).cell? a=Ã v0/\((W.setCell a v0).setCell (a,1) v1).cell? (a,1)=Ã v1:=
 ⟨(af (by omega)).trans (cF A),cF ((af (by omega)).trans B)⟩
theorem jB{n a v0 v1}(h:Ç n w1 w2)(A:n<=a):Ç n w1 ((w2.setCell a v0).setCell (a,1) v1):=(h.setCell (p:=a) A _).setCell (p:=(a,1)) A _
theorem Jx{W:Ì}{a d:Nat}{u0 u1 s0 s1 v0 v1 t0 t1}(A:a≠d)(G:W.cell? a=Ã u0)(H:W.cell? (a,1)=Ã u1)(I:W.cell? d=Ã s0)(J:W.cell? (d,1)=Ã s1):
  ((((W.setCell a v0).setCell (a,1) v1).setCell d t0).setCell (d,1) t1).cell? a=Ã v0/\((((W.setCell a v0).setCell (a,1) v1).setCell d t0).setCell (d,1) t1).cell? (a,1)=Ã v1/\((((W.setCell a v0).setCell (a,1) v1).setCell d t0).setCell (d,1) t1).cell? d=Ã t0/\((((W.setCell a v0).setCell (a,1) v1).setCell d t0).setCell (d,1) t1).cell? (d,1)=Ã t1:=by
 obtain⟨B,C⟩:=ye (v0:=v0) (v1:=v1) G H;obtain⟨D,E⟩:=ye (W:=(W.setCell ⟨a,0,Â⟩ v0).setCell ⟨a,1,Â⟩ v1) (v0:=t0) (v1:=t1) ((af (.inl A)).trans ((af (.inl A)).trans I)) ((af (.inl A)).trans ((af (.inl A)).trans J));exact⟨(af (.inl A.symm)).trans ((af (.inl A.symm)).trans B),(af (.inl A.symm)).trans ((af (.inl A.symm)).trans C),D,E⟩
theorem QO{u0 u1}(h:Ç (b+1) w1 w2)(J:b+1=w1.heap.size)(H:w2.cell? ↑(b+1)=Ã u0)(I:w2.cell? ↑(b+1,1)=Ã u1):
  l4 w1 (((((w2.alloc (Ä #[À Á 0,À Á 0] T8)).setCell ↑(b+1) ↑m.np).setCell ↑(b+1,1) ↑m.nc).setCell ↑w2.heap.size ↑m.o).setCell ↑(w2.heap.size,1) ↑m.l) b (b+1) w2.heap.size m:=by
 have A:=Å w2 ↑(b+1) H;have B:b+1<w2.heap.size:=A;obtain⟨C,D,E,G⟩:=Jx (W:=w2.alloc (Ä #[À Á 0,À Á 0] T8)) (a:=b+1) (d:=w2.heap.size) (s0:=À Á 0) (s1:=À Á 0) (v0:=↑m.np) (v1:=↑m.nc) (t0:=↑m.o) (t1:=↑m.l) (by omega) (ka H _) (ka I _) (by simp[go_sem]) (by simp[go_sem]);exact⟨C,D,E,G,by omega,by omega,jB (jB (iC h (by omega) _) (by omega)) (by omega)⟩
theorem QP{u0 u1}(h:Ç (b+1) w1 w2)(H:b+1=w1.heap.size)(E:w2.cell? ↑(b+1)=Ã u0)(G:w2.cell? ↑(b+1,1)=Ã u1):
  l4 w1 (((w2.alloc (Ä #[↑m.np,↑m.nc] T7)).setCell ↑(b+1) ↑m.o).setCell ↑(b+1,1) ↑m.l) b w2.heap.size (b+1) m:=by
 have A:=Å w2 ↑(b+1) E;have B:b+1<w2.heap.size:=A;obtain⟨C,D⟩:=ye (W:=w2.alloc (Ä #[m.np,m.nc] T7)) (v0:=m.o) (v1:=m.l) (ka E _) (ka G _);exact⟨(af (by omega)).trans ((af (by omega)).trans (by simp[go_sem])),(af (by omega)).trans ((af (by omega)).trans (by simp[go_sem])),C,D,by omega,by omega,jB (iC h (by omega) _) (by omega)⟩
theorem EQ{a d u0 u1 M N}(h:Ç (b+1) w1 w2)(A:a≠d)(I:b<a)(J:b<d)(G:w2.cell? a=Ã u0)(H:w2.cell? (a,1)=Ã u1)(K:w2.cell? d=Ã M)(L:w2.cell? (d,1)=Ã N):
  l4 w1 ((((w2.setCell a m.np).setCell (a,1) m.nc).setCell d m.o).setCell (d,1) m.l) b a d m:=by
 obtain⟨B,C,D,E⟩:=Jx (v0:=m.np) (v1:=m.nc) (t0:=m.o) (t1:=m.l) A G H K L;exact⟨B,C,D,E,I,J,jB (jB h (by omega)) (by omega)⟩
end
theorem rj{W:Ì}{b A o:Nat}{v C D E G H}(B:b≠A)(h:W.cell? (b,o)=Ã v):(((((W.setCell A C).setCell (A,1) D).setCell (A,2) E).setCell (A,3) G).setCell (A,4) H).cell? (b,o)=Ã v:=
 (af (.inl B.symm)).trans ((af (.inl B.symm)).trans ((af (.inl B.symm)).trans ((af (.inl B.symm)).trans ((af (.inl B.symm)).trans h))))
structure nA(w wx:Ì)(b7 b8:Nat)(m:Mv):Prop where
 p0:wx.cell? ⟨b7,0,Â⟩=Ã (À Á m.np)
 p1:wx.cell? ⟨b7,1,Â⟩=Ã (À Á m.nc)
 o0:wx.cell? ⟨b8,0,Â⟩=Ã (À Á m.o)
 o1:wx.cell? ⟨b8,1,Â⟩=Ã (À Á m.l)
 r0:wx.cell? ⟨w.heap.size+1,0,Â⟩=Ã (À Á 0)
 r1:wx.cell? ⟨w.heap.size+1,1,Â⟩=Ã (À Á 0)
 r2:wx.cell? ⟨w.heap.size+1,2,Â⟩=Ã (À Á 0)
 r3:wx.cell? ⟨w.heap.size+1,3,Â⟩=Ã (À Á 0)
 r4:wx.cell? ⟨w.heap.size+1,4,Â⟩=Ã (À Á 0)
 fr:de wx (w.heap.size+1)
 n7:w.heap.size+1<b7
 n8:w.heap.size+1<b8
theorem nA.kept{w}{D:Ì}{E G H mb m}(h:nA w D G H m)(I:am D mb D E)(L:mb<w.heap.size):nA w E G H m:=by
 have B:=h.n7;have C:=h.n8;have A:∀b o v,b≠mb->D.cell? ⟨b,o,Â⟩=Ã v->E.cell? ⟨b,o,Â⟩=Ã v:=λb o v K J=>(I.cell (p:=⟨b,o,Â⟩) (Å D ⟨b,o,Â⟩ J) K).trans J
 exact⟨A _ _ _ (by omega) h.p0,A _ _ _ (by omega) h.p1,A _ _ _ (by omega) h.o0,A _ _ _ (by omega) h.o1,A _ _ _ (by omega) h.r0,A _ _ _ (by omega) h.r1,A _ _ _ (by omega) h.r2,A _ _ _ (by omega) h.r3,A _ _ _ (by omega) h.r4,h.fr.kept (I.block _ h.fr.lt (by omega)),B,C⟩
theorem PS{I g mb J i c E G R}{S:Nat->Nat->Bool}{w C D m}(h:iv I g mb J i c R S w C)(B:l4 C D (w.heap.size+1) E G m):nA w D E G m:=by
 have A:∀o v,C.cell? ⟨w.heap.size+1,o,Â⟩=Ã v->D.cell? ⟨w.heap.size+1,o,Â⟩=Ã v:=λo v H=>(B.bw.cell (p:=⟨w.heap.size+1,o,Â⟩) (by simp)).trans H
 exact⟨B.p0,B.p1,B.o0,B.o1,A _ _ h.r0,A _ _ h.r1,A _ _ h.r2,A _ _ h.r3,A _ _ h.r4,h.fr.kept (B.bw.block _ (by omega)),B.n7,B.n8⟩
theorem VI{R L M i nx dp wd c ch ks t}(sb g mb)(hR:ſ R<=400)(Aa:Sp R L M i t nx dp ks)(hc:c<=wd)(hw:wd<=100)(hL:L<=400)(hM:M<=3200)(An:ch=0\/ch=1)(hh:t.lg=-1->ch=1)
  (Am:nP sb g mb wd R (bH R wd i c ch).np (bH R wd i c ch).nc) (hV:∃k:Cv,k=(if(bH R wd i c ch).np<ſ R then az R wd (bH R wd i c ch).np (bH R wd i c ch).nc else gP)/\k.o=(vv R wd (bH R wd i c ch).np (bH R wd i c ch).nc).1.1/\k.l=(vv R wd (bH R wd i c ch).np (bH R wd i c ch).nc).1.2/\k.o<=400000/\k.l<=400000):kb sb g mb wd R i c ch:=by
 intro w S h;have H:Hid (aU sb g mb wd R w S):=h;have Aq:=h.lt;obtain⟨k,hk,Ap,Ao,Ax,Aw⟩:=hV;have hm:=qh (ch:=ch) Aa hc hw hL hM;have Z:Hid (∀W:Ì,fN W sb g wd R->Cb 274 #[Æ (Ã ⟨sb,0,Â⟩),É #[À Á i,À Á c],À Á ch] W (Ñ #[É #[À Á (bH R wd i c ch).np,À Á (bH R wd i c ch).nc],É #[À Á (bH R wd i c ch).o,À Á (bH R wd i c ch).l]])):=λW hW=>Rn sb g W hR Aa hc hw hL hM An hh hW
 have Ah:Hid (∀W S,aU sb g mb wd R W S->Cp 203 #[Æ (Ã ⟨sb,0,Â⟩),É #[À Á (bH R wd i c ch).np,À Á (bH R wd i c ch).nc]] W λe a=>e=Ê (É #[À Á k.o,À Á k.l,À Á k.ch,À Á k.np,À Á k.nc])/\Left sb g mb wd R S (bH R wd i c ch).np (bH R wd i c ch).np (bH R wd i c ch).nc W a):=λW S hW=>by
  have:=Am W S hW
  rw[<-hk]at this;exact this
 have Al:ax R wd i c ch=⟨(bH R wd i c ch).o+k.o,(bH R wd i c ch).l+k.l,ch,(bH R wd i c ch).np,(bH R wd i c ch).nc⟩:=by rw[ax,jF,Ap,Ao]
 rw[Al,dQ];dsimp only;clear hk Ap Ao Am Al h;generalize bH R wd i c ch=m at *;have HM:Hid (EL R wd i m):=hm;have ho:=hm.bo;have A1:=hm.bl;clear hm;go_in;go_wp2_with fail;have Y:iv sb g mb wd i c R S w ((w.alloc (Ä #[À Á i,À Á c] 280)).alloc (Ä #[À Á 0,À Á 0,À Á 0,À Á 0,À Á 0] 282)):=nY (nq:=0) H.o
 generalize(w.alloc (Ä #[À Á i,À Á c] 280)).alloc (Ä #[À Á 0,À Á 0,À Á 0,À Á 0,À Á 0] 282)=w1 at *
 have HK:Hid (iv sb g mb wd i c R S w w1):=Y;have a0:=Y.a0;have a1:=Y.a1;have E:=Y.sz;clear Y
 have N:Hid (∀W,Ç (w.heap.size+1+1) w1 W->W.cell? ⟨w,0,Â⟩=Ã (À Á i)/\W.cell? ⟨w,1,Â⟩=Ã (À Á c)):=λW hb=>
  ⟨(hb.cell (p:=⟨w,0,Â⟩) (by simp;omega)).trans a0,(hb.cell (p:=⟨w,1,Â⟩) (by simp;omega)).trans a1⟩
 have j:Ç (w.heap.size+1+1) w1 w1.drew:=(Below.refl _ w1).drew;have n:∀O,Ç (w.heap.size+1+1) w1 (w1.alloc O).drew:=λO=>(iC (Below.refl _ w1) (by omega) O).drew
 have q:∀a b,Ç (w.heap.size+1+1) w1 ((w1.alloc a).alloc b).drew:=λO1 O2=>(iC (iC (Below.refl _ w1) (by omega) O1) (by omega) O2).drew
 have f:Hid (∀W,Ç (w.heap.size+1+1) w1 W->fN W sb g wd R):=λW hb=>HK.o.inv.pl.kept (hb.block _ (by omega)) (hb.block _ (by omega))
 have Ac:Hid (Cp 274 #[Æ (Ã ⟨sb,0,Â⟩),É #[À Á i,À Á c],À Á ch] w1.drew λe a=>e=Ê (Ñ #[É #[À Á m.np,À Á m.nc],É #[À Á m.o,À Á m.l]])/\Ç w1.drew.heap.size w1.drew a):=Z.o _ (f.o _ j);have Ad:Hid (∀O,Cp 274 #[Æ (Ã ⟨sb,0,Â⟩),É #[À Á i,À Á c],À Á ch] (w1.alloc O).drew λe a=>e=Ê (Ñ #[É #[À Á m.np,À Á m.nc],É #[À Á m.o,À Á m.l]])/\Ç (w1.alloc O).drew.heap.size (w1.alloc O).drew a):=λO=>Z.o _ (f.o _ (n O))
 have Ae:Hid (∀a b,Cp 274 #[Æ (Ã ⟨sb,0,Â⟩),É #[À Á i,À Á c],À Á ch] ((w1.alloc a).alloc b).drew λe c=>e=Ê (Ñ #[É #[À Á m.np,À Á m.nc],É #[À Á m.o,À Á m.l]])/\Ç ((w1.alloc a).alloc b).drew.heap.size ((w1.alloc a).alloc b).drew c):=λO1 O2=>Z.o _ (f.o _ (q O1 O2))
 have Ai:Hid (∀a,Ç w1.drew.heap.size w1.drew a->Ç (w.heap.size+1+1) w1 a):=λw2 hb=>j.trans (hb.mono (by show _<=w1.heap.size;omega))
 have Aj:Hid (∀T a,Ç (w1.alloc (Ä #[À Á 0,À Á 0] T)).drew.heap.size (w1.alloc (Ä #[À Á 0,À Á 0] T)).drew a->Ç (w.heap.size+1+1) w1 a/\a.cell? ⟨w.heap.size+1+1,0,Â⟩=Ã (À Á 0)/\a.cell? ⟨w.heap.size+1+1,1,Â⟩=Ã (À Á 0)/\a.frozen? ⟨w.heap.size+1+1,0,Â⟩=false/\a.frozen? ⟨w.heap.size+1+1,1,Â⟩=false/\w.heap.size+1+1+1<=a.heap.size):=λT w2 hb=>by
  obtain⟨I,J⟩:=a9 hb;have B:(w1.alloc (Ä #[À Á 0,À Á 0] T)).drew.heap.size=w.heap.size+1+1+1:=by show(w1.alloc (Ä #[À Á 0,À Á 0] T)).heap.size=_;simp[E]
  have X:=hb.size;rw[B]at X;refine⟨(n _).trans (hb.mono (by rw[B];omega)),(I _ _ (by rw[B];omega)).trans ?_,(I _ _ (by rw[B];omega)).trans ?_,(J _ _ (by rw[B];omega)).trans ?_,(J _ _ (by rw[B];omega)).trans ?_,X⟩
  .rw[<-E];simp[go_sem]
  .rw[<-E];simp[go_sem]
  .rw[<-E];simp[go_sem]
  .rw[<-E];simp[go_sem]
 have Ak:Hid (∀a b c,Ç ((w1.alloc (Ä #[À Á 0,À Á 0] a)).alloc (Ä #[À Á 0,À Á 0] b)).drew.heap.size ((w1.alloc (Ä #[À Á 0,À Á 0] a)).alloc (Ä #[À Á 0,À Á 0] b)).drew c->Ç (w.heap.size+1+1) w1 c/\(c.cell? ⟨w.heap.size+1+1,0,Â⟩=Ã (À Á 0)/\c.cell? ⟨w.heap.size+1+1,1,Â⟩=Ã (À Á 0)/\c.frozen? ⟨w.heap.size+1+1,0,Â⟩=false/\c.frozen? ⟨w.heap.size+1+1,1,Â⟩=false)/\c.cell? ⟨w.heap.size+1+1+1,0,Â⟩=Ã (À Á 0)/\c.cell? ⟨w.heap.size+1+1+1,1,Â⟩=Ã (À Á 0)/\c.frozen? ⟨w.heap.size+1+1+1,0,Â⟩=false/\c.frozen? ⟨w.heap.size+1+1+1,1,Â⟩=false):=λT1 T2 w2 hb=>by
  obtain⟨I,J⟩:=a9 hb;have B:((w1.alloc (Ä #[À Á 0,À Á 0] T1)).alloc (Ä #[À Á 0,À Á 0] T2)).drew.heap.size=w.heap.size+1+1+1+1:=by show((w1.alloc (Ä #[À Á 0,À Á 0] T1)).alloc (Ä #[À Á 0,À Á 0] T2)).heap.size=_;simp[E]
  refine⟨(q _ _).trans (hb.mono (by rw[B];omega)),⟨(I _ _ (by rw[B];omega)).trans ?_,(I _ _ (by rw[B];omega)).trans ?_,(J _ _ (by rw[B];omega)).trans ?_,(J _ _ (by rw[B];omega)).trans ?_⟩,(I _ _ (by rw[B];omega)).trans ?_,(I _ _ (by rw[B];omega)).trans ?_,(J _ _ (by rw[B];omega)).trans ?_,(J _ _ (by rw[B];omega)).trans ?_⟩
  all_goals rw[<-E];simp[go_sem]
 have D:Hid (w1.heap.size=w.heap.size+1+1):=E;clear Z An hh Aa
 go_cut [0,2,6,7,8] (λa b c d f g=>a=Æ (Ã ⟨sb,0,Â⟩)/\b=À Á ch/\c=Æ (Ã ⟨w.heap.size+1,0,Â⟩)/\∃P Q,d=Æ (Ã ⟨P,0,Â⟩)/\f=Æ (Ã ⟨Q,0,Â⟩)/\l4 w1 g (w.heap.size+1) P Q m)
 case first=>
  go_region_held3 (λa=>a.cell? ⟨w,0,Â⟩=Ã (À Á i)/\a.cell? ⟨w,1,Â⟩=Ã (À Á c))
   (first|with_reducible exact N.o _ j|with_reducible exact N.o _ (n _)|with_reducible exact N.o _ (q _ _)|with_reducible exact N.o _ C|with_reducible exact N.o _ (iC C (Ë D.o.symm) _)|with_reducible exact N.o _ (iC (iC C (Ë D.o.symm) _) (Ë D.o.symm) _)|with_reducible exact N.o _ (jB C (by omega))|with_reducible exact N.o _ (jB (jB C (by omega)) (by omega))|with_reducible exact N.o _ (jB (iC C (Ë D.o.symm) _) (by omega))|with_reducible exact N.o _ (jB (jB (iC C (Ë D.o.symm) _) (by omega)) (by omega)))
   (first|(go_at_call 274;go_fit Ac.o;rintro e w2⟨rfl,V⟩;have C:=Ai.o _ V)|(go_at_call 274;go_fit (Ad.o _);rintro e w2⟨rfl,V⟩;obtain⟨C,x0,x1,f0,f1,X⟩:=Aj.o _ _ V;have A3:=λO=>ka x0 O;have A4:=λO=>ka x1 O;have Ay:=λO=>ij (Î X) f0 O;have Az:=λO=>ij (Î X) f1 O)|(go_at_call 274;go_fit (Ae.o _ _);rintro e w2⟨rfl,V⟩;obtain⟨C,⟨x0,x1,f0,f1⟩,x2,x3,f2,f3⟩:=Ak.o _ _ _ V))
  all_goals
   go_wp2
   go_meet
   first
    | with_reducible exact⟨rfl,rfl,rfl,w2.heap.size,w2.heap.size+1,rfl,rfl,QM (w2:=w2) (b:=w.heap.size+1) (m:=m) (T7:=280) (T8:=120) C D.o.symm⟩
    | with_reducible exact⟨rfl,rfl,rfl,w2.heap.size+1,w2.heap.size,rfl,rfl,QN (w2:=w2) (b:=w.heap.size+1) (m:=m) (T7:=280) (T8:=120) C D.o.symm⟩
    | with_reducible exact⟨rfl,rfl,rfl,w.heap.size+1+1,w2.heap.size,rfl,rfl,QO (w2:=w2) (b:=w.heap.size+1) (m:=m) (T8:=120) C D.o.symm x0 x1⟩
    | with_reducible exact⟨rfl,rfl,rfl,w2.heap.size,w.heap.size+1+1,rfl,rfl,QP (w2:=w2) (b:=w.heap.size+1) (m:=m) (T7:=280) C D.o.symm x0 x1⟩
    | with_reducible exact⟨rfl,rfl,rfl,w.heap.size+1+1,w.heap.size+1+1+1,rfl,rfl,EQ (w2:=w2) (b:=w.heap.size+1) (m:=m) (a:=w.heap.size+1+1) (d:=w.heap.size+1+1+1) C (by omega) (by omega) (by omega) x0 x1 x2 x3⟩
    | with_reducible exact⟨rfl,rfl,rfl,w.heap.size+1+1+1,w.heap.size+1+1,rfl,rfl,EQ (w2:=w2) (b:=w.heap.size+1) (m:=m) (a:=w.heap.size+1+1+1) (d:=w.heap.size+1+1) C (by omega) (by omega) (by omega) x2 x3 x0 x1⟩
 case rest=>
  obtain⟨rfl,rfl,rfl,P,Q,rfl,rfl,hT⟩:=hcut;have G:Hid (nA w wc P Q m):=PS HK.o hT;have Ar:Hid (aU sb g mb wd R wc.drew S):=HK.o.inv.kept3 (hT.bw.block _ (by omega)) (hT.bw.block _ (by omega)) (hT.bw.block _ (by omega));have Ab:Hid (am w mb w wc.drew):=(am.of (HK.o.bw.trans (hT.bw.mono (by omega)))).drew;have o0:wc.drew.cell? ⟨Q,0,Â⟩=Ã (À Á m.o):=G.o.o0;have o1:wc.drew.cell? ⟨Q,1,Â⟩=Ã (À Á m.l):=G.o.o1;have p0:wc.drew.cell? ⟨P,0,Â⟩=Ã (À Á m.np):=G.o.p0;have p1:wc.drew.cell? ⟨P,1,Â⟩=Ã (À Á m.nc):=G.o.p1;have Af:Hid (P≠w.heap.size+1):=(show P≠w.heap.size+1 by have:=G.o.n7;omega);have Ag:Hid (Q≠w.heap.size+1):=(show Q≠w.heap.size+1 by have:=G.o.n8;omega)
  have As:Hid (Cp 203 #[Æ (Ã ⟨sb,0,Â⟩),É #[À Á m.np,À Á m.nc]] wc.drew λe c=>e=Ê (É #[À Á k.o,À Á k.l,À Á k.ch,À Á k.np,À Á k.nc])/\nA w c P Q m/\am w mb w c/\∃r,aU sb g mb wd R c r/\(∀a b,S a b=true->r a b=true)/\(∀a b,r a b=true->S a b=true\/i+1<=a)/\(m.np<ſ R->r m.np m.nc=true)):=by
   refine(Ah.o wc.drew S Ar.o).mono ?_;rintro e w6⟨rfl,K,r,hI,z,y,x⟩;have A2:=HM.o.lo;refine⟨rfl,G.o.kept (mb:=mb) ⟨K.os,K.tape,K.output,K.size,K.block⟩ Aq.2.2,Ab.o.trans (K.mono Ab.o.size),r,hI,z,λa b hab=>?_,x⟩;rcases y a b hab with h|h
   .exact .inl h
   .exact .inr (by omega)
  have At:Hid (∀W,Cb 275 #[É #[À Á m.o,À Á m.l],É #[À Á k.o,À Á k.l]] W (É #[À Á ((m.o+k.o:Nat):Int),À Á ((m.l+k.l:Nat):Int)])):=λW=>TU m.o m.l k.o k.l (by omega) (by omega) Ax Aw W
  clear hT Ah Ac Ad Ae Ai Aj Ak N f j n q a0 a1 E;have A0:=RG;go_wp2_with fail
  go_region_held3 (λa=>a.cell? ⟨Q,0,Â⟩=Ã (À Á m.o)/\a.cell? ⟨Q,1,Â⟩=Ã (À Á m.l)/\a.cell? ⟨P,0,Â⟩=Ã (À Á m.np)/\a.cell? ⟨P,1,Â⟩=Ã (À Á m.nc))
   (first|with_reducible exact⟨o0,o1,p0,p1⟩|with_reducible exact⟨U.o0,U.o1,U.p0,U.p1⟩|with_reducible exact⟨A.o0,A.o1,A.p0,A.p1⟩|with_reducible exact⟨rj Ag.o A.o0,rj Ag.o A.o1,rj Af.o A.p0,rj Af.o A.p1⟩)
   (first|(go_at_call 203;refine As.o.mono ?_;rintro e w6⟨rfl,U,Av⟩)|(go_at_call 275;refine(At.o _).mono ?_;rintro e w7⟨rfl,u⟩;have A:=U.kept (am.of u) Aq.2.2;have r0:=A.r0;have r1:=A.r1;have r2:=A.r2;have r3:=A.r3;have r4:=A.r4;have y0:w7.frozen? ⟨w.heap.size+1,0,Â⟩=false:=A.fr.frozen;have y1:w7.frozen? ⟨w.heap.size+1,1,Â⟩=false:=A.fr.frozen;have y2:w7.frozen? ⟨w.heap.size+1,2,Â⟩=false:=A.fr.frozen;have y3:w7.frozen? ⟨w.heap.size+1,3,Â⟩=false:=A.fr.frozen;have y4:w7.frozen? ⟨w.heap.size+1,4,Â⟩=false:=A.fr.frozen))
  all_goals
   obtain⟨s,r,Au,z,y,x⟩:=Av;go_wp2;exact Ï (v:=É #[À Á ((m.o:Int)+k.o),À Á ((m.l:Int)+k.l),À Á ch,À Á m.np,À Á m.nc]) (by simp[results,Tryz.results256,go_sem,r0,r1,r2,r3,r4]) rfl ⟨rfl,mr (s.trans (am.of (u.mono s.size))) (by omega) _ _ _ _ _,r,(Au.W u).set5 (by omega) (by omega) (by omega) _ _ _ _ _,z,y,x⟩
def F1(R:List Pl)(k:Nat):Nat->Q:=λj=>if k<=j then q1 (aD R j)else q0
theorem JR{R i}:ct (F1 R (i+1)) i (q1 (aD R i))=F1 R i:=by grind [ct,F1,q1,aD]
structure Tl(R:List Pl)(L M i:Nat)(F:Nat->Q):Prop where
 op:∀j,j<ſ R->(F j).op=(aD R j).nd.op
 tx:∀j,j<ſ R->(F j).tx=(aD R j).nd.tx
 n:∀j,j<ſ R->(F j).n=(aD R j).nd.n
 en:∀j,j<ſ R->(F j).en=(aD R j).en
 nx:∀j,j<ſ R->(j=0\/∃p,p<i/\iO R L M p j)->(F j).nx=(aD R j).nx
 dp:∀j,j<ſ R->(j=0\/∃p,p<i/\iO R L M p j)->(F j).dp=(aD R j).dp
 lg:∀j,j<ſ R->j<i->(F j).lg=(aD R j).lg
 l0:∀j,j<ſ R->i<=j->(F j).lg=0
theorem Tl.tell{R:List Pl}{L M i j:Nat}{F:Nat->Q}{x y:Int}(h:Tl R L M i F)(A:x=(aD R j).nx)(B:y=(aD R j).dp):Tl R L M i (ct F j {F j with nx:=x,dp:=y}) where
 op k hk:=by by_cases e:k=j;subst e;rw[dX];exact h.op k hk;rw[gM e];exact h.op k hk
 tx k hk:=by by_cases e:k=j;subst e;rw[dX];exact h.tx k hk;rw[gM e];exact h.tx k hk
 n k hk:=by by_cases e:k=j;subst e;rw[dX];exact h.n k hk;rw[gM e];exact h.n k hk
 en k hk:=by by_cases e:k=j;subst e;rw[dX];exact h.en k hk;rw[gM e];exact h.en k hk
 nx k hk hp:=by by_cases e:k=j;subst e;rw[dX];exact A;rw[gM e];exact h.nx k hk hp
 dp k hk hp:=by by_cases e:k=j;subst e;rw[dX];exact B;rw[gM e];exact h.dp k hk hp
 lg k hk hp:=by by_cases e:k=j;subst e;rw[dX];exact h.lg k hk hp;rw[gM e];exact h.lg k hk hp
 l0 k hk hp:=by by_cases e:k=j;subst e;rw[dX];exact h.l0 k hk hp;rw[gM e];exact h.l0 k hk hp
theorem Tl.next{R:List Pl}{L M i:Nat}{F:Nat->Q}(h:Tl R L M i F)(C:∀j,j<ſ R->iO R L M i j->(F j).nx=(aD R j).nx/\(F j).dp=(aD R j).dp)(D:(F i).lg=(aD R i).lg):Tl R L M (i+1) F where
 op:=h.op
 tx:=h.tx
 n:=h.n
 en:=h.en
 nx k hk hq:=by
  rcases hq with e|⟨p,B,A⟩
  .exact h.nx k hk (.inl e)
  .by_cases e:p=i
   .subst e;exact(C k hk A).1
   .exact h.nx k hk (.inr ⟨p,by omega,A⟩)
 dp k hk hq:=by
  rcases hq with e|⟨p,B,A⟩
  .exact h.dp k hk (.inl e)
  .by_cases e:p=i
   .subst e;exact(C k hk A).2
   .exact h.dp k hk (.inr ⟨p,by omega,A⟩)
 lg k hk hq:=by
  by_cases e:k=i
  .subst e;exact D
  .exact h.lg k hk (by omega)
 l0 k hk hq:=h.l0 k hk (by omega)
theorem Tl.setLg{R L M i}{F:Nat->Q}{x}(_:Tl R L M i F):Tl R L M i F->∀k,k<ſ R->(ct F i {F i with lg:=x} k).op=(F k).op/\(ct F i {F i with lg:=x} k).tx=(F k).tx/\(ct F i {F i with lg:=x} k).n=(F k).n/\(ct F i {F i with lg:=x} k).en=(F k).en/\(ct F i {F i with lg:=x} k).nx=(F k).nx/\(ct F i {F i with lg:=x} k).dp=(F k).dp:=by grind [dX,gM,ct]
theorem Tl.nextLg{R:List Pl}{L M i:Nat}{F:Nat->Q}(h:Tl R L M i F)(C:∀j,j<ſ R->iO R L M i j->(F j).nx=(aD R j).nx/\(F j).dp=(aD R j).dp):Tl R L M (i+1) (ct F i {F i with lg:=(aD R i).lg}) where
 op k hk:=by rw[(h.setLg h k hk).1];exact h.op k hk
 tx k hk:=by rw[(h.setLg h k hk).2.1];exact h.tx k hk
 n k hk:=by rw[(h.setLg h k hk).2.2.1];exact h.n k hk
 en k hk:=by rw[(h.setLg h k hk).2.2.2.1];exact h.en k hk
 nx k hk hq:=by
  rw[(h.setLg h k hk).2.2.2.2.1];rcases hq with e|⟨p,B,A⟩
  .exact h.nx k hk (.inl e)
  .by_cases e:p=i
   .subst e;exact(C k hk A).1
   .exact h.nx k hk (.inr ⟨p,by omega,A⟩)
 dp k hk hq:=by
  rw[(h.setLg h k hk).2.2.2.2.2];rcases hq with e|⟨p,B,A⟩
  .exact h.dp k hk (.inl e)
  .by_cases e:p=i
   .subst e;exact(C k hk A).2
   .exact h.dp k hk (.inr ⟨p,by omega,A⟩)
 lg k hk hq:=by
  by_cases e:k=i
  .subst e;rw[dX]
  .rw[gM e];exact h.lg k hk (by omega)
 l0 k hk hq:=by rw[gM (by omega)];exact h.l0 k hk (by omega)
theorem Tl.all{t}{F:Nat->Q}(M:t.Wf)(h:Tl (ah t) t.lf t.dsum (ah t).length F):∀j,j<(ah t).length->F j=q2 (aD (ah t) j):=by
 intro j A
 have C:j=0\/∃p,p<(ah t).length/\iO (ah t) t.lf t.dsum p j:=by
  rcases Nat.eq_zero_or_pos j with e|e
  .exact .inl e
  .obtain⟨p,L,B⟩:=DK M e A;exact .inr ⟨p,by omega,B⟩
 have D:=h.op j A;have E:=h.tx j A;have G:=h.n j A;have H:=h.en j A;have I:=h.nx j A C;have J:=h.dp j A C;have K:=h.lg j A A;unfold q2;rw[<-D,<-E,<-G,<-H,<-I,<-J,<-K]
theorem Tl.start{t}:Tl (ah t) t.lf t.dsum 0 (ct (F1 (ah t) 0) 0 {F1 (ah t) 0 0 with nx:=t.sz}):=by
 have A:∀j,F1 (ah t) 0 j=q1 (aD (ah t) j):=λj=>by simp[F1]
 have C:aD (ah t) 0=fY t 0 t.sz 0 []:=by
  obtain⟨r,e⟩:=GS t 0 t.sz 0 [];rw[aD,List.getD,ah,e];rfl
 have B:∀(P:Q->Prop)k,(k=0->P {F1 (ah t) 0 0 with nx:=t.sz})->(k≠0->P (F1 (ah t) 0 k))->P (ct (F1 (ah t) 0) 0 {F1 (ah t) 0 0 with nx:=t.sz} k):=by
  intro P k D E;by_cases e:k=0
  .subst e;rw[dX];exact D rfl
  .rw[gM e];exact E e
 refine⟨λj _=>?_,λj _=>?_,λj _=>?_,λj _=>?_,λj _ H=>?_,λj _ H=>?_,λj _ H=>?_,λj _ _=>?_⟩
 .refine B (λq=>q.op=_) j (λe=>?_) (λ_=>?_)
  .subst e;rw[A];rfl
  .rw[A];rfl
 .refine B (λq=>q.tx=_) j (λe=>?_) (λ_=>?_)
  .subst e;rw[A];rfl
  .rw[A];rfl
 .refine B (λq=>q.n=_) j (λe=>?_) (λ_=>?_)
  .subst e;rw[A];rfl
  .rw[A];rfl
 .refine B (λq=>q.en=_) j (λe=>?_) (λ_=>?_)
  .subst e;rw[A];rfl
  .rw[A];rfl
 .rcases H with e|⟨p,G,_⟩
  .subst e;rw[dX,C];rfl
  .omega
 .rcases H with e|⟨p,G,_⟩
  .subst e;rw[dX,A,C];rfl
  .omega
 .omega
 .refine B (λq=>q.lg=0) j (λe=>?_) (λ_=>?_)
  .rw[A];rfl
  .rw[A];rfl
theorem Ka{R L M i nx dp ks t}(bp g:Nat)(F:Nat->Q)(w:Ì)(hR:ſ R<=400)(hM:M<=3200)(h:Sp R L M i t nx dp ks)(hT:Tl R L M i F)(h0:i=0\/∃p,p<i/\iO R L M p i)(c:bp≠g)
  (c0:w.cell? bp=Ã (Ð g (ſ R) (ſ R))) (hp:bq w g (ſ R) F):
  Calls prog 229 #[Æ bp,i] w λe a=>e=Ê (Ñ #[])/\(∃b,bq a g (ſ R) b/\Tl R L M i b/\∀j,j<ſ R->iO R L M i j->(b j).nx=(aD R j).nx/\(b j).dp=(aD R j).dp)/\am w g w a:=by
 have d:=h.lt;have W:=h.at;have I:=hT.op i d;have s:=hT.n i d;have S:=hT.nx i d h0;have O:=hT.dp i d h0;rw[W]at I s S O;have v:=h.bd;cases t with
 | leaf x=>
  have B:(F i).op=x.op:=I
  have J:∀k:Int,k=6\/k=9\/k=7\/k=8->((F i).op==k)=false:=λk hk=>beq_eq_false_iff_ne.2 (by
   rw[B]
   rcases iZ h.wf.1 h.wf.2 with e|e|e|e|e<;>omega)
  refine(TV bp g (ſ R) i F w d c0 hp (J 6 (by omega)) (J 9 (by omega)) (J 7 (by omega)) (J 8 (by omega))).mono ?_;rintro e q⟨rfl,U,V⟩;refine⟨rfl,⟨F,U,hT,λj hj z=>?_⟩,V⟩;rcases z with⟨f,X,_,_,_,C,_⟩|⟨f,X,r,_,_,_,C,_⟩
  .have:=C.at;rw[W]at this;simp[fY]at this
  .have:=C.at;rw[W]at this;simp[fY]at this
 | one x a=>
  have B:(F i).op=x.op:=I;have l:(F i).n=x.n:=s;have D:(F i).nx=(nx:Int):=S;have A:(F i).dp=(dp:Int):=O;have C:=h.one;have y:0<=x.n/\x.n<=8:=by have:=fJ h.wf.1;omega
  have u:IntKind.i64.wrap ((F i).dp+(F i).n)=((dp+x.n.toNat:Nat):Int):=by
   rw[A,l,IntKind.wrap_i64];omega
  refine(Kb bp g (ſ R) i F w hR C.lt c0 hp (by rw[B];exact jD h.wf.2.1) _ u).mono ?_;rintro e q⟨rfl,U,V⟩;have K:(F i).nx=(aD R (i+1)).nx:=by rw[D,C.at];rfl
  have N:((dp+x.n.toNat:Nat):Int)=(aD R (i+1)).dp:=by rw[C.at];rfl
  refine⟨rfl,⟨_,U,hT.tell K N,λj hj z=>?_⟩,V⟩
  have m:j=i+1:=by
   rcases z with⟨f,X,_,_,_,E,e⟩|⟨f,X,r,_,_,_,E,_⟩
   .exact e
   .have:=E.at;rw[W]at this;simp[fY]at this
  subst m;rw[dX];exact⟨K,N⟩
 | two x a b=>
  have B:(F i).op=x.op:=I;have D:=S;have A:=O;have G:=h.two2
  have H:∀j,iO R L M i j->j=i+1\/j=i+1+a.sz:=λj z=>by
   rcases z with⟨f,X,_,_,_,E,_⟩|⟨f,X,r,_,_,_,E,e⟩
   .have:=E.at;rw[W]at this;simp[fY]at this
   .have:=E.at
    rw[W]at this;simp only[fY,Pl.mk.injEq,Tr.two.injEq]at this;rw[this.2.2.2.2.2.1.2.1];exact e
  rcases jj h.wf.2.1 with e|e
  .have C:=h.both1 e;have P:(F (i+1)).en=((i+1+a.sz:Nat):Int):=by rw[hT.en _ C.lt,C.at];rfl
   refine(Kc bp g (ſ R) i (i+1+a.sz) F w hR C.lt G.lt c c0 hp (by rw[B,e]) P).mono ?_;rintro e q⟨rfl,U,V⟩;have K:((i+1+a.sz:Nat):Int)=(aD R (i+1)).nx:=by rw[C.at];rfl
   have N:(F i).dp=(aD R (i+1)).dp:=by rw[A,C.at];rfl
   have Y:(F i).nx=(aD R (i+1+a.sz)).nx:=by rw[D,G.at];rfl
   have Z:(F i).dp=(aD R (i+1+a.sz)).dp:=by rw[A,G.at];rfl
   refine⟨rfl,⟨_,U,(hT.tell K N).tell Y Z,λj hj z=>?_⟩,V⟩;have o:=rF a;rcases H j z with rfl|rfl
   .rw[gM (by omega),dX];exact⟨K,N⟩
   .rw[dX];exact⟨Y,Z⟩
  .have C:=h.either1 (by omega);have P:(F (i+1)).en=((i+1+a.sz:Nat):Int):=by rw[hT.en _ C.lt,C.at];rfl
   refine(TW bp g (ſ R) i (i+1+a.sz) F w hR C.lt G.lt c c0 hp (by rw[B,e]) P).mono ?_;rintro e q⟨rfl,U,V⟩;have K:(F i).nx=(aD R (i+1)).nx:=by rw[D,C.at];rfl
   have N:(F i).dp=(aD R (i+1)).dp:=by rw[A,C.at];rfl
   have Y:(F i).nx=(aD R (i+1+a.sz)).nx:=by rw[D,G.at];rfl
   have Z:(F i).dp=(aD R (i+1+a.sz)).dp:=by rw[A,G.at];rfl
   refine⟨rfl,⟨_,U,(hT.tell K N).tell Y Z,λj hj z=>?_⟩,V⟩;have o:=rF a;rcases H j z with rfl|rfl
   .rw[gM (by omega),dX];exact⟨K,N⟩
   .rw[dX];exact⟨Y,Z⟩
structure i3(w wx:Ì)(i c:Nat)(q:Q):Prop where
 a0:wx.cell? ⟨w,0,Â⟩=Ã (À Á i)
 a1:wx.cell? ⟨w,1,Â⟩=Ã (À Á c)
 r0:wx.cell? ⟨w.heap.size+1,0,Â⟩=Ã (À Á 0)
 r1:wx.cell? ⟨w.heap.size+1,1,Â⟩=Ã (À Á 0)
 r2:wx.cell? ⟨w.heap.size+1,2,Â⟩=Ã (À Á 0)
 r3:wx.cell? ⟨w.heap.size+1,3,Â⟩=Ã (À Á 0)
 r4:wx.cell? ⟨w.heap.size+1,4,Â⟩=Ã (À Á 0)
 fr:de wx (w.heap.size+1)
 q0:wx.cell? ⟨w.heap.size+1+1,0,Â⟩=Ã (À Á q.op)
 q1:wx.cell? ⟨w.heap.size+1+1,1,Â⟩=Ã (Í q.tx)
 q2:wx.cell? ⟨w.heap.size+1+1,2,Â⟩=Ã (À Á q.n)
 q3:wx.cell? ⟨w.heap.size+1+1,3,Â⟩=Ã (À Á q.en)
 q4:wx.cell? ⟨w.heap.size+1+1,4,Â⟩=Ã (À Á q.nx)
 q5:wx.cell? ⟨w.heap.size+1+1,5,Â⟩=Ã (À Á q.dp)
 q6:wx.cell? ⟨w.heap.size+1+1,6,Â⟩=Ã (À Á q.lg)
 lt:w.heap.size+1+1<wx.heap.size
theorem i3.kept{w}{B:Ì}{D i c mb q}(h:i3 w B i c q)(C:am B mb B D)(H:mb<w.heap.size):i3 w D i c q:=by
 have A:∀b o v,b≠mb->B.cell? ⟨b,o,Â⟩=Ã v->D.cell? ⟨b,o,Â⟩=Ã v:=λb o v G E=>(C.cell (p:=⟨b,o,Â⟩) (Å B ⟨b,o,Â⟩ E) G).trans E
 exact⟨A _ _ _ (by omega) h.a0,A _ _ _ (by omega) h.a1,A _ _ _ (by omega) h.r0,A _ _ _ (by omega) h.r1,A _ _ _ (by omega) h.r2,A _ _ _ (by omega) h.r3,A _ _ _ (by omega) h.r4,h.fr.kept (C.block _ h.fr.lt (by omega)),
  A _ _ _ (by omega) h.q0,A _ _ _ (by omega) h.q1,A _ _ _ (by omega) h.q2,A _ _ _ (by omega) h.q3,A _ _ _ (by omega) h.q4,A _ _ _ (by omega) h.q5,A _ _ _ (by omega) h.q6,Nat.lt_of_lt_of_le h.lt C.size⟩
theorem wA{E g D G i c R}{S:Nat->Nat->Bool}{w C}(h:iv E g D G i c R S w C)(q):i3 w (C.alloc (fy q)).drew i c q:=by
 have A:=heap_alloc_new C (fy q);rw[h.sz]at A;have B:∀o v,(C.alloc (fy q)).cell? ⟨w.heap.size+1+1,o,Â⟩=v->(C.alloc (fy q)).drew.cell? ⟨w.heap.size+1+1,o,Â⟩=v:=λ_ _ h=>h
 refine⟨ka h.a0 _,ka h.a1 _,ka h.r0 _,ka h.r1 _,ka h.r2 _,ka h.r3 _,ka h.r4 _,h.fr.kept (Below.heap_alloc _ _ _ h.fr.lt),B _ _ ?_,B _ _ ?_,B _ _ ?_,B _ _ ?_,B _ _ ?_,B _ _ ?_,B _ _ ?_,?_⟩
 .simp[È,A,fy]
 .simp[È,A,fy]
 .simp[È,A,fy]
 .simp[È,A,fy]
 .simp[È,A,fy]
 .simp[È,A,fy]
 .simp[È,A,fy]
 .show w.heap.size+1+1<(C.alloc (fy q)).heap.size;simp[h.sz]
theorem Pn{R L M i nx dp wd c ks t}(sb g mb)(Z:Sp R L M i t nx dp ks)(V:(q2 (aD R i)).lg=-1)(hT:kb sb g mb wd R i c 1)(w)(S:Nat->Nat->Bool)(h:aU sb g mb wd R w S):
  Calls prog 231 #[Æ (Ã ⟨sb,0,Â⟩),É #[À Á i,À Á c]] w λe a=>e=Ê (dQ (ax R wd i c 1))/\Left sb g mb wd R S (i+1) (ax R wd i c 1).np (ax R wd i c 1).nc w a:=by
 have H:=aa h;have p:=h.lt;have hi:=Z.lt;have Aa:(i:Int)<(ſ R:Int):=by omega
 have Ab:(0:Int)<=(i:Int):=by omega
 have x:Hid (∀W,fN W sb g wd R->jH W g i (q2 (aD R i))):=λW m=>m.pr.get i hi
 have y:Hid (kb sb g mb wd R i c 1):=hT;have k:Hid ((q2 (aD R i)).lg=-1):=V;clear hT V;rw[dQ];clear h Z;generalize q2 (aD R i)=q at *;go_in;go_wp2_with fail;have I:iv sb g mb wd i c R S w ((w.alloc (Ä #[À Á i,À Á c] 280)).alloc (Ä #[À Á 0,À Á 0,À Á 0,À Á 0,À Á 0] 282)):=nY (nq:=0) H.o
 generalize(w.alloc (Ä #[À Á i,À Á c] 280)).alloc (Ä #[À Á 0,À Á 0,À Á 0,À Á 0,À Á 0] 282)=w1 at *
 have C:Hid (iv sb g mb wd i c R S w w1):=I;have r:=I.sz
 have E:∀W:Ì,W=w1.drew\/(∃O,W=(w1.alloc O).drew)->W.cell? ⟨sb,0,Â⟩=Ã (Ð (Ã ⟨g,0,Â⟩) (ſ R) (ſ R))/\W.cell? ⟨w,0,Â⟩=Ã (À Á i)/\W.cell? ⟨g,i*7,Â⟩=Ã (À Á q.op)/\W.cell? ⟨g,i*7+1,Â⟩=Ã (Í q.tx)/\W.cell? ⟨g,i*7+2,Â⟩=Ã (À Á q.n)/\W.cell? ⟨g,i*7+3,Â⟩=Ã (À Á q.en)/\W.cell? ⟨g,i*7+4,Â⟩=Ã (À Á q.nx)/\W.cell? ⟨g,i*7+5,Â⟩=Ã (À Á q.dp)/\W.cell? ⟨g,i*7+6,Â⟩=Ã (À Á q.lg):=by
  intro W m
  have D:fN W sb g wd R/\W.cell? ⟨w,0,Â⟩=Ã (À Á i):=by
   rcases m with rfl|⟨O,rfl⟩
   .exact⟨C.o.inv.pl.kept rfl rfl,C.o.a0⟩
   .exact⟨(C.o.inv.pl.alloc O).kept rfl rfl,ka C.o.a0 O⟩
  obtain⟨d0,d1,d2,d3,d4,d5,d6⟩:=x.o W D.1;exact⟨D.1.c0,D.2,d0,d1,d2,d3,d4,d5,d6⟩
 have P:=E w1.drew (.inl rfl);have Q:=λO=>E (w1.alloc O).drew (.inr ⟨O,rfl⟩)
 have B:Hid (i3 w (w1.alloc (fy q)).drew i c q):=wA C.o q;have j:Hid (aU sb g mb wd R (w1.alloc (fy q)).drew S):=(C.o.inv.alloc _).kept λ_ _=>rfl
 have K:Hid (am w mb w (w1.alloc (fy q)).drew):=(am.of (C.o.bw.alloc C.o.bw.size _)).drew;clear I E
 go_region_held3 (λa=>a.cell? ⟨sb,0,Â⟩=Ã (Ð (Ã ⟨g,0,Â⟩) (ſ R) (ſ R))/\a.cell? ⟨w,0,Â⟩=Ã (À Á i)/\a.cell? ⟨g,i*7,Â⟩=Ã (À Á q.op)/\a.cell? ⟨g,i*7+1,Â⟩=Ã (Í q.tx)/\a.cell? ⟨g,i*7+2,Â⟩=Ã (À Á q.n)/\a.cell? ⟨g,i*7+3,Â⟩=Ã (À Á q.en)/\a.cell? ⟨g,i*7+4,Â⟩=Ã (À Á q.nx)/\a.cell? ⟨g,i*7+5,Â⟩=Ã (À Á q.dp)/\a.cell? ⟨g,i*7+6,Â⟩=Ã (À Á q.lg))
  (first|with_reducible exact P|with_reducible exact Q _) (fail)
 all_goals
  generalize(w1.alloc (Ä #[q.op,Í q.tx,q.n,q.en,q.nx,q.dp,q.lg] 306)).drew=w2 at *
  have z:=B.o.a0;have a1:=B.o.a1;have u:=B.o.q6;clear P Q r;rw[k.o]at u;go_wp2_with fail;refine(y.o w2 S j.o).mono ?_;rintro e J⟨rfl,G,N,s,Y,X,U⟩;rw[dQ];have A:=B.o.kept G p.2.2;have r0:=A.r0;have r1:=A.r1;have r2:=A.r2;have r3:=A.r3;have r4:=A.r4;have y0:J.frozen? ↑(w.heap.size+1)=false:=A.fr.frozen;have y1:J.frozen? (w.heap.size+1,1)=false:=A.fr.frozen;have y2:J.frozen? (w.heap.size+1,2)=false:=A.fr.frozen;have y3:J.frozen? ⟨w.heap.size+1,3,Â⟩=false:=A.fr.frozen;have y4:J.frozen? ⟨w.heap.size+1,4,Â⟩=false:=A.fr.frozen;have f:=aa (K.o.trans (G.mono K.o.size));have d:Hid (aU sb g mb wd R J N/\(∀a b,S a b=true->N a b=true)/\(∀a b,N a b=true->S a b=true\/i+1<=a)/\((bH R wd i c 1).np<ſ R->N (bH R wd i c 1).np (bH R wd i c 1).nc=true)):=⟨s,Y,X,U⟩;clear G s Y X U A z a1 u;go_wp2;exact Ï (v:=É #[À Á (ax R wd i c 1).o,À Á (ax R wd i c 1).l,À Á (ax R wd i c 1).ch,À Á (ax R wd i c 1).np,À Á (ax R wd i c 1).nc]) (by simp[results,Tryz.results231,go_sem,r0,r1,r2,r3,r4]) rfl ⟨rfl,mr f.o (by omega) _ _ _ _ _,N,d.o.1.set5 (by omega) (by omega) (by omega) _ _ _ _ _,d.o.2.1,d.o.2.2.1,d.o.2.2.2⟩
theorem O6{R L M i nx dp wd c ks t}(sb g mb)(k:Sp R L M i t nx dp ks)(Ac:((q2 (aD R i)).lg==-1)=false)(z:eu (q2 (aD R i)).op=false)(Z:kb sb g mb wd R i c 0)(w)(S:Nat->Nat->Bool)(h:aU sb g mb wd R w S):
  Calls prog 231 #[Æ (Ã ⟨sb,0,Â⟩),É #[À Á i,À Á c]] w λe a=>e=Ê (dQ (ax R wd i c 0))/\Left sb g mb wd R S (i+1) (ax R wd i c 0).np (ax R wd i c 0).nc w a:=by
 have H:=aa h;have N:=h.lt;have hi:=k.lt;have Ab:(i:Int)<(ſ R:Int):=by omega
 have Ad:(0:Int)<=(i:Int):=by omega
 have HQ:Hid (∀W,fN W sb g wd R->jH W g i (q2 (aD R i))):=λW y=>y.pr.get i hi
 have x:Hid (kb sb g mb wd R i c 0):=Z;clear Z;rw[dQ];clear h k;generalize q2 (aD R i)=q at *;go_in;go_wp2_with fail;have P:iv sb g mb wd i c R S w ((w.alloc (Ä #[À Á i,À Á c] 280)).alloc (Ä #[À Á 0,À Á 0,À Á 0,À Á 0,À Á 0] 282)):=nY (nq:=0) H.o
 generalize(w.alloc (Ä #[À Á i,À Á c] 280)).alloc (Ä #[À Á 0,À Á 0,À Á 0,À Á 0,À Á 0] 282)=w1 at *
 have E:Hid (iv sb g mb wd i c R S w w1):=P;have Aa:=P.sz
 have J:∀W:Ì,W=w1.drew\/(∃O,W=(w1.alloc O).drew)->W.cell? ⟨sb,0,Â⟩=Ã (Ð (Ã ⟨g,0,Â⟩) (ſ R) (ſ R))/\W.cell? ⟨w,0,Â⟩=Ã (À Á i)/\W.cell? ⟨g,i*7,Â⟩=Ã (À Á q.op)/\W.cell? ⟨g,i*7+1,Â⟩=Ã (Í q.tx)/\W.cell? ⟨g,i*7+2,Â⟩=Ã (À Á q.n)/\W.cell? ⟨g,i*7+3,Â⟩=Ã (À Á q.en)/\W.cell? ⟨g,i*7+4,Â⟩=Ã (À Á q.nx)/\W.cell? ⟨g,i*7+5,Â⟩=Ã (À Á q.dp)/\W.cell? ⟨g,i*7+6,Â⟩=Ã (À Á q.lg):=by
  intro W y
  have I:fN W sb g wd R/\W.cell? ⟨w,0,Â⟩=Ã (À Á i):=by
   rcases y with rfl|⟨O,rfl⟩
   .exact⟨E.o.inv.pl.kept rfl rfl,E.o.a0⟩
   .exact⟨(E.o.inv.pl.alloc O).kept rfl rfl,ka E.o.a0 O⟩
  obtain⟨d0,d1,d2,d3,d4,d5,d6⟩:=HQ.o W I.1;exact⟨I.1.c0,I.2,d0,d1,d2,d3,d4,d5,d6⟩
 have X:=J w1.drew (.inl rfl);have Y:=λO=>J (w1.alloc O).drew (.inr ⟨O,rfl⟩)
 have D:Hid (i3 w (w1.alloc (fy q)).drew i c q):=wA E.o q;have s:Hid (aU sb g mb wd R (w1.alloc (fy q)).drew S):=(E.o.inv.alloc _).kept λ_ _=>rfl
 have U:Hid (am w mb w (w1.alloc (fy q)).drew):=(am.of (E.o.bw.alloc E.o.bw.size _)).drew;clear P J
 go_region_held3 (λa=>a.cell? ⟨sb,0,Â⟩=Ã (Ð (Ã ⟨g,0,Â⟩) (ſ R) (ſ R))/\a.cell? ⟨w,0,Â⟩=Ã (À Á i)/\a.cell? ⟨g,i*7,Â⟩=Ã (À Á q.op)/\a.cell? ⟨g,i*7+1,Â⟩=Ã (Í q.tx)/\a.cell? ⟨g,i*7+2,Â⟩=Ã (À Á q.n)/\a.cell? ⟨g,i*7+3,Â⟩=Ã (À Á q.en)/\a.cell? ⟨g,i*7+4,Â⟩=Ã (À Á q.nx)/\a.cell? ⟨g,i*7+5,Â⟩=Ã (À Á q.dp)/\a.cell? ⟨g,i*7+6,Â⟩=Ã (À Á q.lg))
  (first|with_reducible exact X|with_reducible exact Y _) (fail)
 all_goals
  generalize(w1.alloc (Ä #[q.op,Í q.tx,q.n,q.en,q.nx,q.dp,q.lg] 306)).drew=w2 at *
  have a0:=D.o.a0;have a1:=D.o.a1;have q6:=D.o.q6;clear X Y Aa;go_wp2_with fail;refine(x.o w2 S s.o).mono ?_;rintro e C⟨rfl,K,Q,hI,j,f,d⟩;rw[dQ];have B:=D.o.kept K N.2.2;have G:Hid (am w mb w C):=U.o.trans (K.mono U.o.size);have m:Hid (aU sb g mb wd R C Q/\(∀a b,S a b=true->Q a b=true)/\(∀a b,Q a b=true->S a b=true\/i+1<=a)/\((ax R wd i c 0).np<ſ R->Q (ax R wd i c 0).np (ax R wd i c 0).nc=true)):=⟨hI,j,f,d⟩;have u0:=λO=>ka B.q0 O
  have u1:=λO=>ka B.q1 O
  have u2:=λO=>ka B.q2 O
  have u3:=λO=>ka B.q3 O
  have u4:=λO=>ka B.q4 O
  have u5:=λO=>ka B.q5 O
  have u6:=λO=>ka B.q6 O
  have V:Hid (i3 w C i c q):=B;clear K hI j f d B a0 a1 q6;go_wp2_with fail;refine ai (tj q.op q.tx q.n q.en q.nx q.dp q.lg _) λw4 hb4=>?_
  rw[z];have Ae:C.heap.size<w4.heap.size:=by have:=hb4.size;simp at this;omega
  have A:Hid (i3 w w4 i c q):=(V.o.kept (mb:=mb) (am.of ((Below.refl _ C).alloc Zl _)) N.2.2).kept (am.of hb4) N.2.2;have u:Hid (aU sb g mb wd R w4 Q):=(m.o.1.alloc _).W hb4;have r:Hid (am w mb w w4):=(G.o.alloc (by have:=G.o.size;omega) _).trans (am.of (hb4.mono (by have:=G.o.size;simp;omega)));have s0:w4.cell? ⟨C,0,Â⟩=Ã (À Á (ax R wd i c 0).o):=(hb4.cell (p:=⟨C,0,Â⟩) (by simp)).trans (by simp[go_sem]);have s1:w4.cell? ⟨C,1,Â⟩=Ã (À Á (ax R wd i c 0).l):=(hb4.cell (p:=⟨C,1,Â⟩) (by simp)).trans (by simp[go_sem]);have s2:w4.cell? ⟨C,2,Â⟩=Ã (À Á (ax R wd i c 0).ch):=(hb4.cell (p:=⟨C,2,Â⟩) (by simp)).trans (by simp[go_sem]);have s3:w4.cell? ⟨C,3,Â⟩=Ã (À Á (ax R wd i c 0).np):=(hb4.cell (p:=⟨C,3,Â⟩) (by simp)).trans (by simp[go_sem]);have s4:w4.cell? ⟨C,4,Â⟩=Ã (À Á (ax R wd i c 0).nc):=(hb4.cell (p:=⟨C,4,Â⟩) (by simp)).trans (by simp[go_sem]);have r0:=A.o.r0;have r1:=A.o.r1;have r2:=A.o.r2;have r3:=A.o.r3;have r4:=A.o.r4;have y0:w4.frozen? ⟨w.heap.size+1,0,Â⟩=false:=A.o.fr.frozen;have y1:w4.frozen? ↑(w.heap.size+1,1)=false:=A.o.fr.frozen;have y2:w4.frozen? ↑(w.heap.size+1,2)=false:=A.o.fr.frozen;have y3:w4.frozen? ⟨w.heap.size+1,3,Â⟩=false:=A.o.fr.frozen;have y4:w4.frozen? ⟨w.heap.size+1,4,Â⟩=false:=A.o.fr.frozen;clear u0 u1 u2 u3 u4 u5 u6 hb4;go_wp2;exact Ï (v:=É #[À Á (ax R wd i c 0).o,À Á (ax R wd i c 0).l,À Á (ax R wd i c 0).ch,À Á (ax R wd i c 0).np,À Á (ax R wd i c 0).nc]) (by simp[results,Tryz.results231,go_sem,r0,r1,r2,r3,r4]) rfl ⟨rfl,mr r.o (by omega) _ _ _ _ _,Q,u.o.set5 (by omega) (by omega) (by omega) _ _ _ _ _,m.o.2.1,m.o.2.2.1,m.o.2.2.2⟩
def db(ws:List Int):List Value:=ws.map (À Á)
theorem IM(ws):(db ws).length=ſ ws*1:=by simp[db]
theorem O9(ws):∀u∈db ws,u.oneCell'=true:=by
 intro u A;obtain⟨x,_,rfl⟩:=List.mem_map.1 A;rfl
theorem IL(a b):db (a++b)=db a++db b:=by simp[db]
theorem QY(b o k:Nat):((b,o):Addr).add k=(b,o+k):=by
 unfold Addr.add
 split
 .rename_i h;subst h;rfl
 .rfl
theorem RQ{B w A ws}(h:eK B w (Ã A) ws):∀j u,(db ws)[j]?=Ã u->w.cell? (A.add j)=Ã u:=by grind [db,QY,eK]
theorem AL{B w a n P m ws}(h:w.ownsRow B 3 1 (Ð a n P) m (db ws)):m=ſ ws/\n=ſ ws/\(ſ ws)<=P/\eE w a ws/\(a=Â->ws=[]/\P=0):=by
 have I:m=ſ ws:=by have:=h.1;rw[IM]at this;omega
 rcases h.2 with⟨C,O⟩|⟨g,c,K,C,_,J,L,_,M,A⟩
 .simp only[Value.slice.injEq]at C;obtain⟨rfl,rfl,rfl⟩:=C;have N:ws=[]:=List.eq_nil_of_length_eq_zero (by omega);subst N;exact⟨I,rfl,Ò _,λi E=>by simp at E,λ_=>⟨rfl,rfl⟩⟩
 .simp only[Value.slice.injEq]at C;obtain⟨rfl,rfl,rfl⟩:=C;refine⟨I,I,by omega,?_,λh=>by cases h⟩;intro i E
  have H:g<w.heap.size:=by
   rcases Nat.lt_or_ge g w.heap.size with D|D
   .exact D
   .simp[Array.getElem?_eq_none D]at J
  refine⟨g,0,rfl,H,?_⟩;have G:(db ws)[i]?=Ã (ws[i]):=by simp[db,E]
  rw[<-A]at G;rw[List.getElem?_take_of_lt (by omega)]at G;rw[Nat.zero_add];simp only[È,J];simpa using G
theorem V2{w G rest o a}{Q:Exit->Act->Ì->Prop}(D:o.guard=Â)(s x)
  (U:o.op=.call {callee:=.builtin .append,args:=#[s,x],argTypes:=#[73,73]})
  (A v n S) (V:a.eval s=v) (B:w.ownsRow A 3 1 v n (db S))
  (R ws wc) (W:a.eval x=Ð R (ſ ws) wc) (X:eE w R ws) (E:R=Â->ws=[]/\wc=0)
  (Y:n+ſ ws<=1000000) (C:A<=w.heap.size)
  (h:∀P O,O.ownsRow A 3 1 P (n+ſ ws) (db (S++ws))->w.grownBy O v.ownBlock->wpList prog G Q rest (a.put o.dst P) O):wpList prog G Q (o::rest) a w:=by
 obtain⟨M,L,H,I,J⟩:=info_parts vM;cases R with
 | none=>
  obtain⟨rfl,rfl⟩:=E rfl;refine wpList_append_own_none D s x 73 U A 3 M 1 Tryz.underlying73 L v n (db S) V B W ?_;refine h v w ?_ ⟨rfl,rfl,rfl,Ò _,λ_ _ _=>rfl⟩;rw[List.append_nil];exact B
 | some ad=>
  refine wpList_append_own w D s x 73 U A 3 M _ 1 8 Tryz.underlying73 L H I J rfl (by decide) v n (db S) V B ad (ſ ws) wc (db ws) W (IM ws) (RQ X) (O9 ws) (by unfold maxLen;omega) (by omega) C ?_;intro P O K N _;rw[<-IL]at K;exact h P O K N
