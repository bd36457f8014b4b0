import Derived.Test.YtfdppahhbpfnoaaGreatDoorPi30
open Go.Proofs.Tryz
namespace Go.Proofs.YtfdppahhbpfnoaaGreatDoor
open Go Go.RowKit
set_option maxRecDepth 100000
set_option maxHeartbeats 4000000
theorem y5y(B b s be bf:Nat)(_hb:s<B/\be<B/\bf<B)(hB:B<=b)(ds:List Nd)(a:Option Addr)(cap:Nat)(_hl:ds.length<=400)(tx:ByteArray)(n:Int):q3n B b s be bf ds a cap (⟨2,tx,n⟩::[]) (fun deep ws=>.ok (10::List.replicate deep 32,ws)):=by
 intro i r deep ws S wc l w N K d _ R D E Q;obtain⟨t,Y,Z⟩:=q1u (x:=⟨2,tx,n⟩) (A:=[]++r) N;obtain⟨f,q,U,V,X⟩:=K.nd i t;subst q;rw[Y]at U V X;dsimp only at U V X;have c0:=D.c0;have c1:=D.c1;have c2:=D.c2;have c5:=D.c5;have v:=D.lt;have y:s<w.heap.size:=by omega
 have M:B<=w.heap.size:=by omega
 have u:(i:Int)<(ds.length:Int):=by omega
 have HD:Hid (ds.drop i=⟨2,tx,n⟩::([]++r)):=N;have h:Hid (ds.drop (i+1)=[]++r):=Z;have HC:Hid (LC B s be bf (some ⟨s,f,none⟩) ds w):=K;have j:Hid (q1h B w S ws):=d;have p:Hid (WS B b (q7d be bf ds.length cap (some ⟨s,f,none⟩)) l (.slice S ws.length wc) w):=D;have g:Hid (∀O:Obj,Below B w (w.alloc O)):=fun O=>(Below.refl _ w).alloc M O
 clear K d D N Y Z;simp only[List.length_cons,List.length_nil]at E Q;have P:(⟨(List.replicate deep 32).toArray⟩:ByteArray).size<=3300:=by rw[<-q0x];simp;omega
 have C:∀W:World,Calls prog 91 #[.string ⟨#[32]⟩,.int .i64 deep] W fun e w'=>e=.returned (.string ⟨(List.replicate deep 32).toArray⟩)/\Below W W w':=fun W=>z4t deep (by omega) W
 generalize G:(⟨(List.replicate deep 32).toArray⟩:ByteArray)=rs at P C;have m:Hid ((⟨(List.replicate deep 32).toArray⟩:ByteArray)=rs):=G;have k:Hid (∀W:World,Calls prog 91 #[.string ⟨#[32]⟩,.int .i64 deep] W fun e w'=>e=.returned (.string rs)/\Below W W w'):=C;have o:Hid (l++(⟨#[10]⟩++rs:ByteArray).data.toList=l++10::List.replicate deep 32):=(show _=_ by rw[<-G];simp);have J:Hid (l.length+(⟨#[10]⟩++rs:ByteArray).size<=2000000000):=(show _<=_ by rw[<-q0x];simp;omega);clear G C;go_in;go_wp2_with fail
 go_region_with (first
  | (go_at_call 91;refine(k.o _).mono ?_;rintro e w2⟨rfl,I⟩)
  | (go_at_call 38;refine(y6h (WS.W (WS.drew (p.o.alloc _)) I) hB _ J.o).mono ?_;rintro e w3⟨⟨z,rfl⟩,c,L⟩))
 all_goals
  go_wp2;go_ret;have H:Below B w w3:=((Below.drew (g.o _)).trans (I.mono (by simp;omega))).trans L;rw[o.o]at c;exact⟨⟨rfl,S,wc,c,j.o.W H,R⟩,H⟩
theorem y5z(B b s be bf:Nat)(_hb:s<B/\be<B/\bf<B)(hB:B<=b)(ds:List Nd)(a:Option Addr)(cap:Nat)(_hl:ds.length<=400)(tx:ByteArray)(n:Int):q3n B b s be bf ds a cap (⟨3,tx,n⟩::[]) (fun deep ws=>.ok (10::List.replicate deep 32,ws)):=by
 intro i r deep ws S wc l w N K d _ R D E Q;obtain⟨t,Y,Z⟩:=q1u (x:=⟨3,tx,n⟩) (A:=[]++r) N;obtain⟨f,q,U,V,X⟩:=K.nd i t;subst q;rw[Y]at U V X;dsimp only at U V X;have c0:=D.c0;have c1:=D.c1;have c2:=D.c2;have c5:=D.c5;have v:=D.lt;have y:s<w.heap.size:=by omega
 have M:B<=w.heap.size:=by omega
 have u:(i:Int)<(ds.length:Int):=by omega
 have HD:Hid (ds.drop i=⟨3,tx,n⟩::([]++r)):=N;have h:Hid (ds.drop (i+1)=[]++r):=Z;have HC:Hid (LC B s be bf (some ⟨s,f,none⟩) ds w):=K;have j:Hid (q1h B w S ws):=d;have p:Hid (WS B b (q7d be bf ds.length cap (some ⟨s,f,none⟩)) l (.slice S ws.length wc) w):=D;have g:Hid (∀O:Obj,Below B w (w.alloc O)):=fun O=>(Below.refl _ w).alloc M O
 clear K d D N Y Z;simp only[List.length_cons,List.length_nil]at E Q;have P:(⟨(List.replicate deep 32).toArray⟩:ByteArray).size<=3300:=by rw[<-q0x];simp;omega
 have C:∀W:World,Calls prog 91 #[.string ⟨#[32]⟩,.int .i64 deep] W fun e w'=>e=.returned (.string ⟨(List.replicate deep 32).toArray⟩)/\Below W W w':=fun W=>z4t deep (by omega) W
 generalize G:(⟨(List.replicate deep 32).toArray⟩:ByteArray)=rs at P C;have m:Hid ((⟨(List.replicate deep 32).toArray⟩:ByteArray)=rs):=G;have k:Hid (∀W:World,Calls prog 91 #[.string ⟨#[32]⟩,.int .i64 deep] W fun e w'=>e=.returned (.string rs)/\Below W W w'):=C;have o:Hid (l++(⟨#[10]⟩++rs:ByteArray).data.toList=l++10::List.replicate deep 32):=(show _=_ by rw[<-G];simp);have J:Hid (l.length+(⟨#[10]⟩++rs:ByteArray).size<=2000000000):=(show _<=_ by rw[<-q0x];simp;omega);clear G C;go_in;go_wp2_with fail
 go_region_with (first
  | (go_at_call 91;refine(k.o _).mono ?_;rintro e w2⟨rfl,I⟩)
  | (go_at_call 38;refine(y6h (WS.W (WS.drew (p.o.alloc _)) I) hB _ J.o).mono ?_;rintro e w3⟨⟨z,rfl⟩,c,L⟩))
 all_goals
  go_wp2;go_ret;have H:Below B w w3:=((Below.drew (g.o _)).trans (I.mono (by simp;omega))).trans L;rw[o.o]at c;exact⟨⟨rfl,S,wc,c,j.o.W H,R⟩,H⟩
theorem y6a(B b s be bf:Nat)(_hb:s<B/\be<B/\bf<B)(hB:B<=b)(ds:List Nd)(a:Option Addr)(cap:Nat)(_hl:ds.length<=400)(tx:ByteArray)(n:Int):q3n B b s be bf ds a cap (⟨4,tx,n⟩::[]) (fun deep ws=>.ok (10::List.replicate deep 32,ws)):=by
 intro i r deep ws S wc l w N K d _ R D E Q;obtain⟨t,Y,Z⟩:=q1u (x:=⟨4,tx,n⟩) (A:=[]++r) N;obtain⟨f,q,U,V,X⟩:=K.nd i t;subst q;rw[Y]at U V X;dsimp only at U V X;have c0:=D.c0;have c1:=D.c1;have c2:=D.c2;have c5:=D.c5;have v:=D.lt;have y:s<w.heap.size:=by omega
 have M:B<=w.heap.size:=by omega
 have u:(i:Int)<(ds.length:Int):=by omega
 have HD:Hid (ds.drop i=⟨4,tx,n⟩::([]++r)):=N;have h:Hid (ds.drop (i+1)=[]++r):=Z;have HC:Hid (LC B s be bf (some ⟨s,f,none⟩) ds w):=K;have j:Hid (q1h B w S ws):=d;have p:Hid (WS B b (q7d be bf ds.length cap (some ⟨s,f,none⟩)) l (.slice S ws.length wc) w):=D;have g:Hid (∀O:Obj,Below B w (w.alloc O)):=fun O=>(Below.refl _ w).alloc M O
 clear K d D N Y Z;simp only[List.length_cons,List.length_nil]at E Q;have P:(⟨(List.replicate deep 32).toArray⟩:ByteArray).size<=3300:=by rw[<-q0x];simp;omega
 have C:∀W:World,Calls prog 91 #[.string ⟨#[32]⟩,.int .i64 deep] W fun e w'=>e=.returned (.string ⟨(List.replicate deep 32).toArray⟩)/\Below W W w':=fun W=>z4t deep (by omega) W
 generalize G:(⟨(List.replicate deep 32).toArray⟩:ByteArray)=rs at P C;have m:Hid ((⟨(List.replicate deep 32).toArray⟩:ByteArray)=rs):=G;have k:Hid (∀W:World,Calls prog 91 #[.string ⟨#[32]⟩,.int .i64 deep] W fun e w'=>e=.returned (.string rs)/\Below W W w'):=C;have o:Hid (l++(⟨#[10]⟩++rs:ByteArray).data.toList=l++10::List.replicate deep 32):=(show _=_ by rw[<-G];simp);have J:Hid (l.length+(⟨#[10]⟩++rs:ByteArray).size<=2000000000):=(show _<=_ by rw[<-q0x];simp;omega);clear G C;go_in;go_wp2_with fail
 go_region_with (first
  | (go_at_call 91;refine(k.o _).mono ?_;rintro e w2⟨rfl,I⟩)
  | (go_at_call 38;refine(y6h (WS.W (WS.drew (p.o.alloc _)) I) hB _ J.o).mono ?_;rintro e w3⟨⟨z,rfl⟩,c,L⟩))
 all_goals
  go_wp2;go_ret;have H:Below B w w3:=((Below.drew (g.o _)).trans (I.mono (by simp;omega))).trans L;rw[o.o]at c;exact⟨⟨rfl,S,wc,c,j.o.W H,R⟩,H⟩
theorem k8d{b:Nat}{wa:Option Addr}{wc:Nat}(i A:Int)(w:World)(c5:w.cell? ⟨b,5,none⟩=some (.slice wa 0 wc)):
  Calls prog 92 #[.pointer (some ⟨b,0,none⟩),.int .i64 i,.int .i64 A] w fun e w'=>e=.returned (q1v 2)/\w=w':=by
 rw[k0r];go_in;go_wp2;go_ret;exact⟨rfl,rfl⟩
theorem y5r{b s be b0 o0 o1 n cap wc:Nat}(i A m:Nat)(w:World)(_hbb:b0≠b)(K:s≠b)(E:be≠b)(_hn:n<=400)(G:(i:Int)<(n:Int))
  (c0:w.cell? ⟨b,0,none⟩=some (.slice (some ⟨s,o0,none⟩) n cap)) (d1:w.cell? ⟨s,o0+i*3,none⟩=some (.int .i64 8)) (_c1:w.cell? ⟨b,1,none⟩=some (.slice (some ⟨be,0,none⟩) n n))
  (c5:w.cell? ⟨b,5,none⟩=some (.slice (some ⟨b0,o1,none⟩) (m+1) wc)) (f5:w.frozen? ⟨b,5,none⟩=false) (L:m+1<=wc) (x1:w.cell? ⟨b0,o1,none⟩=some (.int .i64 0)) (Q:Value->World->Prop)
  (H:Calls prog 146 #[.pointer (some ⟨b,0,none⟩),.int .i64 i] (w.setCell ⟨b,5,none⟩ (.slice (if wc=1 then some ⟨b0,o1,none⟩else some ⟨b0,o1+1,none⟩) m (wc-1))) fun e w'=>∃v,e=.returned v/\Q v w'):
  Calls prog 92 #[.pointer (some ⟨b,0,none⟩),.int .i64 i,.int .i64 A] w fun e w'=>∃v,e=.returned v/\Q v w':=by
 have J:(1:Int)<=(m:Int)+1:=by omega
 have I:((m:Int)+1==0)=false:=beq_eq_false_iff_ne.2 (by omega);by_cases D:wc=1
 ·rw[if_pos D]at H;obtain rfl:m=0:=by omega
  subst D;have B:Hid (Calls prog 146 #[.pointer (some ⟨b,0,none⟩),.int .i64 i] (w.setCell ⟨b,5,none⟩ (.slice (some ⟨b0,o1,none⟩) 0 0)) fun e w'=>∃v,e=.returned v/\Q v w'):=H;clear H;go_in;go_wp2_with fail;refine B.o.mono ?_;rintro e M⟨v,rfl,C⟩;go_wp2;go_ret;exact⟨_,rfl,C⟩
 ·rw[if_neg D]at H;have B:Hid (Calls prog 146 #[.pointer (some ⟨b,0,none⟩),.int .i64 i] (w.setCell ⟨b,5,none⟩ (.slice (some ⟨b0,o1+1,none⟩) m (wc-1))) fun e w'=>∃v,e=.returned v/\Q v w'):=H;clear H;go_in;go_wp2_with fail;refine B.o.mono ?_;rintro e M⟨v,rfl,C⟩;go_wp2;go_ret;exact⟨_,rfl,C⟩
theorem y5s{b s be b0 o0 o1 n cap wc:Nat}(i A m:Nat)(w:World)(_hbb:b0≠b)(K:s≠b)(E:be≠b)(hn:n<=400)(G:(i:Int)<(n:Int))
  (c0:w.cell? ⟨b,0,none⟩=some (.slice (some ⟨s,o0,none⟩) n cap)) (d1:w.cell? ⟨s,o0+i*3,none⟩=some (.int .i64 8)) (_c1:w.cell? ⟨b,1,none⟩=some (.slice (some ⟨be,0,none⟩) n n))
  (c5:w.cell? ⟨b,5,none⟩=some (.slice (some ⟨b0,o1,none⟩) (m+1) wc)) (f5:w.frozen? ⟨b,5,none⟩=false) (L:m+1<=wc) (x1:w.cell? ⟨b0,o1,none⟩=some (.int .i64 1)) (Q:Value->World->Prop)
  (H:Calls prog 52 #[.pointer (some ⟨b,0,none⟩),.int .i64 ((i:Int)+1),.int .i64 A] (w.setCell ⟨b,5,none⟩ (.slice (if wc=1 then some ⟨b0,o1,none⟩else some ⟨b0,o1+1,none⟩) m (wc-1))) fun e w'=>∃v,e=.returned v/\Q v w'):
  Calls prog 92 #[.pointer (some ⟨b,0,none⟩),.int .i64 i,.int .i64 A] w fun e w'=>∃v,e=.returned v/\Q v w':=by
 have J:(1:Int)<=(m:Int)+1:=by omega
 have I:((m:Int)+1==0)=false:=beq_eq_false_iff_ne.2 (by omega);by_cases D:wc=1
 ·rw[if_pos D]at H;obtain rfl:m=0:=by omega
  subst D;have B:Hid (Calls prog 52 #[.pointer (some ⟨b,0,none⟩),.int .i64 ((i:Int)+1),.int .i64 A] (w.setCell ⟨b,5,none⟩ (.slice (some ⟨b0,o1,none⟩) 0 0)) fun e w'=>∃v,e=.returned v/\Q v w'):=H;clear H;go_in;go_wp2_with fail;refine B.o.mono ?_;rintro e M⟨v,rfl,C⟩;go_wp2;go_ret;exact⟨_,rfl,C⟩
 ·rw[if_neg D]at H;have B:Hid (Calls prog 52 #[.pointer (some ⟨b,0,none⟩),.int .i64 ((i:Int)+1),.int .i64 A] (w.setCell ⟨b,5,none⟩ (.slice (some ⟨b0,o1+1,none⟩) m (wc-1))) fun e w'=>∃v,e=.returned v/\Q v w'):=H;clear H;go_in;go_wp2_with fail;refine B.o.mono ?_;rintro e M⟨v,rfl,C⟩;go_wp2;go_ret;exact⟨_,rfl,C⟩
theorem y5t{b s be b0 o0 o1 n cap wc:Nat}(i A m:Nat)(w:World)(_hbb:b0≠b)(K:s≠b)(E:be≠b)(hn:n<=400)(G:(i:Int)<(n:Int))
  (c0:w.cell? ⟨b,0,none⟩=some (.slice (some ⟨s,o0,none⟩) n cap)) (d1:w.cell? ⟨s,o0+i*3,none⟩=some (.int .i64 9)) (_c1:w.cell? ⟨b,1,none⟩=some (.slice (some ⟨be,0,none⟩) n n))
  (c5:w.cell? ⟨b,5,none⟩=some (.slice (some ⟨b0,o1,none⟩) (m+1) wc)) (f5:w.frozen? ⟨b,5,none⟩=false) (L:m+1<=wc) (x1:w.cell? ⟨b0,o1,none⟩=some (.int .i64 0)) (Q:Value->World->Prop)
  (H:Calls prog 52 #[.pointer (some ⟨b,0,none⟩),.int .i64 ((i:Int)+1),.int .i64 A] (w.setCell ⟨b,5,none⟩ (.slice (if wc=1 then some ⟨b0,o1,none⟩else some ⟨b0,o1+1,none⟩) m (wc-1))) fun e w'=>∃v,e=.returned v/\Q v w'):
  Calls prog 92 #[.pointer (some ⟨b,0,none⟩),.int .i64 i,.int .i64 A] w fun e w'=>∃v,e=.returned v/\Q v w':=by
 have J:(1:Int)<=(m:Int)+1:=by omega
 have I:((m:Int)+1==0)=false:=beq_eq_false_iff_ne.2 (by omega);by_cases D:wc=1
 ·rw[if_pos D]at H;obtain rfl:m=0:=by omega
  subst D;have B:Hid (Calls prog 52 #[.pointer (some ⟨b,0,none⟩),.int .i64 ((i:Int)+1),.int .i64 A] (w.setCell ⟨b,5,none⟩ (.slice (some ⟨b0,o1,none⟩) 0 0)) fun e w'=>∃v,e=.returned v/\Q v w'):=H;clear H;go_in;go_wp2_with fail;refine B.o.mono ?_;rintro e M⟨v,rfl,C⟩;go_wp2;go_ret;exact⟨_,rfl,C⟩
 ·rw[if_neg D]at H;have B:Hid (Calls prog 52 #[.pointer (some ⟨b,0,none⟩),.int .i64 ((i:Int)+1),.int .i64 A] (w.setCell ⟨b,5,none⟩ (.slice (some ⟨b0,o1+1,none⟩) m (wc-1))) fun e w'=>∃v,e=.returned v/\Q v w'):=H;clear H;go_in;go_wp2_with fail;refine B.o.mono ?_;rintro e M⟨v,rfl,C⟩;go_wp2;go_ret;exact⟨_,rfl,C⟩
theorem y5u{b s be b0 o0 o1 n cap wc:Nat}(i A m:Nat)(w:World)(_hbb:b0≠b)(L:s≠b)(E:be≠b)(hn:n<=400)(I:(i:Int)<(n:Int))(G:(i:Int)+1<(n:Int))(j:Nat)(e1:w.cell? ⟨be,i+1,none⟩=some (.int .i64 (j:Int)))
  (c0:w.cell? ⟨b,0,none⟩=some (.slice (some ⟨s,o0,none⟩) n cap)) (d1:w.cell? ⟨s,o0+i*3,none⟩=some (.int .i64 9)) (c1:w.cell? ⟨b,1,none⟩=some (.slice (some ⟨be,0,none⟩) n n))
  (c5:w.cell? ⟨b,5,none⟩=some (.slice (some ⟨b0,o1,none⟩) (m+1) wc)) (f5:w.frozen? ⟨b,5,none⟩=false) (M:m+1<=wc) (x1:w.cell? ⟨b0,o1,none⟩=some (.int .i64 1)) (Q:Value->World->Prop)
  (H:Calls prog 52 #[.pointer (some ⟨b,0,none⟩),.int .i64 (j:Int),.int .i64 A] (w.setCell ⟨b,5,none⟩ (.slice (if wc=1 then some ⟨b0,o1,none⟩else some ⟨b0,o1+1,none⟩) m (wc-1))) fun e w'=>∃v,e=.returned v/\Q v w'):
  Calls prog 92 #[.pointer (some ⟨b,0,none⟩),.int .i64 i,.int .i64 A] w fun e w'=>∃v,e=.returned v/\Q v w':=by
 have K:(1:Int)<=(m:Int)+1:=by omega
 have J:((m:Int)+1==0)=false:=beq_eq_false_iff_ne.2 (by omega);by_cases D:wc=1
 ·rw[if_pos D]at H;obtain rfl:m=0:=by omega
  subst D;have B:Hid (Calls prog 52 #[.pointer (some ⟨b,0,none⟩),.int .i64 (j:Int),.int .i64 A] (w.setCell ⟨b,5,none⟩ (.slice (some ⟨b0,o1,none⟩) 0 0)) fun e w'=>∃v,e=.returned v/\Q v w'):=H;clear H;go_in;go_wp2_with fail;refine B.o.mono ?_;rintro e N⟨v,rfl,C⟩;go_wp2;go_ret;exact⟨_,rfl,C⟩
 ·rw[if_neg D]at H;have B:Hid (Calls prog 52 #[.pointer (some ⟨b,0,none⟩),.int .i64 (j:Int),.int .i64 A] (w.setCell ⟨b,5,none⟩ (.slice (some ⟨b0,o1+1,none⟩) m (wc-1))) fun e w'=>∃v,e=.returned v/\Q v w'):=H;clear H;go_in;go_wp2_with fail;refine B.o.mono ?_;rintro e N⟨v,rfl,C⟩;go_wp2;go_ret;exact⟨_,rfl,C⟩
set_option maxHeartbeats 8000000
theorem k0v:∀n:Fo,n.len<=n.N.length
 | .nil=>Nat.le_refl _
 | .cons x k m=>by
  have:=k0v m
  simp only[Fo.len,Fo.N,List.length_cons,List.length_append];omega
theorem z4e{ds:List Td}{a:Option Addr}{cap:Nat}(hs:v8w ds):∀(K:Fo)(pos:Nat)(r:List Td),ds.drop pos=K.N++r->K.ok->DcA ds a cap K->K.len≠0->∀W:World,Tds W a ds->
  Calls prog 62 #[.slice a ds.length cap,.int .i64 (pos:Int),.int .i64 (K.len:Int)] W fun e w'=>NdR W (kdD K.D).N e w'
 | .nil,_,_,_,_,_,h0,_,_=>absurd rfl h0
 | .cons y ky .nil,pos,r,hd,hok,hk,_,W,hN=>by
  have HD:Hid (Calls prog 26 #[.slice a ds.length cap,.int .i64 (pos:Int)] W fun e w'=>NdR W (q0l y ky.D).N e w'):=hk.1 pos r hd W hN;show Calls prog 62 #[.slice a ds.length cap,.int .i64 (pos:Int),.int .i64 1] W fun e w'=>NdR W (q0l y ky.D).N e w'
  generalize(q0l y ky.D).N=xs at HD⊢
  clear hd hok hk hN;go_in;go_wp2_with fail;refine HD.o.mono ?_;rintro e w1 h1;have HR:Hid (NdR W xs e w1):=h1;obtain⟨v1,rfl,_,_⟩:=h1.val;clear h1;go_wp2;go_ret;exact HR.o
 | .cons y ky (.cons z kz n),pos,r,hd,hok,hk,_,W,hN=>by
  have hz:=z3c hs hd;obtain⟨hp,ey,_,ene,edn⟩:=k9h hd hok;generalize hj:pos+1+ky.N.length=j at ene edn;have HD:Hid (∀W':World,Below W W W'->Calls prog 26 #[.slice a ds.length cap,.int .i64 (pos:Int)] W' fun e w'=>NdR W' (q0l y ky.D).N e w'):=fun W' hb=>hk.1 pos r hd W' (hN.W hb)
  have HEN:Hid (∀W':World,Below W W W'->Calls prog 24 #[.slice a ds.length cap,.int .i64 (pos:Int)] W' fun e w'=>e=.returned (.int .i64 (j:Int))/\Below W' W' w'):=fun W' hb=>k6f (cap:=cap) hs ene hp W' (hN.W hb)
  have HKS:Hid (∀W':World,Below W W W'->Calls prog 62 #[.slice a ds.length cap,.int .i64 (j:Int),.int .i64 ((n.len:Int)+1)] W' fun e w'=>NdR W' (kdD (Fo.cons z kz n).D).N e w'):=fun W' hb=>by
   have h:=z4e hs (.cons z kz n) j r edn hok.2.2 hk.2 (by simp[Fo.len]) W' (hN.W hb);have e:(((Fo.cons z kz n).len:Nat):Int)=(n.len:Int)+1:=by simp[Fo.len]
   rw[e]at h;exact h
  have Aa:n.len<=100:=by
   have i:=congrArg List.length hd;rw[List.length_drop,List.length_append]at i;have h7:n.N.length<=(Fo.cons y ky (.cons z kz n)).N.length:=by simp only[Fo.N,List.length_cons,List.length_append];omega
   have k:=k0v n
   have:=hs.l
   omega
  have P:(q0l y ky.D).N.length<=800/\(kdD (Fo.cons z kz n).D).N.length<=801:=by
   have h1:=k9y (Fo.cons z kz n).D;have x:z3h (Fo.cons y ky (.cons z kz n)).D=(q0l y ky.D).N.length+5+z3h (Fo.cons z kz n).D:=by rw[Fo.D,q2l]
   omega
  have V:Hid ((kdD (Fo.cons y ky (.cons z kz n)).D).N=⟨6,⟨#[]⟩,0⟩::((⟨6,⟨#[]⟩,0⟩::((q0l y ky.D).N++[⟨1,⟨#[44]⟩,0⟩]))++(⟨6,⟨#[]⟩,0⟩::([⟨2,⟨#[]⟩,0⟩]++(kdD (Fo.cons z kz n).D).N)))):=rfl;have H:(((Fo.cons y ky (.cons z kz n)).len:Nat):Int)=(n.len:Int)+1+1:=by simp[Fo.len]
  rw[V.o,H]
  generalize(q0l y ky.D).N=xs at HD P⊢
  generalize(kdD (Fo.cons z kz n).D).N=ks at HKS P⊢
  generalize n.len=m at HKS Aa⊢;have Ac:((m:Int)+1+1==1)=false:=beq_false_of_ne (by omega);have Ad:¬(m:Int)+1+1=1:=by omega
  obtain⟨Ae,Ab⟩:=P;clear hd hok hk hN hz ey ene edn hj V H;go_in;go_wp2_with fail;refine(HD.o _ Zb).mono ?_;rintro e w1 h1;obtain⟨v1,rfl,n1,b1⟩:=h1.val;have c:NdV (w1.alloc (.cells #[.int .i64 2,.string ⟨#[]⟩,.int .i64 0] 107)) (.slice (some ⟨w1,0,none⟩) 1 1) [⟨2,⟨#[]⟩,0⟩]:=(q6c.one w1 ⟨2,⟨#[]⟩,0⟩).val;have O:Below w1 w1 (w1.alloc (.cells #[.int .i64 2,.string ⟨#[]⟩,.int .i64 0] 107)):= Zb.alloc Zl _;have A:=(show Hid (NdV (w1.alloc (.cells #[.int .i64 2,.string ⟨#[]⟩,.int .i64 0] 107)) (.slice (some ⟨w1,0,none⟩) 1 1) [⟨2,⟨#[]⟩,0⟩])from c);have M:Hid (NdV (w1.alloc (.cells #[.int .i64 2,.string ⟨#[]⟩,.int .i64 0] 107)) v1 xs):=n1.W O;have I:Hid (Below W W (w1.alloc (.cells #[.int .i64 2,.string ⟨#[]⟩,.int .i64 0] 107))):=q0d b1 Zl O;clear h1 n1 b1 c O;go_wp2_with fail;generalize w1.alloc (.cells #[.int .i64 2,.string ⟨#[]⟩,.int .i64 0] 107)=w2 at A M I⊢;refine(q1q _ _).mono ?_;rintro e p h3;obtain⟨v3,rfl,n3,d⟩:=h3.val;have Q:Hid (Below W W p):=q0d I.o Zl d;have X:Hid (NdV p v1 xs):=M.o.W d;have S:Hid (NdV p v3 [⟨1,⟨#[44]⟩,0⟩]):=n3;have B:Hid (NdV p (.slice (some ⟨w1,0,none⟩) 1 1) [⟨2,⟨#[]⟩,0⟩]):=A.o.W d;clear h3 n3 d I M A;go_wp2_with fail;refine(q0z _ X.o S.o (by simp;omega)).mono ?_;rintro e w4 x;obtain⟨o,rfl,n4,v⟩:=x.val;have J:Hid (Below W W w4):=q0d Q.o Zl v;have Y:Hid (NdV w4 o (⟨6,⟨#[]⟩,0⟩::(xs++[⟨1,⟨#[44]⟩,0⟩]))):=n4;have C:Hid (NdV w4 (.slice (some ⟨w1,0,none⟩) 1 1) [⟨2,⟨#[]⟩,0⟩]):=B.o.W v;clear x n4 v Q X S B;go_wp2_with fail;refine(HEN.o _ J.o).mono ?_;rintro e w5⟨rfl,f⟩;have L:Hid (Below W W w5):=q0d J.o Zl f;have Z:Hid (NdV w5 o (⟨6,⟨#[]⟩,0⟩::(xs++[⟨1,⟨#[44]⟩,0⟩]))):=Y.o.W f;have E:Hid (NdV w5 (.slice (some ⟨w1,0,none⟩) 1 1) [⟨2,⟨#[]⟩,0⟩]):=C.o.W f;clear f J Y C;go_wp2_with fail;refine(HKS.o _ L.o).mono ?_;rintro e q i;obtain⟨v6,rfl,n6,g⟩:=i.val;have R:Hid (Below W W q):=q0d L.o Zl g;have b:Hid (NdV q o (⟨6,⟨#[]⟩,0⟩::(xs++[⟨1,⟨#[44]⟩,0⟩]))):=Z.o.W g;have U:Hid (NdV q v6 ks):=n6;have G:Hid (NdV q (.slice (some ⟨w1,0,none⟩) 1 1) [⟨2,⟨#[]⟩,0⟩]):=E.o.W g;clear i n6 g L Z E;go_wp2_with fail;refine(q0z _ G.o U.o (by simp;omega)).mono ?_;rintro e w7 h7;obtain⟨v7,rfl,n7,w⟩:=h7.val;have s:Hid (Below W W w7):=q0d R.o Zl w;have u:Hid (NdV w7 o (⟨6,⟨#[]⟩,0⟩::(xs++[⟨1,⟨#[44]⟩,0⟩]))):=b.o.W w;have t:Hid (NdV w7 v7 (⟨6,⟨#[]⟩,0⟩::([⟨2,⟨#[]⟩,0⟩]++ks))):=n7;clear h7 n7 w R b U G;go_wp2_with fail;refine(q0z _ u.o t.o (by simp;omega)).mono ?_;rintro e w8 k;have HR:Hid (NdR W (⟨6,⟨#[]⟩,0⟩::((⟨6,⟨#[]⟩,0⟩::(xs++[⟨1,⟨#[44]⟩,0⟩]))++(⟨6,⟨#[]⟩,0⟩::([⟨2,⟨#[]⟩,0⟩]++ks)))) e w8):=k.from s.o;obtain⟨v8,rfl,_,_⟩:=k.val;clear k;go_wp2;go_ret;exact HR.o
theorem y6b(B b s be bf:Nat)(_hb:s<B/\be<B/\bf<B)(hB:B<=b)(ds:List Nd)(a:Option Addr)(cap:Nat)(_hl:ds.length<=400)(tx:ByteArray)(n:Int):q3n B b s be bf ds a cap (⟨5,tx,n⟩::[]) (fun _ ws=>.ok ([],ws)):=by
 intro i r Q ws K wc l w H E U _ J C D I;obtain⟨d,R,S⟩:=q1u (x:=⟨5,tx,n⟩) (A:=[]++r) H;obtain⟨V,c,M,N,P⟩:=E.nd i d;subst c;rw[R]at M N P;dsimp only at M N P;have k:=C.c0;have m:=C.c1;have o:=C.c2;have p:=C.c5;have f:=C.lt;have g:s<w.heap.size:=by omega
 have G:B<=w.heap.size:=by omega
 have e:(i:Int)<(ds.length:Int):=by omega
 have j:Hid (ds.drop i=⟨5,tx,n⟩::([]++r)):=H;have X:Hid (ds.drop (i+1)=[]++r):=S;have h:Hid (LC B s be bf (some ⟨s,V,none⟩) ds w):=E;have Y:Hid (q1h B w K ws):=U;have Z:Hid (WS B b (q7d be bf ds.length cap (some ⟨s,V,none⟩)) l (.slice K ws.length wc) w):=C;have L:Hid (∀O:Obj,Below B w (w.alloc O)):=fun O=>(Below.refl _ w).alloc G O
 clear E U C H R S;simp only[List.length_cons,List.length_nil]at D I;go_in;go_wp2;go_ret;exact⟨⟨rfl,K,wc,by rw[List.append_nil];exact Z.o.alloc _,Y.o.W (L.o _),J⟩,L.o _⟩
theorem y5x(B b s be bf:Nat)(_hb:s<B/\be<B/\bf<B)(hB:B<=b)(ds:List Nd)(a:Option Addr)(cap:Nat)(_hl:ds.length<=400)(tx:ByteArray)(n:Int)(ht:tx.size<=20):q3n B b s be bf ds a cap (⟨1,tx,n⟩::[]) (fun _ ws=>.ok (tx.data.toList,ws)):=by
 intro i r R ws M wc l w J G V _ L C D K;obtain⟨h,S,U⟩:=q1u (x:=⟨1,tx,n⟩) (A:=[]++r) J;obtain⟨X,f,N,P,Q⟩:=G.nd i h;subst f;rw[S]at N P Q;dsimp only at N P Q;have t:=C.c0;have u:=C.c1;have v:=C.c2;have y:=C.c5;have k:=C.lt;have m:s<w.heap.size:=by omega
 have I:B<=w.heap.size:=by omega
 have j:(i:Int)<(ds.length:Int):=by omega
 have q:Hid (ds.drop i=⟨1,tx,n⟩::([]++r)):=J;have Z:Hid (ds.drop (i+1)=[]++r):=U;have p:Hid (LC B s be bf (some ⟨s,X,none⟩) ds w):=G;have c:Hid (q1h B w M ws):=V;have d:Hid (WS B b (q7d be bf ds.length cap (some ⟨s,X,none⟩)) l (.slice M ws.length wc) w):=C;have Y:Hid (∀O:Obj,Below B w (w.alloc O)):=fun O=>(Below.refl _ w).alloc I O
 clear G V C J S U;simp only[List.length_cons,List.length_nil]at D K;go_in;go_wp2_with fail
 go_region_with (go_at_call 38;refine(y6h (WS.drew (d.o.alloc _)) hB tx (by omega)).mono ?_;rintro e o⟨⟨z,rfl⟩,g,H⟩)
 all_goals
  go_wp2;go_ret;have E:Below B w o:=(Below.drew (Y.o _)).trans H;exact⟨⟨rfl,M,wc,g,c.o.W E,L⟩,E⟩
end Go.Proofs.YtfdppahhbpfnoaaGreatDoor
