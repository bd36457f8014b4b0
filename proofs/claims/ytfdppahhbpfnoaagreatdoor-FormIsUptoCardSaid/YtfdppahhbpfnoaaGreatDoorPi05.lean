import Derived.Deep.OwnRows
import Derived.Deep.AppendLies
import Derived.OwnWalk
import Derived.Lib.SmallJoins
import Derived.Test.YtfdppahhbpfnoaaGreatDoorPi01
open Go.Proofs.Tryz
namespace Go.Proofs.YtfdppahhbpfnoaaGreatDoor
open Go Go.RowKit
def q1p(w:World)(a:Option Addr)(ds:List Nd):Prop:=
 ∀i(h:i<ds.length),∃b o,a=some ⟨b,o,none⟩/\b<w.heap.size/\w.cell? ⟨b,o+i*3,none⟩=some (.int .i64 ds[i].op)/\w.cell? ⟨b,o+i*3+1,none⟩=some (.string ds[i].tx)/\w.cell? ⟨b,o+i*3+2,none⟩=some (.int .i64 ds[i].n)
theorem q1p.W{w w':World}{a:Option Addr}{ds:List Nd}(h:q1p w a ds)(hb:Below w w w'):q1p w' a ds:=by
 intro i G;obtain⟨b,o,e,A,C,D,E⟩:=h i G;obtain⟨B,_⟩:=q1y hb
 have:=hb.size
 exact⟨b,o,e,by omega,(B _ _ A).trans C,(B _ _ A).trans D,(B _ _ A).trans E⟩
theorem q1p.alloc{w:World}{a:Option Addr}{ds:List Nd}(h:q1p w a ds)(o:Obj):q1p (w.alloc o) a ds:=h.W (Zb.alloc Zl _)
theorem q1p.nil(w:World)(a:Option Addr):q1p w a []:=fun i hi=>by simp at hi
abbrev y9e(x:Nd):Value:=.agg #[.int .i64 x.op,.string x.tx,.int .i64 x.n]
set_option maxRecDepth 100000
set_option maxHeartbeats 1000000
def j4c(n:Int):Bool:=decide (0<=n)&&decide (n<=1000000)
def okC(c:Int × Int):Bool:=j4c c.1&&j4c c.2
theorem z4a{n:Int}(h:j4c n=true):0<=n/\n<=1000000:=by simpa[j4c]using h
theorem k9g{n:Int}(h:j4c n=false):n<0\/(0<=n/\1000000<n):=by
 simp[j4c]at h;omega
theorem z8h(n:Int)(w:World):Calls prog 250 #[.int .i64 n] w fun e w'=>e=.returned (.bool (j4c n))/\w=w':=by
 cases h:j4c n with
 | true=>
  obtain⟨A,C⟩:=z4a h;clear h;go_in;go_wp2;go_ret;exact⟨rfl,rfl⟩
 | false=>
  rcases k9g h with A|⟨A,C⟩
  ·have B:¬0<=n:=by omega
   clear h;go_in;go_wp2;go_ret;exact⟨rfl,rfl⟩
  ·have D:¬n<=1000000:=by omega
   clear h;go_in;go_wp2;go_ret;exact⟨rfl,rfl⟩
theorem k0m(cs:List (Int × Int))(B:Nat)(w:World)(hB:B<w.heap.size)(M:cs.length<=2)
  (hc:∀j(h:j<cs.length),w.cell? ⟨B,j*2,none⟩=some (.int .i64 cs[j].1)/\w.cell? ⟨B,j*2+1,none⟩=some (.int .i64 cs[j].2)):
  Calls prog 239 #[.slice (some ⟨B,0,none⟩) cs.length cs.length] w fun e w'=>((∃c∈cs,okC c=false)/\e=.returned (.iface 23 (.int .i64 1))\/(∀c∈cs,okC c=true)/\e=.returned .nilIface)/\Below w w w':=by
 go_in;go_wp2
 go_loopw [7] (fun i wr=>∃k:Nat,k<=cs.length/\i=.int .i64 k/\(∀c∈cs.take k,okC c=true)/\Below w w wr) (fun i _=>cs.length-(intOf i).toNat)
 case atStart=>exact⟨0,Nat.zero_le _,rfl,by simp,Below.refl _ _⟩
 case round=>
  obtain⟨k,P,rfl,D,G⟩:=hrel;by_cases A:k<cs.length
  ·have I:=(hc k A).1;have J:=(hc k A).2;have N:wr.cell? ⟨B,k*2,none⟩=some (.int .i64 cs[k].1):=(G.cell (p:=⟨B,k*2,none⟩) hB).trans I;have O:wr.cell? ⟨B,k*2+1,none⟩=some (.int .i64 cs[k].2):=(G.cell (p:=⟨B,k*2+1,none⟩) hB).trans J;clear I J hc;have H:w.heap.size<=wr.heap.size:=G.size;have E:Below w w (wr.alloc (.cells #[.int .i64 cs[k].1,.int .i64 cs[k].2] 54)):=G.alloc H _;cases K:j4c cs[k].1 with
   | false=>
    go_wp2_with(go_at_call 250;refine(z8h _ _).mono ?_;rintro e w'⟨rfl,rfl⟩);go_ret;exact⟨.inl ⟨⟨cs[k],List.getElem_mem A,by simp[okC,K]⟩,rfl⟩,E⟩
   | true=>
    cases L:j4c cs[k].2 with
    | false=>
     go_wp2_with(go_at_call 250;refine(z8h _ _).mono ?_;rintro e w'⟨rfl,rfl⟩);go_ret;exact⟨.inl ⟨⟨cs[k],List.getElem_mem A,by simp[okC,L]⟩,rfl⟩,E⟩
    | true=>
     go_wp2_with(go_at_call 250;refine(z8h _ _).mono ?_;rintro e w'⟨rfl,rfl⟩)
     go_roundw
     case rel=>
      refine⟨k+1,by omega,by go_num,?_,E⟩;intro c C;rw[List.take_succ_eq_append_getElem A]at C;rcases List.mem_append.1 C with h|h
      ·exact D c h
      ·simp at h;subst h;simp[okC,K,L]
     case measure=>simp[intOf];omega
  ·go_wp2;go_ret;exact⟨.inr ⟨fun c C=>D c (by rw[List.take_of_length_le (by omega)];exact C),rfl⟩,G⟩
theorem z3r(a b:Int × Int)(B:Nat)(w:World)(hB:B<w.heap.size)(ha:okC a=true)(hb:okC b=true)
  (h0:w.cell? ⟨B,0,none⟩=some (.int .i64 a.1)) (h1:w.cell? ⟨B,1,none⟩=some (.int .i64 a.2)) (h2:w.cell? ⟨B,2,none⟩=some (.int .i64 b.1)) (h3:w.cell? ⟨B,3,none⟩=some (.int .i64 b.2)):
  Calls prog 239 #[.slice (some ⟨B,0,none⟩) 2 2] w fun e w'=>e=.returned .nilIface/\Below w w w':=by
 refine(k0m [a,b] B w hB (by simp) ?_).mono ?_
 ·intro j E
  match j,E with
  | 0,_=>exact⟨h0,h1⟩
  | 1,_=>exact⟨h2,h3⟩
 ·rintro e w'⟨⟨⟨c,C,A⟩,D⟩|⟨_,D⟩,hB⟩
  ·simp at C;rcases C with rfl|rfl
   ·rw[ha]at A;cases A
   ·rw[hb]at A;cases A
  ·exact⟨D,hB⟩
theorem j3c(a:Int × Int)(B:Nat)(w:World)(hB:B<w.heap.size)(ha:okC a=true)
  (h0:w.cell? ⟨B,0,none⟩=some (.int .i64 a.1)) (h1:w.cell? ⟨B,1,none⟩=some (.int .i64 a.2)):
  Calls prog 239 #[.slice (some ⟨B,0,none⟩) 1 1] w fun e w'=>e=.returned .nilIface/\Below w w w':=by
 refine(k0m [a] B w hB (by simp) ?_).mono ?_
 ·intro j E
  match j,E with
  | 0,_=>exact⟨h0,h1⟩
 ·rintro e w'⟨⟨⟨c,A,D⟩,C⟩|⟨_,C⟩,hB⟩
  ·simp at A;subst A;rw[ha]at D;cases D
  ·exact⟨C,hB⟩
abbrev v2b(a:Int × Int):Value:=.agg #[.int .i64 a.1,.int .i64 a.2]
def z8n(a b:Int × Int):Bool:=if a.1=b.1 then decide (a.2<b.2)else decide (a.1<b.1)
theorem v6s{w w1:World}{A B C:Obj}(hb:Below (((w.alloc A).alloc B).alloc C).heap.size (((w.alloc A).alloc B).alloc C) w1):Below w w w1:=
 (((Zb.alloc Zl _).alloc (by simp) _).alloc (by simp;omega) _).trans (hb.mono (by simp;omega))
theorem y0r(a b:Int × Int)(w:World)(ha:okC a=true)(hb:okC b=true):
  Calls prog 219 #[v2b a,v2b b] w fun e w'=>e=.returned (.tuple #[.bool (z8n a b),.nilIface])/\Below w w w':=by
 have D:Hid (okC a=true):=ha;have E:Hid (okC b=true):=hb;clear ha hb;by_cases h:a.1=b.1
 ·have C:z8n a b=decide (a.2<b.2):=by simp[z8n,h]
  rw[C];have G:(a.1 != b.1)=false:=by simp[h]
  clear h C;go_in;go_wp2_with fail;refine(z3r a b (w.heap.size+1+1) _ (by simp) D.o E.o (by simp[go_sem]) (by simp[go_sem]) (by simp[go_sem]) (by simp[go_sem])).mono ?_;rintro e I⟨rfl,A⟩;have B:=v6s A;obtain⟨H,_⟩:=q1y A;clear A;go_wp2;go_ret2;exact⟨rfl,B⟩
 ·have C:z8n a b=decide (a.1<b.1):=by simp[z8n,h]
  rw[C];have G:(a.1 != b.1)=true:=by simp[h]
  clear h C;go_in;go_wp2_with fail;refine(z3r a b (w.heap.size+1+1) _ (by simp) D.o E.o (by simp[go_sem]) (by simp[go_sem]) (by simp[go_sem]) (by simp[go_sem])).mono ?_;rintro e I⟨rfl,A⟩;have B:=v6s A;obtain⟨H,_⟩:=q1y A;clear A;go_wp2;go_ret2;exact⟨rfl,B⟩
def q1i(s:Nat)(w:World)(a:Option Addr)(ds:List Nd):Prop:=
 ∀i(h:i<ds.length),∃o,a=some ⟨s,o,none⟩/\w.cell? ⟨s,o+i*3,none⟩=some (.int .i64 ds[i].op)/\w.cell? ⟨s,o+i*3+1,none⟩=some (.string ds[i].tx)/\w.cell? ⟨s,o+i*3+2,none⟩=some (.int .i64 ds[i].n)
theorem q1p.s{w:World}{a:Option Addr}{ds:List Nd}(h:q1p w a ds)(h0:ds≠[]):∃s,s<w.heap.size/\q1i s w a ds:=by
 obtain⟨s,o,rfl,A,_⟩:=h 0 (List.length_pos_iff.2 h0);refine⟨s,A,fun i hi=>?_⟩;obtain⟨b,B,e,_,c⟩:=h i hi;simp only[Option.some.injEq,Addr.mk.injEq,and_true]at e;obtain⟨rfl,rfl⟩:=e;exact⟨o,rfl,c⟩
theorem q1i.nods{s:Nat}{w:World}{a:Option Addr}{ds:List Nd}(h:q1i s w a ds)(hs:s<w.heap.size):q1p w a ds:=by
 intro i A;obtain⟨o,e,c⟩:=h i A;exact⟨s,o,e,hs,c⟩
theorem q1i.kept{s:Nat}{w w':World}{a:Option Addr}{ds:List Nd}(h:q1i s w a ds)(hb:w'.heap[s]?=w.heap[s]?):q1i s w' a ds:=by
 intro i E;obtain⟨o,e,B,C,D⟩:=h i E;have A:∀j,w'.cell? ⟨s,j,none⟩=w.cell? ⟨s,j,none⟩:=fun j=>World.cell?_of_block (w:=w) (a:=⟨s,j,none⟩) hb
 exact⟨o,e,(A _).trans B,(A _).trans C,(A _).trans D⟩
theorem q1i.rest{s:Nat}{w:World}{o:Nat}{x:Nd}{ds:List Nd}(h:q1i s w (some ⟨s,o,none⟩) (x::ds)):q1i s w (some ⟨s,o+3,none⟩) ds:=by
 intro i D;obtain⟨E,e,A,B,C⟩:=h (i+1) (by simp;omega);simp only[Option.some.injEq,Addr.mk.injEq,and_true,true_and]at e;obtain rfl:=e;refine⟨o+3,rfl,?_,?_,?_⟩
 ·rw[show o+3+i*3=o+(i+1)*3 by omega];exact A
 ·rw[show o+3+i*3+1=o+(i+1)*3+1 by omega];exact B
 ·rw[show o+3+i*3+2=o+(i+1)*3+2 by omega];exact C
theorem q1i.slid{s:Nat}{w:World}{o cap:Nat}{x:Nd}{ds:List Nd}(h:q1i s w (some ⟨s,o,none⟩) (x::ds))(hc:ds.length+1<=cap):
  q1i s w (if cap=1 then some ⟨s,o,none⟩else some ⟨s,o+3,none⟩) ds:=by
 by_cases A:cap=1
 ·have:ds=[]:=List.eq_nil_of_length_eq_zero (by omega)
  subst this;exact fun i hi=>by simp at hi
 ·rw[if_neg A];exact h.rest
theorem y3i{w w1:World}{A B C D:Obj}(hb:Below ((((w.alloc A).alloc B).alloc C).alloc D).heap.size ((((w.alloc A).alloc B).alloc C).alloc D) w1):Below w w w1:=
 ((((Zb.alloc Zl _).alloc (by simp) _).alloc (by simp;omega) _).alloc (by simp;omega) _).trans (hb.mono (by simp;omega))
theorem v6r{n:Nat}{w w1 w2:World}{A B:Obj}(h1:Below n w w1)(hn:n<=w.heap.size)(hb:Below ((w1.alloc A).alloc B).heap.size ((w1.alloc A).alloc B) w2):Below n w w2:=
 have h2:=h1.size
 ((h1.alloc (by omega) _).alloc (by simp;omega) _).trans (hb.mono (by simp;omega))
theorem v7y{a:Int × Int}(h:okC a=true):(0<=a.1/\a.1<=1000000)/\(0<=a.2/\a.2<=1000000):=by
 simp only[okC,Bool.and_eq_true]at h;exact⟨z4a h.1,z4a h.2⟩
abbrev y6s(a b:Int × Int):Int × Int:=(a.1+b.1,a.2+b.2)
theorem y3f(a b:Int × Int)(w:World)(ha:okC a=true)(hb:okC b=true)(hn:okC (y6s a b)=true):
  Calls prog 238 #[v2b a,v2b b] w fun e w'=>e=.returned (.tuple #[.agg #[.int .i64 (a.1+b.1),.int .i64 (a.2+b.2)],.nilIface])/\Below w w w':=by
 obtain⟨⟨c,d⟩,⟨f,g⟩⟩:=v7y ha;obtain⟨⟨h,i⟩,⟨j,k⟩⟩:=v7y hb;have R:Hid (okC a=true):=ha;have S:Hid (okC b=true):=hb;have U:Hid (okC (y6s a b)=true):=hn;clear hn ha hb;go_in;go_wp2_with fail;refine(z3r a b (w.heap.size+1+1+1) _ (by simp) R.o S.o (by simp[go_sem]) (by simp[go_sem]) (by simp[go_sem]) (by simp[go_sem])).mono ?_;rintro e A⟨rfl,C⟩;have I:=y3i C;obtain⟨E,K⟩:=q1y C;have Z:w.heap.size+1+1+1<A.heap.size:=by have:=C.size;simp at this;omega
 clear C;have P:A.cell? ⟨w.heap.size+1+1,0,none⟩=some (.int .i64 0):=(E _ _ (by simp only[World.size_alloc];omega)).trans (by simp[go_sem]);have Q:A.cell? ⟨w.heap.size+1+1,1,none⟩=some (.int .i64 0):=(E _ _ (by simp only[World.size_alloc];omega)).trans (by simp[go_sem]);have N:A.frozen? ⟨w.heap.size+1+1,0,none⟩=false:=(K _ _ (by simp only[World.size_alloc];omega)).trans (by simp[go_sem]);have O:A.frozen? ⟨w.heap.size+1+1,1,none⟩=false:=(K _ _ (by simp only[World.size_alloc];omega)).trans (by simp[go_sem]);have u0:A.cell? ⟨w,0,none⟩=some (.int .i64 a.1):=(E _ _ (by simp only[World.size_alloc];omega)).trans (by simp[go_sem]);have u1:A.cell? ⟨w,1,none⟩=some (.int .i64 a.2):=(E _ _ (by simp only[World.size_alloc];omega)).trans (by simp[go_sem]);have X:A.cell? ⟨w.heap.size+1,0,none⟩=some (.int .i64 b.1):=(E _ _ (by simp only[World.size_alloc];omega)).trans (by simp[go_sem]);have Y:A.cell? ⟨w.heap.size+1,1,none⟩=some (.int .i64 b.2):=(E _ _ (by simp only[World.size_alloc];omega)).trans (by simp[go_sem]);clear E K;go_wp2_with fail;refine(j3c (y6s a b) (A.heap.size+1) _ (by simp) U.o (by simp[go_sem]) (by simp[go_sem])).mono ?_;rintro e H⟨rfl,D⟩;have J:=v6r I Zl D;have B:=v6r (Below.refl A.heap.size A) Zl D;obtain⟨G,_⟩:=q1y D;clear D;have L:H.cell? ⟨w.heap.size+1+1,0,none⟩=some (.int .i64 0):=(B.cell (p:=⟨w.heap.size+1+1,0,none⟩) (show w.heap.size+1+1<A.heap.size by omega)).trans P;have M:H.cell? ⟨w.heap.size+1+1,1,none⟩=some (.int .i64 0):=(B.cell (p:=⟨w.heap.size+1+1,1,none⟩) (show w.heap.size+1+1<A.heap.size by omega)).trans Q;have V:H.frozen? ⟨w.heap.size+1+1,0,none⟩=false:=(B.frozen (p:=⟨w.heap.size+1+1,0,none⟩) (show w.heap.size+1+1<A.heap.size by omega)).trans N;have W:H.frozen? ⟨w.heap.size+1+1,1,none⟩=false:=(B.frozen (p:=⟨w.heap.size+1+1,1,none⟩) (show w.heap.size+1+1<A.heap.size by omega)).trans O;have l:H.cell? ⟨A,0,none⟩=some (.int .i64 (a.1+b.1)):=(G _ _ (by simp only[World.size_alloc];omega)).trans (by simp[go_sem]);have m:H.cell? ⟨A,1,none⟩=some (.int .i64 (a.2+b.2)):=(G _ _ (by simp only[World.size_alloc];omega)).trans (by simp[go_sem]);clear G I B P Q N O u0 u1 X Y;go_wp2;exact bodyPost_ret (v:=.tuple #[.agg #[.int .i64 (a.1+b.1),.int .i64 (a.2+b.2)],.nilIface]) (by simp[results,Tryz.results238,go_sem,L,M]) rfl ⟨rfl,(J.setCell (p:=⟨w.heap.size+1+1,0,none⟩) (by simp;omega) _).setCell (p:=⟨w.heap.size+1+1,1,none⟩) (by simp;omega) _⟩
def z2x(B:Nat)(w:World)(a:Option Addr)(ws:List ByteArray):Prop:=
 ∀i(h:i<ws.length),∃b o,a=some ⟨b,o,none⟩/\b<B/\w.cell? ⟨b,o+i,none⟩=some (.string ws[i])
theorem z2x.W{B:Nat}{w w':World}{a:Option Addr}{ws:List ByteArray}(h:z2x B w a ws)(hb:Below B w w'):z2x B w' a ws:=by
 intro i D;obtain⟨b,o,e,A,C⟩:=h i D;exact⟨b,o,e,A,(hb.cell (p:=⟨b,_,none⟩) A).trans C⟩
theorem z2x.up{B B':Nat}{w:World}{a:Option Addr}{ws:List ByteArray}(h:z2x B w a ws)(hB:B<=B'):z2x B' w a ws:=by
 intro i C;obtain⟨b,o,e,D,A⟩:=h i C;exact⟨b,o,e,by omega,A⟩
theorem z2x.nil(B:Nat)(w:World)(a:Option Addr):z2x B w a []:=fun i hi=>by simp at hi
theorem z2x.take{B:Nat}{w:World}{a:Option Addr}{ws:List ByteArray}(h:z2x B w a ws)(k:Nat):z2x B w a (ws.take k):=by
 intro i E;have A:i<ws.length:=by simp at E;omega
 obtain⟨b,o,e,C,D⟩:=h i A;exact⟨b,o,e,C,by rw[List.getElem_take];exact D⟩
theorem z2x.drop{B:Nat}{w:World}{b o:Nat}{ws:List ByteArray}(h:z2x B w (some ⟨b,o,none⟩) ws)(k:Nat):z2x B w (some ⟨b,o+k,none⟩) (ws.drop k):=by
 intro i E;have A:k+i<ws.length:=by simp at E;omega
 obtain⟨G,H,e,C,D⟩:=h (k+i) A;simp only[Option.some.injEq,Addr.mk.injEq,and_true]at e;obtain⟨rfl,rfl⟩:=e;refine⟨b,o+k,rfl,C,?_⟩;rw[List.getElem_drop,Nat.add_assoc];exact D
theorem z2x.some{B:Nat}{w:World}{a:Option Addr}{ws:List ByteArray}(h:z2x B w a ws)(h0:0<ws.length):∃b o,a=some ⟨b,o,none⟩/\b<B:=by
 obtain⟨b,o,e,A,_⟩:=h 0 h0;exact⟨b,o,e,A⟩
abbrev Wds(w:World)(a:Option Addr)(ws:List ByteArray):Prop:=z2x w.heap.size w a ws
theorem Wds.W{w w':World}{a:Option Addr}{ws:List ByteArray}(h:Wds w a ws)(hb:Below w w w'):Wds w' a ws:=(z2x.W h hb).up hb.size
def q1h(B:Nat)(w:World)(a:Option Addr)(ws:List Int):Prop:=
 ∀i(h:i<ws.length),∃b o,a=some ⟨b,o,none⟩/\b<B/\w.cell? ⟨b,o+i,none⟩=some (.int .i64 ws[i])
theorem q1h.W{B:Nat}{w w':World}{a:Option Addr}{ws:List Int}(h:q1h B w a ws)(hb:Below B w w'):q1h B w' a ws:=by
 intro i D;obtain⟨b,o,e,A,C⟩:=h i D;exact⟨b,o,e,A,(hb.cell (p:=⟨b,_,none⟩) A).trans C⟩
theorem q1h.rest{B:Nat}{w:World}{b o:Nat}{x:Int}{ws:List Int}(h:q1h B w (some ⟨b,o,none⟩) (x::ws)):q1h B w (some ⟨b,o+1,none⟩) ws:=by
 intro i E;obtain⟨D,G,e,A,C⟩:=h (i+1) (by simp;omega);simp only[Option.some.injEq,Addr.mk.injEq,and_true]at e;obtain⟨rfl,rfl⟩:=e;refine⟨b,o+1,rfl,A,?_⟩;rw[show o+1+i=o+(i+1) by omega];exact C
theorem q1h.slid{B:Nat}{w:World}{b o cap:Nat}{x:Int}{ws:List Int}(h:q1h B w (some ⟨b,o,none⟩) (x::ws))(hc:ws.length+1<=cap):
  q1h B w (if cap=1 then some ⟨b,o,none⟩else some ⟨b,o+1,none⟩) ws:=by
 by_cases A:cap=1
 ·have:ws=[]:=List.eq_nil_of_length_eq_zero (by omega)
  subst this;exact fun i hi=>by simp at hi
 ·rw[if_neg A];exact h.rest
abbrev q7r(w:World)(a:Option Addr)(ws:List Int):Prop:=q1h w.heap.size w a ws
theorem q1h.up{B B':Nat}{w:World}{a:Option Addr}{ws:List Int}(h:q1h B w a ws)(hB:B<=B'):q1h B' w a ws:=by
 intro i C;obtain⟨b,o,e,D,A⟩:=h i C;exact⟨b,o,e,by omega,A⟩
theorem q7r.W{w w':World}{a:Option Addr}{ws:List Int}(h:q7r w a ws)(hb:Below w w w'):q7r w' a ws:=(q1h.W h hb).up hb.size
theorem y1r(a:Option Addr)(n c k:Nat)(hk:k<=c)(W:World):
  (Instr.slice 58 (.slice a n c) none (some (.int .i64 (k:Int))) none).run prog W=.ok (.slice a k c) W:=by
 rw[run_slice_h W 58 a n c Tryz.underlying58 .i64 (k:Int) (by omega) (by omega)];have A:(sizeOf (prog.elem 58)).run prog W=.ok 1 W:=by kernel_rfl
 rw[A];simp[Result.andThen,sliced,Addr.add]
theorem y1s{B:Nat}{w:World}{b o c k:Nat}{ws:List ByteArray}(h:z2x B w (some ⟨b,o,none⟩) ws)(hk:k<=ws.length)(hc:ws.length<=c):
  ∃A,(∀W:World,(Instr.slice 58 (.slice (some ⟨b,o,none⟩) ws.length c) (some (.int .i64 (k:Int))) none none).run prog W=.ok (.slice A (ws.drop k).length (c-k)) W)/\z2x B w A (ws.drop k):=by
 refine⟨if c=k then some ⟨b,o,none⟩else some ⟨b,o+k,none⟩,fun W=>?_,?_⟩
 ·rw[run_slice_l W 58 _ ws.length c Tryz.underlying58 .i64 (k:Int) (by omega) (by omega)];have D:(sizeOf (prog.elem 58)).run prog W=.ok 1 W:=by kernel_rfl
  rw[D]
  have C:(⟨b,o,none⟩:Addr).add k=⟨b,o+k,none⟩:=by
   unfold Addr.add
   split
   ·rename_i h;subst h;rfl
   ·rfl
  simp[Result.andThen,sliced,C]
 ·by_cases e:c=k
  ·have:ws.drop k=[]:=List.drop_eq_nil_of_le (by omega)
   rw[this];exact z2x.nil _ _ _
  ·rw[if_neg e];exact h.drop k
theorem j9b(b o n c i k:Nat)(hi:i<c)(hk:i+k<=c)(W:World):
  (Instr.slice 58 (.slice (some ⟨b,o,none⟩) n c) (some (.int .i64 (i:Int))) (some (.int .i64 ((i:Int)+(k:Int)))) none).run prog W=.ok (.slice (some ⟨b,o+i,none⟩) k (c-i)) W:=by
 rw[run_slice_lh W 58 _ n c Tryz.underlying58 .i64 .i64 (i:Int) ((i:Int)+(k:Int)) (by omega) (by omega) (by omega)];have E:(sizeOf (prog.elem 58)).run prog W=.ok 1 W:=by kernel_rfl
 rw[E]
 have D:(⟨b,o,none⟩:Addr).add i=⟨b,o+i,none⟩:=by
  unfold Addr.add
  split
  ·rename_i h;subst h;rfl
  ·rfl
 have A:((i:Int)+(k:Int)).toNat=i+k:=by omega
 have B:¬c=i:=by omega
 have C:i+k-i=k:=by omega
 simp[Result.andThen,sliced,D,A,B,C]
theorem z2n:(prog.info? 3).map (fun i=>(i.zero,i.size,i.bytes))=some (some (.int .i64 0),1,8):=by kernel_rfl
theorem z0t:(prog.info? 9).map (fun i=>(i.zero,i.size,i.bytes))=some (some (.string ⟨#[]⟩),1,16):=by kernel_rfl
def z9v(w:World)(b n:Nat):Prop:=∃cs T,w.heap[b]?=some (.cells cs T (0,0))/\cs.size=n
theorem z9v.lt{w:World}{b n:Nat}(h:z9v w b n):b<w.heap.size:=by
 obtain⟨B,T,h,_⟩:=h;rcases Nat.lt_or_ge b w.heap.size with A|A
 ·exact A
 ·simp[Array.getElem?_eq_none A]at h
theorem z9v.cell{w:World}{b n i:Nat}(h:z9v w b n)(hi:i<n):∃y,w.cell? ⟨b,i,none⟩=some y:=by
 obtain⟨A,T,h,B⟩:=h;refine⟨A[i],?_⟩;simp[World.cell?,h]
theorem z9v.frozen{w:World}{b n i:Nat}(h:z9v w b n):w.frozen? ⟨b,i,none⟩=false:=by
 obtain⟨A,T,h,B⟩:=h;simp[World.frozen?,h]
theorem z9v.kept{w w':World}{b n:Nat}(h:z9v w b n)(hb:w'.heap[b]?=w.heap[b]?):z9v w' b n:=by
 obtain⟨A,T,h,B⟩:=h;exact⟨A,T,hb.trans h,B⟩
theorem z9v.set{w:World}{b n c i:Nat}{v:Value}(h:z9v w b n):z9v (w.setCell ⟨c,i,none⟩ v) b n:=by
 by_cases e:c=b
 ·subst e;obtain⟨A,T,h,B⟩:=h;exact⟨A.setIfInBounds i v,T,by simp[World.setCell,Array.getElem?_modify,h],by simpa using B⟩
 ·exact h.kept (Below.heap_setCell _ _ _ _ (Ne.symm e))
theorem k1q{n j:Nat}(z:Value)(h:j<n):(madeCells #[z] n)[j]?=some z:=by
 simp[madeCells,h,Nat.mod_one]
def q2h(ks:List Nat):List Value:=ks.map fun(k:Nat)=>.int .i64 (k:Int)
theorem z2p(a b:List Nat):q2h (a++b)=q2h a++q2h b:=by simp[q2h]
def z1j(B:Nat)(v:Value)(ks:List Nat)(w:World):Prop:=w.ownsRow B 3 1 v ks.length (q2h ks)
theorem q0f{B:Nat}{w w':World}(h:Below B w w')(n:Nat):Below B w (w'.drewN n):=h.trans ⟨rfl,rfl,rfl,Nat.le_refl _,fun _ _=>rfl⟩
theorem j2j{B:Nat}{w w':World}{b1 o1 b2 o2:Nat}{v1 v2:Value}(h:Below B w w')(h1:B<=b1)(h2:B<=b2):Below B w ((w'.setCell ⟨b1,o1,none⟩ v1).setCell ⟨b2,o2,none⟩ v2):=
 (h.setCell (p:=⟨b1,o1,none⟩) h1 _).setCell (p:=⟨b2,o2,none⟩) h2 _
theorem z6t{B:Nat}{w:World}{A:Option Addr}{n c:Nat}{ks:List Nat}(h:z1j B (.slice A n c) ks w)(j:Nat)(hj:j<ks.length):∃g,A=some ⟨g,0,none⟩/\g<w.heap.size/\w.cell? ⟨g,j,none⟩=some (.int .i64 ((ks[j]:Nat):Int)):=by
 rcases h.2 with⟨E,K⟩|⟨g,c,H,E,_,G,I,_,J,C⟩
 ·omega
 ·simp only[Value.slice.injEq]at E;obtain⟨rfl,rfl,rfl⟩:=E;refine⟨g,rfl,(Array.getElem?_eq_some_iff.1 G).1,?_⟩;have D:(q2h ks)[j]?=some (.int .i64 ((ks[j]:Nat):Int)):=by simp[q2h,hj]
  rw[<-C]at D;rw[List.getElem?_take_of_lt (by omega)]at D;simp only[World.cell?,G];simpa using D
theorem q3c{w w':World}{B e A n:Nat}{v:Value}{xs:List Value}(h:w.ownsRow B e A v n xs)(hb:Below w w w'):w'.ownsRow B e A v n xs:=by
 refine⟨h.1,?_⟩;rcases h.2 with G|⟨g,c,D,rfl,H,E,C⟩
 ·exact .inl G
 ·exact .inr ⟨g,c,D,rfl,H,(hb.block g (Array.getElem?_eq_some_iff.1 E).1).trans E,C⟩
def strCells(xs:List ByteArray):List Value:=xs.map fun x=>.string x
theorem q2f(a b:List ByteArray):strCells (a++b)=strCells a++strCells b:=by simp[strCells]
def q2g(B:Nat)(v:Value)(xs:List ByteArray)(w:World):Prop:=w.ownsRow B 9 1 v xs.length (strCells xs)
theorem q4i{B:Nat}{w:World}{A:Option Addr}{n c:Nat}{xs:List ByteArray}(h:q2g B (.slice A n c) xs w):Wds w A xs:=by
 intro j I;rcases h.2 with⟨E,L⟩|⟨g,c,H,E,_,G,J,_,K,C⟩
 ·omega
 ·simp only[Value.slice.injEq]at E;obtain⟨rfl,rfl,rfl⟩:=E;refine⟨g,0,rfl,(Array.getElem?_eq_some_iff.1 G).1,?_⟩;have D:(strCells xs)[j]?=some (.string xs[j]):=by simp[strCells,I]
  rw[<-C]at D;rw[List.getElem?_take_of_lt (by omega)]at D;rw[Nat.zero_add];simp only[World.cell?,G];simpa using D
theorem j8k{w:World}{B e A n k:Nat}{v:Value}{xs:List Value}(h:w.ownsRow B e A v n xs)(hk:v.ownBlock=some k):∃cur,w.heap[k]?=some (.cells cur e (0,0)):=by
 rcases h.2 with⟨rfl,_⟩|⟨g,c,cur,rfl,_,C,_⟩
 ·simp[Value.ownBlock]at hk
 ·simp only[Value.ownBlock,Option.some.injEq]at hk;subst hk;exact⟨cur,C⟩
theorem z2c{w w':World}{B B' e e' A C n n':Nat}{v v':Value}{xs D:List Value}(h:w.ownsRow B e A v n xs)(h':w.ownsRow B' e' C v' n' D)(he:e≠e')(hg:w.grownBy w' v'.ownBlock):w'.ownsRow B e A v n xs:=by
 refine h.kept hg ?_;cases H:v.ownBlock with
 | none=>exact .inl rfl
 | some k=>
  refine .inr fun e0=>?_
  obtain⟨I,G⟩:=j8k h H;obtain⟨J,E⟩:=j8k h' e0.symm;rw[G]at E;cases E;exact he rfl
def Tds(w:World)(a:Option Addr)(ds:List Td):Prop:=
 ∀i(h:i<ds.length),∃b o,a=some ⟨b,o,none⟩/\b<w.heap.size/\w.cell? ⟨b,o+i*3,none⟩=some (.int .i64 ds[i].op)/\w.cell? ⟨b,o+i*3+1,none⟩=some (.string ds[i].tx)/\w.cell? ⟨b,o+i*3+2,none⟩=some (.int .i64 ds[i].n)
theorem Tds.W{w w':World}{a:Option Addr}{ds:List Td}(h:Tds w a ds)(hb:Below w w w'):Tds w' a ds:=by
 intro i G;obtain⟨b,o,e,A,C,D,E⟩:=h i G;obtain⟨B,_⟩:=q1y hb
 have:=hb.size
 exact⟨b,o,e,by omega,(B _ _ A).trans C,(B _ _ A).trans D,(B _ _ A).trans E⟩
theorem Tds.alloc{w:World}{a:Option Addr}{ds:List Td}(h:Tds w a ds)(o:Obj):Tds (w.alloc o) a ds:=h.W (Zb.alloc Zl _)
theorem Tds.nil(w:World)(a:Option Addr):Tds w a []:=fun i hi=>by simp at hi
abbrev tdV(x:Td):Value:=.agg #[.int .i64 x.op,.string x.tx,.int .i64 x.n]
def z8f(o:Option Nat):Int:=match o with|some j=>j|none=>-1
def kdZ(x:Td):Int:=if x.op=3\/x.op=4 then x.n else(kdT x:Int)
theorem v7g{x:Td}(h:q0p x=0):kdZ x=(kdT x:Int):=by
 unfold kdZ
 split
 ·rename_i h1;rw[kdT,if_pos h1];unfold q0p at h
  split at h
  ·cases h
  ·split at h
   ·cases h
   ·omega
 ·rfl
theorem q6j(c:UInt8)(w:World):Calls prog 53 #[.int .u8 (c.toNat:Int)] w fun e w'=>e=.returned (.bool (q2b c))/\w=w':=by
 by_cases B:(97:Int)<=(c.toNat:Int)
 ·by_cases C:(c.toNat:Int)<=122
  ·have A:Hid (q2b c=true):=by show q2b c=true;simp[q2b];omega
   go_in;go_wp2;go_ret;exact⟨by rw[A.o];rfl,rfl⟩
  ·have A:Hid (q2b c=false):=by show q2b c=false;simp[q2b];omega
   go_in;go_wp2;go_ret;exact⟨by rw[A.o];rfl,rfl⟩
 ·have A:Hid (q2b c=false):=by show q2b c=false;simp[q2b];omega
  go_in;go_wp2;go_ret;exact⟨by rw[A.o];rfl,rfl⟩
set_option maxHeartbeats 2000000
theorem j0h(x:Td)(w:World):Calls prog 54 #[tdV x] w fun e w'=>e=.returned (.int .i64 (kdZ x))/\Below w w w':=by
 obtain⟨A,J,n⟩:=x;have B:∀O:Obj,Below w w (w.alloc O):=fun O=>(Below.refl _ w).alloc Zl O
 by_cases C:A=3
 ·subst C;go_in;go_wp2;go_ret;exact⟨by simp[kdZ],B _⟩
 by_cases D:A=4
 ·subst D;go_in;go_wp2;go_ret;exact⟨by simp[kdZ],B _⟩
 by_cases E:A=5
 ·subst E;go_in;go_wp2;go_ret;exact⟨by simp[kdZ,kdT],B _⟩
 by_cases G:A=6
 ·subst G;go_in;go_wp2;go_ret;exact⟨by simp[kdZ,kdT],B _⟩
 by_cases H:A=7
 ·subst H;go_in;go_wp2;go_ret;exact⟨by simp[kdZ,kdT],B _⟩
 by_cases I:A=8
 ·subst I;go_in;go_wp2;go_ret;exact⟨by simp[kdZ,kdT],B _⟩
 have K:Hid (kdZ ⟨A,J,n⟩=0):=by show kdZ ⟨A,J,n⟩=0;simp[kdZ,kdT,C,D,E,G,H,I]
 have L:(A==3)=false:=by simp[C]
 have M:(A==4)=false:=by simp[D]
 have N:(A==5)=false:=by simp[E]
 have P:(A==6)=false:=by simp[G]
 have Q:(A==7)=false:=by simp[H]
 have R:(A==8)=false:=by simp[I]
 clear C D E G H I;go_in;go_wp2;go_ret;exact⟨by rw[K.o];rfl,B _⟩
theorem z4r(ds:List Td)(a:Option Addr)(cap:Nat)(hl:ds.length<=400)(hk:∀x∈ds,q0p x=0):∀(f i:Nat)(w:World),Tds w a ds->ds.length-i<f->i<=1000->
  Calls prog 24 #[.slice a ds.length cap,.int .i64 i] w fun e w'=>e=.returned (.int .i64 (z8f (q3p ds i 1)))/\Below w w w':=by
 have S:Hid (∀x∈ds,q0p x=0):=hk;clear hk;intro f
 induction f with
 | zero=>intro i w _ h;omega
 | succ f ih=>
  intro i w X hf hi;have U:Hid (Tds w a ds):=X
  have d:Hid (∀(i:Nat)(w:World),Tds w a ds->ds.length-i<f->i<=1000->
   Calls prog 24 #[.slice a ds.length cap,.int .i64 i] w fun e w'=>e=.returned (.int .i64 (z8f (q3p ds i 1)))/\Below w w w'):=ih
  clear X ih;by_cases C:i<ds.length
  ·obtain⟨b,o,s,hb,l,n,r⟩:=U.o i C;have M:Hid (q3p ds i 1=q3p ds (i+1) (kdT ds[i])):=z3w _ _ 0 C;have P:=v7f (S.o _ (List.getElem_mem C));have H:Hid (kdZ ds[i]=(kdT ds[i]:Int)):=v7g (S.o _ (List.getElem_mem C));have t:(i:Int)<(ds.length:Int):=by omega
   have N:¬(ds.length:Int)<=(i:Int):=by omega
   subst s;generalize ds[i]=x at l n r M P H;generalize Q:kdT x=p at M P H;clear Q;obtain⟨Z,c,Y⟩:=x
   have L:Hid (∀W:World,Calls prog 54 #[.agg #[.int .i64 Z,.string c,.int .i64 Y]] W fun e w'=>e=.returned (.int .i64 (p:Int))/\Below W W w'):=fun W=>by
    have:=j0h ⟨Z,c,Y⟩ W
    rw[H.o]at this;exact this
   clear H;go_in;go_wp2_with fail;refine(L.o _).mono ?_;rintro e w1⟨rfl,g⟩;go_wp2_with fail
   go_loopw [1,5] (fun z m wr=>Below w w wr/\∃q:Nat,q<=6/\m=.int .i64 q/\((∃k:Nat,i<k/\k<=ds.length/\z=.int .i64 k/\q3p ds i 1=q3p ds k q)\/(z=.int .i64 (-1)/\q3p ds i 1=none))) (fun _ m _=>(intOf m).toNat)
   case atStart=>exact⟨g,p,P,rfl,.inl ⟨i+1,by omega,by omega,by go_num,M.o⟩⟩
   case round=>
    obtain⟨B,q,hq,rfl,⟨k,v,y,rfl,E⟩|⟨rfl,E⟩⟩:=hrel
    ·have D:Hid (q3p ds i 1=q3p ds k q):=E;have A:Hid (Below w w wr):=B;clear E B;by_cases I:q=0
     ·subst I;have K:Hid (q3p ds i 1=some k):=D.o.trans (k0q _ _);go_wp2;go_ret;exact⟨by rw[K.o];rfl,A.o⟩
     ·obtain⟨G,rfl⟩:∃G,q=G+1:=⟨q-1,by omega⟩;have R:Hid (q3p ds i 1=(q3p ds k 1).bind fun j=>q3p ds j G):=D.o.trans (by rw[Nat.add_comm G 1,v2f]);clear I;go_wp2_with fail;refine(d.o k _ (U.o.W A.o) (by omega) (by omega)).mono ?_;rintro e w2⟨rfl,V⟩;have J:Hid (Below w w w2):=q0d A.o Zl V;clear V;go_wp2
      go_roundw
      case rel=>
       refine⟨J.o,G,by omega,by go_num,?_⟩;cases O:q3p ds k 1 with
       | none=>exact .inr ⟨rfl,by rw[R.o,O];rfl⟩
       | some j=>
        have u:=y0a O;exact .inl ⟨j,by omega,by omega,rfl,by rw[R.o,O];rfl⟩
      case measure=>simp[intOf]
    ·have D:Hid (q3p ds i 1=none):=E;have A:Hid (Below w w wr):=B;clear E B;by_cases I:q=0
     ·subst I;go_wp2;go_ret;exact⟨by rw[D.o];rfl,A.o⟩
     ·go_wp2;go_ret;exact⟨by rw[D.o];rfl,A.o⟩
  ·have D:Hid (q3p ds i 1=none):=q8o _ _ _ (by omega);have N:(ds.length:Int)<=(i:Int):=by omega
   go_in;go_wp2;go_ret;exact⟨by rw[D.o];rfl,Below.refl _ _⟩
theorem z6x(ws:List ByteArray)(a:Option Addr)(cap:Nat)(w:World)(hW:Wds w a ws):
  Calls prog 21 #[.slice a ws.length cap] w fun e w'=>e=.returned (.int .i64 (q1b ws))/\w=w':=by
 have P:Hid (Wds w a ws):=hW;clear hW;by_cases b:60<(ws.length:Int)
 ·have A:Hid (q1b ws=3):=q7m (by omega);go_in;go_wp2;go_ret;exact⟨by rw[A.o];rfl,rfl⟩
 go_in;go_wp2
 go_loopw [3] (fun i wr=>wr=w/\∃k:Nat,k<=ws.length/\i=.int .i64 k/\∀j(h:j<ws.length),j<k->okW ws[j]=true) (fun i _=>ws.length-(intOf i).toNat)
 case atStart=>exact⟨rfl,0,Nat.zero_le _,rfl,fun j _ M=>by omega⟩
 case round=>
  obtain⟨rfl,k,c,rfl,E⟩:=hrel;have N:Hid (∀j(h:j<ws.length),j<k->okW ws[j]=true):=E;clear E;by_cases J:k<ws.length
  ·obtain⟨X,f,R,S,Q⟩:=P.o k J;subst R;have V:(k:Int)<(ws.length:Int):=by omega
   have I:Hid (okW ws[k]=true->∀j(h:j<ws.length),j<k+1->okW ws[j]=true):=fun C j h M=>by
    by_cases G:j=k
    ·subst G;exact C
    ·exact N.o j h (by omega)
   have D:Hid (okW ws[k]=false->q1b ws=5):=fun C=>z7h (by omega) J C
   generalize ws[k]=s at Q I D;by_cases Y:(s.size:Int)<1
   ·have A:Hid (q1b ws=5):=D.o (by simp[okW];omega);go_wp2;go_ret;exact⟨by rw[A.o];rfl,rfl⟩
   by_cases Z:20<(s.size:Int)
   ·have A:Hid (q1b ws=5):=D.o (by simp[okW];omega);go_wp2;go_ret;exact⟨by rw[A.o];rfl,rfl⟩
   go_wp2
   go_loopw [4] (fun i wx=>wx=wr/\∃m:Nat,m<=s.size/\i=.int .i64 m/\∀j(h:j<s.size),j<m->q8h s[j]=true) (fun i _=>s.size-(intOf i).toNat)
   case atStart=>exact⟨rfl,0,Nat.zero_le _,rfl,fun j _ M=>by omega⟩
   case round=>
    obtain⟨rfl,m,d,rfl,B⟩:=hrel;have H:Hid (∀j(h:j<s.size),j<m->q8h s[j]=true):=B;clear B;by_cases K:m<s.size
    ·have W:(m:Int)<(s.size:Int):=by omega
     cases C:q8h s[m]with
     | false=>
      have A:Hid (q1b ws=5):=D.o (j8b K C);have L:=z5g C;clear C;rcases L with L|⟨L,U⟩
      ·go_wp2;go_ret;exact⟨by rw[A.o];rfl,rfl⟩
      ·go_wp2;go_ret;exact⟨by rw[A.o];rfl,rfl⟩
     | true=>
      have O:Hid (q8h s[m]=true):=C;obtain⟨L,U⟩:=z7f C;clear C;go_wp2
      go_roundw
      case rel=>
       refine⟨by trivial,m+1,by omega,by go_num,?_⟩;intro j h M;by_cases G:j=m
       ·subst G;exact O.o
       ·exact H.o j h (by omega)
      case measure=>simp[intOf];omega
    ·have A:Hid (∀j(h:j<ws.length),j<k+1->okW ws[j]=true):=I.o (k7h (by omega) (by omega) fun j h=>H.o j h (by omega));go_wp2
     go_roundw
     case rel=>exact⟨by trivial,k+1,by omega,by go_num,A.o⟩
     case measure=>simp[intOf];omega
  ·have A:Hid (q1b ws=0):=z7g (by omega) fun j h=>N.o j h (by omega)
   go_wp2;go_ret;exact⟨by rw[A.o];rfl,rfl⟩
theorem v7m{op:Int}{tx:ByteArray}{n:Int}(_h0:op<1):q0p ⟨op,tx,n⟩=1:=by
 unfold q0p
 (repeat' split)<;>first|rfl|(exfalso;omega)|(exfalso;simp_all;done)|(exfalso;simp_all<;>omega)|(simp_all;done)
theorem v7n{op:Int}{tx:ByteArray}{n:Int}(_h0:¬op<1)(_h1:9<op):q0p ⟨op,tx,n⟩=1:=by
 unfold q0p
 (repeat' split)<;>first|rfl|(exfalso;omega)|(exfalso;simp_all;done)|(exfalso;simp_all<;>omega)|(simp_all;done)
theorem v7o{tx:ByteArray}{n:Int}(_h0:n<0):q0p ⟨1,tx,n⟩=1:=by
 have A:q2u 1=false:=rfl;unfold q0p
 (repeat' split)<;>first|rfl|(exfalso;omega)|(exfalso;simp_all;done)|(exfalso;simp_all<;>omega)|(simp_all;done)
theorem v7p{tx:ByteArray}{n:Int}(_h0:¬n<0)(_h1:999999<n):q0p ⟨1,tx,n⟩=1:=by
 have A:q2u 1=false:=rfl;unfold q0p
 (repeat' split)<;>first|rfl|(exfalso;omega)|(exfalso;simp_all;done)|(exfalso;simp_all<;>omega)|(simp_all;done)
theorem v7q{tx:ByteArray}{n:Int}(_h0:¬n<0)(_h1:¬999999<n)(_h2:0<(tx.size:Int)):q0p ⟨1,tx,n⟩=2:=by
 have A:q2u 1=false:=rfl;unfold q0p
 (repeat' split)<;>first|rfl|(exfalso;omega)|(exfalso;simp_all;done)|(exfalso;simp_all<;>omega)|(simp_all;done)
theorem v7r{tx:ByteArray}{n:Int}(_h0:¬n<0)(_h1:¬999999<n)(_h2:¬0<(tx.size:Int)):q0p ⟨1,tx,n⟩=0:=by
 have A:q2u 1=false:=rfl;unfold q0p
 (repeat' split)<;>first|rfl|(exfalso;omega)|(exfalso;simp_all;done)|(exfalso;simp_all<;>omega)|(simp_all;done)
theorem v7s{tx:ByteArray}{n:Int}(_h0:¬n=0):q0p ⟨2,tx,n⟩=2:=by
 have A:q2u 2=true:=rfl;unfold q0p
 (repeat' split)<;>first|rfl|(exfalso;omega)|(exfalso;simp_all;done)|(exfalso;simp_all<;>omega)|(simp_all;done)
theorem v7t{tx:ByteArray}{n:Int}(_h0:n=0)(_h1:q0o tx=true):q0p ⟨2,tx,n⟩=0:=by
 have A:q2u 2=true:=rfl;unfold q0p
 (repeat' split)<;>first|rfl|(exfalso;omega)|(exfalso;simp_all;done)|(exfalso;simp_all<;>omega)|(simp_all;done)
theorem v7u{tx:ByteArray}{n:Int}(_h0:n=0)(_h1:q0o tx=false):q0p ⟨2,tx,n⟩=5:=by
 have A:q2u 2=true:=rfl;unfold q0p
 (repeat' split)<;>first|rfl|(exfalso;omega)|(exfalso;simp_all;done)|(exfalso;simp_all<;>omega)|(simp_all;done)
theorem v7v{tx:ByteArray}{n:Int}(_h0:n<0):q0p ⟨3,tx,n⟩=1:=by
 have A:q2u 3=true:=rfl;unfold q0p
 (repeat' split)<;>first|rfl|(exfalso;omega)|(exfalso;simp_all;done)|(exfalso;simp_all<;>omega)|(simp_all;done)
theorem j6r{tx:ByteArray}{n:Int}(_h0:¬n<0)(_h1:6<n):q0p ⟨3,tx,n⟩=1:=by
 have A:q2u 3=true:=rfl;unfold q0p
 (repeat' split)<;>first|rfl|(exfalso;omega)|(exfalso;simp_all;done)|(exfalso;simp_all<;>omega)|(simp_all;done)
theorem j6s{tx:ByteArray}{n:Int}(_h0:¬n<0)(_h1:¬6<n)(_h2:q0o tx=true):q0p ⟨3,tx,n⟩=0:=by
 have A:q2u 3=true:=rfl;unfold q0p
 (repeat' split)<;>first|rfl|(exfalso;omega)|(exfalso;simp_all;done)|(exfalso;simp_all<;>omega)|(simp_all;done)
theorem j6t{tx:ByteArray}{n:Int}(_h0:¬n<0)(_h1:¬6<n)(_h2:q0o tx=false):q0p ⟨3,tx,n⟩=5:=by
 have A:q2u 3=true:=rfl;unfold q0p
 (repeat' split)<;>first|rfl|(exfalso;omega)|(exfalso;simp_all;done)|(exfalso;simp_all<;>omega)|(simp_all;done)
theorem j6u{tx:ByteArray}{n:Int}(_h0:n<0):q0p ⟨4,tx,n⟩=1:=by
 have A:q2u 4=false:=rfl;unfold q0p
 (repeat' split)<;>first|rfl|(exfalso;omega)|(exfalso;simp_all;done)|(exfalso;simp_all<;>omega)|(simp_all;done)
theorem j6v{tx:ByteArray}{n:Int}(_h0:¬n<0)(_h1:6<n):q0p ⟨4,tx,n⟩=1:=by
 have A:q2u 4=false:=rfl;unfold q0p
 (repeat' split)<;>first|rfl|(exfalso;omega)|(exfalso;simp_all;done)|(exfalso;simp_all<;>omega)|(simp_all;done)
theorem j6w{tx:ByteArray}{n:Int}(_h0:¬n<0)(_h1:¬6<n)(_h2:0<(tx.size:Int)):q0p ⟨4,tx,n⟩=2:=by
 have A:q2u 4=false:=rfl;unfold q0p
 (repeat' split)<;>first|rfl|(exfalso;omega)|(exfalso;simp_all;done)|(exfalso;simp_all<;>omega)|(simp_all;done)
theorem j6x{tx:ByteArray}{n:Int}(_h0:¬n<0)(_h1:¬6<n)(_h2:¬0<(tx.size:Int)):q0p ⟨4,tx,n⟩=0:=by
 have A:q2u 4=false:=rfl;unfold q0p
 (repeat' split)<;>first|rfl|(exfalso;omega)|(exfalso;simp_all;done)|(exfalso;simp_all<;>omega)|(simp_all;done)
theorem j6y{tx:ByteArray}{n:Int}(_h0:¬n=0):q0p ⟨5,tx,n⟩=2:=by
 have A:q2u 5=false:=rfl;unfold q0p
 (repeat' split)<;>first|rfl|(exfalso;omega)|(exfalso;simp_all;done)|(exfalso;simp_all<;>omega)|(simp_all;done)
theorem j6z{tx:ByteArray}{n:Int}(_h0:n=0)(_h1:0<(tx.size:Int)):q0p ⟨5,tx,n⟩=2:=by
 have A:q2u 5=false:=rfl;unfold q0p
 (repeat' split)<;>first|rfl|(exfalso;omega)|(exfalso;simp_all;done)|(exfalso;simp_all<;>omega)|(simp_all;done)
theorem j7a{tx:ByteArray}{n:Int}(_h0:n=0)(_h1:¬0<(tx.size:Int)):q0p ⟨5,tx,n⟩=0:=by
 have A:q2u 5=false:=rfl;unfold q0p
 (repeat' split)<;>first|rfl|(exfalso;omega)|(exfalso;simp_all;done)|(exfalso;simp_all<;>omega)|(simp_all;done)
theorem j7b{tx:ByteArray}{n:Int}(_h0:¬n=0):q0p ⟨6,tx,n⟩=2:=by
 have A:q2u 6=false:=rfl;unfold q0p
 (repeat' split)<;>first|rfl|(exfalso;omega)|(exfalso;simp_all;done)|(exfalso;simp_all<;>omega)|(simp_all;done)
theorem j7c{tx:ByteArray}{n:Int}(_h0:n=0)(_h1:0<(tx.size:Int)):q0p ⟨6,tx,n⟩=2:=by
 have A:q2u 6=false:=rfl;unfold q0p
 (repeat' split)<;>first|rfl|(exfalso;omega)|(exfalso;simp_all;done)|(exfalso;simp_all<;>omega)|(simp_all;done)
theorem j7d{tx:ByteArray}{n:Int}(_h0:n=0)(_h1:¬0<(tx.size:Int)):q0p ⟨6,tx,n⟩=0:=by
 have A:q2u 6=false:=rfl;unfold q0p
 (repeat' split)<;>first|rfl|(exfalso;omega)|(exfalso;simp_all;done)|(exfalso;simp_all<;>omega)|(simp_all;done)
theorem j7e{tx:ByteArray}{n:Int}(_h0:¬n=0):q0p ⟨7,tx,n⟩=2:=by
 have A:q2u 7=true:=rfl;unfold q0p
 (repeat' split)<;>first|rfl|(exfalso;omega)|(exfalso;simp_all;done)|(exfalso;simp_all<;>omega)|(simp_all;done)
theorem j7f{tx:ByteArray}{n:Int}(_h0:n=0)(_h1:q0o tx=true):q0p ⟨7,tx,n⟩=0:=by
 have A:q2u 7=true:=rfl;unfold q0p
 (repeat' split)<;>first|rfl|(exfalso;omega)|(exfalso;simp_all;done)|(exfalso;simp_all<;>omega)|(simp_all;done)
theorem j7g{tx:ByteArray}{n:Int}(_h0:n=0)(_h1:q0o tx=false):q0p ⟨7,tx,n⟩=5:=by
 have A:q2u 7=true:=rfl;unfold q0p
 (repeat' split)<;>first|rfl|(exfalso;omega)|(exfalso;simp_all;done)|(exfalso;simp_all<;>omega)|(simp_all;done)
theorem j7h{tx:ByteArray}{n:Int}(_h0:¬n=0):q0p ⟨8,tx,n⟩=2:=by
 have A:q2u 8=false:=rfl;unfold q0p
 (repeat' split)<;>first|rfl|(exfalso;omega)|(exfalso;simp_all;done)|(exfalso;simp_all<;>omega)|(simp_all;done)
theorem j7i{tx:ByteArray}{n:Int}(_h0:n=0)(_h1:0<(tx.size:Int)):q0p ⟨8,tx,n⟩=2:=by
 have A:q2u 8=false:=rfl;unfold q0p
 (repeat' split)<;>first|rfl|(exfalso;omega)|(exfalso;simp_all;done)|(exfalso;simp_all<;>omega)|(simp_all;done)
theorem j7j{tx:ByteArray}{n:Int}(_h0:n=0)(_h1:¬0<(tx.size:Int)):q0p ⟨8,tx,n⟩=0:=by
 have A:q2u 8=false:=rfl;unfold q0p
 (repeat' split)<;>first|rfl|(exfalso;omega)|(exfalso;simp_all;done)|(exfalso;simp_all<;>omega)|(simp_all;done)
theorem j7k{tx:ByteArray}{n:Int}(_h0:¬n=0):q0p ⟨9,tx,n⟩=2:=by
 have A:q2u 9=true:=rfl;unfold q0p
 (repeat' split)<;>first|rfl|(exfalso;omega)|(exfalso;simp_all;done)|(exfalso;simp_all<;>omega)|(simp_all;done)
theorem j7l{tx:ByteArray}{n:Int}(_h0:n=0)(_h1:q2x tx=0):q0p ⟨9,tx,n⟩=0:=by
 have A:q2u 9=true:=rfl;unfold q0p
 (repeat' split)<;>first|rfl|(exfalso;omega)|(exfalso;simp_all;done)|(exfalso;simp_all<;>omega)|(simp_all;done)
theorem j7m{tx:ByteArray}{n:Int}(_h0:n=0)(_h1:¬q2x tx=0):q0p ⟨9,tx,n⟩=q2x tx:=by
 have A:q2u 9=true:=rfl;unfold q0p
 (repeat' split)<;>first|rfl|(exfalso;omega)|(exfalso;simp_all;done)|(exfalso;simp_all<;>omega)|(simp_all;done)
theorem z7b{ds:List Td}(h:40<ds.length):q0b ds=3:=by rw[q0b,if_pos h]
theorem z7c{ds:List Td}{k:Nat}(hl:ds.length<=40)(hk:k<ds.length)(ha:∀x∈ds.take k,q0p x=0)(h:q0p ds[k]≠0):q0b ds=q0p ds[k]:=by
 have e:=j4x ds k hk ha h;rw[q0b,if_neg (by omega),if_pos (by rw[e];exact h),e]
theorem z0y{ds:List Td}(hl:ds.length<=40)(ha:∀x∈ds,q0p x=0):q0b ds=if q3p ds 0 1=some ds.length/\k5h ds=true then 0 else 2:=by
 rw[q0b,if_neg (by omega),if_neg (by rw[k6p ds ha];simp)]
theorem z7a{ds:List Td}{k:Nat}(h:k<ds.length)(ha:∀x∈ds.take k,q0p x=0)(h0:q0p ds[k]=0):∀x∈ds.take (k+1),q0p x=0:=by
 intro x A;rw[List.take_succ_eq_append_getElem h]at A;rcases List.mem_append.1 A with A|A
 ·exact ha x A
 ·simp at A;subst A;exact h0
theorem k7y{ds:List Td}:k5h ds=true↔∀k(h:k<ds.length),decide (7<=ds[k].op)=decide (k=0):=by
 cases ds with
 | nil=>simp[k5h]
 | cons x r=>
  simp only[k5h,Bool.and_eq_true,decide_eq_true_eq,List.all_eq_true];constructor
  ·rintro⟨C,D⟩k A;cases k with
   | zero=>simpa using C
   | succ k=>
    have:=D (r[k]'(by simpa using A)) (List.getElem_mem _)
    simp only[List.getElem_cons_succ,Nat.add_eq_zero_iff,Nat.one_ne_zero,and_false,decide_false,decide_eq_false_iff_not];omega
  ·intro h;have B:=h 0 (by simp);simp only[List.getElem_cons_zero,decide_true,decide_eq_true_eq]at B;refine⟨B,fun y hy=>?_⟩;obtain⟨k,A,rfl⟩:=List.getElem_of_mem hy
   have:=h (k+1) (by simpa using A)
   simp at this;omega
end Go.Proofs.YtfdppahhbpfnoaaGreatDoor
