import Derived.Test.YtfdppahhbpfnoaaGreatDoorPi26
import Derived.Test.YtfdppahhbpfnoaaGreatDoorPi27
import Derived.Test.YtfdppahhbpfnoaaGreatDoorShf
import Derived.Test.YtfdppahhbpfnoaaGreatDoorPi23
import Derived.Test.YtfdppahhbpfnoaaGreatDoorRep
open Go.Proofs.Tryz
namespace Go.Proofs.YtfdppahhbpfnoaaGreatDoor
open Go Go.RowKit
set_option maxRecDepth 100000
set_option maxHeartbeats 2000000
def DcH(ds:List Td)(a:Option Addr)(cap:Nat)(F:Fo)(D:Tr):Prop:=∀i r,ds.drop i=F.N++r->∀W:World,Tds W a ds->v8p ds a cap i D W
def DcA(ds:List Td)(a:Option Addr)(cap:Nat):Fo->Prop
 | .nil=>True
 | .cons x k n=>DcH ds a cap (.cons x k n) (q0l x k.D)/\DcA ds a cap n
def j1q(w:World)(b:Nat)(o:Int)(t:ByteArray)(n:Int):Prop:=b<w.heap.size/\w.cell? ⟨b,0,none⟩=some (.int .i64 o)/\w.cell? ⟨b,1,none⟩=some (.string t)/\w.cell? ⟨b,2,none⟩=some (.int .i64 n)
theorem j1q.W{w w':World}{b:Nat}{o:Int}{t:ByteArray}{n:Int}(h:j1q w b o t n)(hb:Below w w w'):j1q w' b o t n:=by
 obtain⟨A,B,C,D⟩:=h
 have:=hb.size
 exact⟨by omega,((q1y hb).1 _ _ A).trans B,((q1y hb).1 _ _ A).trans C,((q1y hb).1 _ _ A).trans D⟩
theorem j1q.new(w:World)(o:Int)(t:ByteArray)(n:Int)(ty:TypeId):j1q (w.alloc (.cells #[.int .i64 o,.string t,.int .i64 n] ty)) w.heap.size o t n:=by
 have A:(w.alloc (.cells #[.int .i64 o,.string t,.int .i64 n] ty)).heap[w.heap.size]?=some (.cells #[.int .i64 o,.string t,.int .i64 n] ty (0,0)):=by
  show(w.heap.push _)[w.heap.size]?=_
  simp
 have B:∀k,(w.alloc (.cells #[.int .i64 o,.string t,.int .i64 n] ty)).cell? ⟨w,k,none⟩=(match (w.alloc (.cells #[.int .i64 o,.string t,.int .i64 n] ty)).heap[w.heap.size]? with
  | some (.cells c _ _)=>c[k]?
  | _=>none):=fun _=>rfl
 exact⟨by rw[World.size_alloc];omega,by rw[B,A];rfl,by rw[B,A];rfl,by rw[B,A];rfl⟩
structure q1d(W:World)(x:Td)(w:World):Prop where
 b:Below W W w
 n:j1q w W.heap.size x.op x.tx x.n
 bl:NdV w (.slice (some ⟨W.heap.size+1,0,none⟩) 1 1) [⟨2,⟨#[]⟩,0⟩]
 sf:NdV w (.slice (some ⟨W.heap.size+1+1,0,none⟩) 1 1) [⟨3,⟨#[]⟩,0⟩]
 gr:j1q w (W.heap.size+1+1+1) 8 ⟨#[]⟩ 0
 dp:j1q w (W.heap.size+1+1+1+1) 7 ⟨#[]⟩ 2
theorem q1d.W{W:World}{x:Td}{w w':World}(h:q1d W x w)(hb:Below w w w'):q1d W x w':=
 ⟨q0d h.b Zl hb,h.n.W hb,h.bl.W hb,h.sf.W hb,h.gr.W hb,h.dp.W hb⟩
abbrev dcW(W:World)(o:Int)(t:ByteArray)(n:Int):World:=((((W.alloc (.cells #[.int .i64 o,.string t,.int .i64 n] 47)).alloc (.cells #[.int .i64 2,.string ⟨#[]⟩,.int .i64 0] 107)).alloc (.cells #[.int .i64 3,.string ⟨#[]⟩,.int .i64 0] 107)).alloc (.cells #[.int .i64 8,.string ⟨#[]⟩,.int .i64 0] 107)).alloc (.cells #[.int .i64 7,.string ⟨#[]⟩,.int .i64 2] 107)
theorem k0o(W:World)(x:Td):q1d W x (dcW W x.op x.tx x.n):=by
 have s:∀(w:World)(O:Obj),Below w w (w.alloc O):=fun w O=>(Below.refl _ w).alloc Zl O
 have G:=((((j1q.new W x.op x.tx x.n 47).W (s _ (.cells #[.int .i64 2,.string ⟨#[]⟩,.int .i64 0] 107))).W (s _ (.cells #[.int .i64 3,.string ⟨#[]⟩,.int .i64 0] 107))).W (s _ (.cells #[.int .i64 8,.string ⟨#[]⟩,.int .i64 0] 107))).W (s _ (.cells #[.int .i64 7,.string ⟨#[]⟩,.int .i64 2] 107));generalize M:Obj.cells #[.int .i64 x.op,.string x.tx,.int .i64 x.n] 47=O at G;have I:(W.alloc O).heap.size=W.heap.size+1:=World.size_alloc _ _;have C:=(q6c.one (W.alloc O) ⟨2,⟨#[]⟩,0⟩).val;have J:((W.alloc O).alloc (.cells #[.int .i64 2,.string ⟨#[]⟩,.int .i64 0] 107)).heap.size=W.heap.size+1+1:=by rw[World.size_alloc,I]
 rw[I]at C;have A:=((C.W (s _ (.cells #[.int .i64 3,.string ⟨#[]⟩,.int .i64 0] 107))).W (s _ (.cells #[.int .i64 8,.string ⟨#[]⟩,.int .i64 0] 107))).W (s _ (.cells #[.int .i64 7,.string ⟨#[]⟩,.int .i64 2] 107));have H:=(q6c.one ((W.alloc O).alloc (.cells #[.int .i64 2,.string ⟨#[]⟩,.int .i64 0] 107)) ⟨3,⟨#[]⟩,0⟩).val;rw[J]at H;have K:(((W.alloc O).alloc (.cells #[.int .i64 2,.string ⟨#[]⟩,.int .i64 0] 107)).alloc (.cells #[.int .i64 3,.string ⟨#[]⟩,.int .i64 0] 107)).heap.size=W.heap.size+1+1+1:=by rw[World.size_alloc,J]
 have B:=(H.W (s _ (.cells #[.int .i64 8,.string ⟨#[]⟩,.int .i64 0] 107))).W (s _ (.cells #[.int .i64 7,.string ⟨#[]⟩,.int .i64 2] 107));have E:=j1q.new (((W.alloc O).alloc (.cells #[.int .i64 2,.string ⟨#[]⟩,.int .i64 0] 107)).alloc (.cells #[.int .i64 3,.string ⟨#[]⟩,.int .i64 0] 107)) 8 ⟨#[]⟩ 0 107;rw[K]at E;have N:((((W.alloc O).alloc (.cells #[.int .i64 2,.string ⟨#[]⟩,.int .i64 0] 107)).alloc (.cells #[.int .i64 3,.string ⟨#[]⟩,.int .i64 0] 107)).alloc (.cells #[.int .i64 8,.string ⟨#[]⟩,.int .i64 0] 107)).heap.size=W.heap.size+1+1+1+1:=by rw[World.size_alloc,K]
 have D:=j1q.new ((((W.alloc O).alloc (.cells #[.int .i64 2,.string ⟨#[]⟩,.int .i64 0] 107)).alloc (.cells #[.int .i64 3,.string ⟨#[]⟩,.int .i64 0] 107)).alloc (.cells #[.int .i64 8,.string ⟨#[]⟩,.int .i64 0] 107)) 7 ⟨#[]⟩ 2 107;rw[N]at D
 have L:Below W W (dcW W x.op x.tx x.n):=by
  refine(((((Below.refl _ W).alloc Zl _).alloc ?_ _).alloc ?_ _).alloc ?_ _).alloc ?_ _<;>simp only[World.size_alloc]<;>omega
 subst M;exact⟨L,G,A,B,E.W (s _ _),D⟩
theorem k6c{ds:List Td}{a:Option Addr}{cap:Nat}(hs:v8w ds){x:Td}{k n:Fo}(E:(Fo.cons x k n).ok)(hx:exN x)(h2:x.op=1\/x.op=2):DcH ds a cap (.cons x k n) (q0l x k.D):=by
 intro i r O W N;obtain⟨c,M,_,_,_⟩:=k9h O E;obtain⟨b,o,rfl,f,U,V,X⟩:=N i c;have g:=hs.l;have Z:(i:Int)<(ds.length:Int):=by omega
 rw[M]at U V X;have B:Hid (q1d W x (dcW W x.op x.tx x.n)):=k0o W x;obtain⟨j,J,Y⟩:=x;simp only at U V X B h2;rcases q6f hx with⟨A,Q,G,H,_⟩|⟨A,_,I,_⟩|⟨A,_⟩|⟨A,_⟩|⟨A,_⟩|⟨A,_⟩
 ·simp only at A G H;subst A;obtain⟨m,rfl⟩:∃m:Nat,Y=(m:Int):=⟨Y.toNat,by omega⟩;have L:Hid (q0l ⟨1,J,(m:Int)⟩ k.D=wdD (q7t m)):=by show _=_;simp[q0l]
  have P:m<=999999:=by omega
  clear M O E hx h2 Q G H N;unfold v8p;rw[L.o];have S:Hid (∀W:World,Calls prog 58 #[.int .i64 (m:Int)] W fun e w'=>e=.returned (.string (wbS (q7t m)))/\W=w'):=fun W=>v4p m P W
  show Calls _ _ _ _ fun e w'=>NdR W [⟨1,wbS (q7t m),0⟩] e w'
  generalize wbS (q7t m)=T at S⊢;go_in;go_wp2_with fail;refine(S.o _).mono ?_;rintro e h⟨rfl,rfl⟩;go_wp2_with fail;refine(q1q _ _).mono ?_;rintro e R C;have K:Hid (NdR W [⟨1,T,0⟩] e R):=C.from B.o.b;obtain⟨d,rfl,_,_⟩:=C.val;clear C;go_wp2;go_ret;exact K.o
 ·simp only at A I;subst A I;have L:Hid (q0l ⟨2,J,0⟩ k.D=wdD (btL J)):=by show _=_;simp[q0l]
  clear M O E hx h2 N;unfold v8p;rw[L.o];show Calls _ _ _ _ fun e w'=>NdR W [⟨1,J,0⟩] e w'
  go_in;go_wp2_with fail;refine(q1q _ _).mono ?_;rintro e R C;have K:Hid (NdR W [⟨1,J,0⟩] e R):=C.from B.o.b;obtain⟨d,rfl,_,_⟩:=C.val;clear C;go_wp2;go_ret;exact K.o
 ·simp only at A;omega
 ·simp only at A;omega
 ·simp only at A;omega
 ·simp only at A;omega
theorem v2w(ds:List Nd)(a:Option Addr)(cap:Nat)(w:World)(hN:q1p w a ds)(h:q3f ds≠0):
  Calls prog 188 #[.slice a ds.length cap] w fun e w'=>e=.returned (.tuple #[.string ⟨#[]⟩,.bool false,q1v (q3f ds)])/\Below w w w':=by
 have A:Hid (q1p w a ds):=hN;have H:Hid (q3f ds≠0):=h;rw[q0t h];clear hN h;go_in;go_wp2_with fail;refine(q3e ds a cap _ A.o).mono ?_;rintro e C⟨rfl,B⟩;rw[q0t H.o];go_wp2;go_ret3;exact⟨rfl,B⟩
theorem j4f(ds:List Nd)(t:Tr)(hd:ds=t.N)(ht:t.Wf)(hl:ds.length<=400)(a:Option Addr)(cap:Nat)(hc:ds.length<=cap)(w:World)(hN:q1p w a ds):
  Calls prog 188 #[.slice a ds.length cap] w fun e w'=>e=.returned (.tuple #[.string t.line,.bool t.isFlat,.nilIface])/\Below w w w':=by
 have Q:Hid (q1p w a ds):=hN;have H:Hid (q3f ds=0):=(show q3f ds=0 by rw[hd];exact z1a ht (by rw[<-hd];exact hl));have V:Hid (ds=t.N):=hd;have U:Hid (ds≠[]):=(show ds≠[] by have:=t.pos;rw[<-hd]at this;exact List.length_pos_iff.1 this);clear hN hd;cases E:t.brk
 case' true=>obtain⟨M,O⟩:=j5h E
 case' false=>obtain⟨M,O⟩:=j5g E
 all_goals
  rw[M,O];have X:=(show Hid (t.brk=_)from E);clear E M O;go_in;go_wp2_with fail;refine(q3e ds a cap _ Q.o).mono ?_;rintro e A⟨rfl,J⟩;rw[H.o,q1l];have G:Hid (Below w w A):=J;obtain⟨s,S,D⟩:=(Q.o.W J).s U.o;have Y:Hid (q1i s A a ds):=D;clear J D;go_wp2_with fail;refine(q5g t ht A.heap.size A.heap.size s ds [] a cap [] false _ (by rw[V.o];simp) (Y.o.kept (Below.heap_alloc _ _ _ S)) S (by omega) hc (IsX.fresh 285 A [.bool false]) (by simp) (by simp;omega)).mono ?_;rintro e P⟨⟨b,R,rfl,_,_⟩,B,K,_⟩;have C:Below w w P:=G.o.trans ((((Below.refl _ A).alloc Zl _).trans (K.W Zl)).mono G.o.size);rw[Bool.false_or,List.nil_append]at B;have I:Hid (Ln A.heap.size A.heap.size t.laid t.brk P):=B;have Z:=B.cell;rw[X.o]at Z;clear B
 ·go_wp2_with fail;refine(k8e 285 A.heap.size A.heap.size t.laid [.bool t.brk] P I.o).mono ?_;rintro e c⟨rfl,L⟩;go_wp2;go_ret3;exact⟨rfl,C.trans (L.mono G.o.size)⟩
 ·go_wp2;go_ret3;exact⟨rfl,C⟩
theorem v2v(ds:List Nd)(a:Option Addr)(cap:Nat)(hc:ds.length<=cap)(w:World)(hN:q1p w a ds):
  Calls prog 188 #[.slice a ds.length cap] w fun e w'=>e=.returned (.tuple #[.string (flS ds),.bool (flB ds),q1v (q3f ds)])/\Below w w w':=by
 by_cases h:q3f ds=0
 ·obtain⟨C,_,_⟩:=q5d h;obtain⟨D,A,B⟩:=j4e (q9h h) (q3u h) C;rw[A,B,h,q1l];exact j4f ds _ (q3u h) (q9h h) C a cap hc w hN
 ·obtain⟨A,B⟩:=y3u h;rw[A,B];exact v2w ds a cap w hN h
set_option maxHeartbeats 4000000
theorem j5f(s:ByteArray)(w:World):Calls prog 70 #[.slice none 0 0,.string s] w fun e w'=>e=.returned (.string ⟨#[]⟩)/\Below w w w':=by
 go_in;go_wp2;go_ret;exact⟨rfl,Below.refl _ _⟩
theorem z4x{B:Nat}{w:World}{A:Option Addr}{n c:Nat}{xs:List ByteArray}(h:q2g B (.slice A n c) xs w):n=xs.length/\n<=c/\((A=none/\n=0/\c=0)\/∃g,A=some ⟨g,0,none⟩/\g<w.heap.size):=by
 rcases h.2 with⟨C,G⟩|⟨g,I,E,C,_,H,D,_⟩
 ·simp only[Value.slice.injEq]at C;obtain⟨rfl,rfl,rfl⟩:=C;exact⟨G.symm,Nat.le_refl _,.inl ⟨rfl,rfl,rfl⟩⟩
 ·simp only[Value.slice.injEq]at C;obtain⟨rfl,rfl,rfl⟩:=C;exact⟨rfl,D,.inr ⟨g,rfl,(Array.getElem?_eq_some_iff.1 H).1⟩⟩
theorem j5e{B:Nat}{A:Option Addr}{n c:Nat}{W:List Wd}{w:World}(h:q2g B (.slice A n c) (W.map wbS) w)(hs:szW W<=1000000):Calls prog 70 #[.slice A n c,.string ⟨#[32]⟩] w fun e w'=>e=.returned (.string (wbS (jb W)))/\Below w w w':=by
 obtain⟨M,J,I⟩:=z4x h;have P:=z9n W;have E:=y0i W;have L:(W.map wbS).length=W.length:=List.length_map ..;rcases I with⟨rfl,rfl,rfl⟩|⟨g,rfl,K⟩
 ·have:W=[]:=List.eq_nil_of_length_eq_zero (by omega)
  subst this;exact j5f _ w
 ·subst M
  have H:(W.map wbS).map (fun x=>x.data.toList)=W:=by
   rw[List.map_map];exact List.map_id W
  have C:Lib.join ((W.map wbS).map (fun x=>x.data.toList)) (⟨#[32]⟩:ByteArray).data.toList=jb W:=by
   rw[H];exact j5a W
  have D:=join_sh g 0 c (W.map wbS) ⟨#[32]⟩ w ?_ K (by omega) J (by rw[C];omega)
  ·rw[C]at D;exact D
  ·intro j x N;obtain⟨E,rfl⟩:=List.getElem?_eq_some_iff.1 N;obtain⟨O,Q,e,_,G⟩:=q4i h j E;simp only[Option.some.injEq,Addr.mk.injEq,and_true]at e;obtain⟨rfl,rfl⟩:=e;exact G
theorem y2l{w:Wd}{S:ByteArray}(h:wbS w=S):S.extract 1 S.size=wbS (w.drop 1):=by
 subst h;rw[q9s]
 congr 1
 rw[List.take_of_length_le]
 ·rfl
 ·rw[List.length_drop,q0c];omega
theorem k9b{x:Wd}(hx:v7c x)(hl:x.length<=60000)(w:World)(ht:z2u w):Calls prog 103 #[.string (wbS (x.drop 1))] w fun e w'=>∃g,e=.returned (.slice (some ⟨g,0,none⟩) (q9u x).length (q9u x).length)/\Wds w' (some ⟨g,0,none⟩) ((q9u x).map wbS)/\Below w w w':=by
 have B:btL (wbS (x.drop 1))=x.drop 1:=rfl;refine(fields_sh (wbS (x.drop 1)) w (by rw[<-q0c,B,List.length_drop];omega) ?_ ht.spc).mono ?_
 ·intro j c D;have G:c∈x:=List.mem_of_mem_drop (List.mem_of_getElem? (show(x.drop 1)[j]?=some c from D))
  have:=hx.2 c G
  simp only[prB,Bool.and_eq_true,decide_eq_true_eq]at this;omega
 ·rintro e w'⟨rfl,rfl⟩;refine⟨w.heap.size,rfl,?_,q4b w _⟩;intro i C;have A:i<(q9u x).length:=by simpa using C
  refine⟨w.heap.size,0,rfl,by rw[World.size_alloc];omega,?_⟩;rw[Nat.zero_add];have E:=heap_alloc_new w (.cells ((Lib.fields (btL (wbS (x.drop 1)))).map fun l=>Value.string ⟨l.toArray⟩).toArray 9);rw[Lib.cell_of_heap E]
  show((Lib.fields (x.drop 1)).map fun l=>Value.string ⟨l.toArray⟩).toArray[i]?=_
  rw[List.getElem?_toArray,List.getElem?_map,show(Lib.fields (x.drop 1))[i]?=some (q9u x)[i]from List.getElem?_eq_getElem A];simp[wbS]
theorem k1t:∀(ws:List Wd)(x:Wd),x∈ws->x.length<=(ws.map List.length).sum
 | y::r,x,h=>by
  rw[List.map_cons,List.sum_cons];rcases List.mem_cons.1 h with rfl|h
  ·omega
  ·have:=k1t r x h
   omega
structure y7a(K:LwK)(ws:List Wd)(pl:Nat->Nat)(b p:Nat)(w:World)(q:Nat)(W:List Wd)(v:Value)(wr:World):Prop where
 pq:p<=q
 o:q2g w v (W.map wbS) wr
 rd:Ry K ws pl b q wr
 bt:But w b w wr
 eq:W=((ws.drop p).take (q-p)).flatMap q9u
 nt:∀x∈(ws.drop p).take (q-p),v7c x
structure y3a(K:LwK)(ws:List Wd)(pl:Nat->Nat)(b p:Nat)(w:World)(q:Nat)(n:Bool)(t:List Td)(v:Value)(w':World):Prop where
 lt:p<q
 o:q0w w v t w'
 ne:t≠[]
 l:t.length<=100000
 rd:Ry K ws pl b q w'
 bt:But w b w w'
 pg:∀pv acc r,(pv=true->∀x,ws[p]?=some x->x.headD 0≠35)->PG n (acc++[t]) (ws.drop q) r->PG pv acc (ws.drop p) r
 nx:n=true->∀x,ws[q]?=some x->x.headD 0≠35
inductive z1g (K:LwK) (ws:List Wd) (pl:Nat->Nat) (b p:Nat) (w:World):Ending->World->Prop where
 | ok {q n t A c w'} (h:y3a K ws pl b p w q n t (.slice A t.length c) w'):z1g K ws pl b p w (.returned (.slice A t.length c)) w'
 | bad {u w'} (pg:∀pv acc,PG pv acc (ws.drop p) (.bad u)) (bt:But w b w w'):z1g K ws pl b p w (.panicked [q4u (pl (ws.length-u.length))]) w'
theorem z9o{ws:List Wd}{p q:Nat}(h:p<=q)(hq:q<ws.length):(ws.drop p).take (q+1-p)=(ws.drop p).take (q-p)++[ws[q]]:=by
 rw[show q+1-p=q-p+1 by omega,List.take_succ_eq_append_getElem (by rw[List.length_drop];omega)]
 congr 2
 rw[List.getElem_drop]
 congr 1
 omega
theorem k8z(ws:List Wd){p q:Nat}(h:p<=q):ws.drop p=(ws.drop p).take (q-p)++ws.drop q:=by
 have e:ws.drop q=(ws.drop p).drop (q-p):=by rw[List.drop_drop];congr 1;omega
 rw[e,List.take_append_drop]
theorem j1k{K:LwK}{ws:List Wd}{pl:Nat->Nat}{b p:Nat}{w:World}(Ab:∀x∈ws,q3b x)(Av:(ws.map List.length).sum<=60000)(hp:p<ws.length)(hn:ws[p].headD 0=35)(v:∀w',But w b w w'->z2u w')(h:Ry K ws pl b p w):
  Calls prog 126 #[.pointer (some ⟨b,0,none⟩)] w fun e w'=>z1g K ws pl b p w e w':=by
 have l:Hid (∀x∈ws,q3b x):=Ab;have Ah:Hid (∀w',But w b w w'->z2u w'):=v
 have Af:Hid (∀x∈ws,x.length<=60000):=fun x I=>by
  have:=k1t ws x I
  omega
 have j:Hid (∀q,szW (((ws.drop p).take (q-p)).flatMap q9u)<=120000):=fun q=>by
  have h1:=j4h ((ws.drop p).take (q-p));have h2:=v5g ws p (q-p);omega
 have Ao:b<w.heap.size:=h.row.lt;have Aq:=h.gwlt;have Ap:=h.galt;have Ai:Hid (y7a K ws pl b p w p [] (.slice none 0 0) w):=⟨Nat.le_refl _,World.ownsRow_nil _ _ _ _,h,But.refl _ _ _,by simp,fun x I=>by simp at I⟩;clear h Ab v;go_in;go_wp2_with fail
 go_loopw [3] (fun x wr=>∃(q:Nat)(W:List Wd)(A:Option Addr)(n c:Nat),x=.slice A n c/\W.length=n/\y7a K ws pl b p w q W (.slice A n c) wr) (fun _ wr=>j0l wr b)
 case atStart=>exact⟨p,[],_,_,_,rfl,rfl,Ai.o⟩
 case round=>
  obtain⟨q,W,A,n,c,rfl,P,D⟩:=hrel;have Au:=D.rd.le;have N:=hid D;have Ak:Hid (W.length=n):=P;have Ac:=D.bt.size;have G:Hid (Calls prog 80 #[.pointer (some ⟨b,0,none⟩)] wr fun e w'=>e=.returned (.string (wbS (ws.getD q [])))/\wr=w'):=(q6o D.rd).mono fun _ _ h=>⟨h.1,h.2.symm⟩
  have E:Hid (Calls prog 125 #[.string (wbS (ws.getD q []))] wr fun e w'=>e=.returned (.bool (decide ((ws.getD q []).headD 0=35)))/\wr=w'):=(z5n _ wr).mono fun _ _ h=>⟨h.1,h.2.symm⟩
  by_cases B:(ws.getD q []).headD 0=35
  ·have O:q<ws.length:=by
    rcases Nat.lt_or_ge q ws.length with h'|h'
    ·exact h'
    ·rw[q6x h']at B;simp at B
   rw[decide_eq_true B]at E;rw[q3x O]at B G E;have L:=y5o (l.o _ (List.getElem_mem O)) B;have HN:Hid (Calls prog 175 #[.pointer (some ⟨b,0,none⟩)] wr fun e w'=>e=.returned (.string (wbS ws[q]))/\Ry K ws pl b (q+1) w'/\But wr b wr w'):=q8l D.rd O
   have Aa:1<=(wbS ws[q]).size:=by
    have:=j9v (l.o _ (List.getElem_mem O))
    rw[<-q0c];exact this
   have HF:Hid (∀W',But w b w W'->Calls prog 103 #[.string ((wbS ws[q]).extract 1 (wbS ws[q]).size)] W' fun e w'=>∃g,e=.returned (.slice (some ⟨g,0,none⟩) (q9u ws[q]).length (q9u ws[q]).length)/\Wds w' (some ⟨g,0,none⟩) ((q9u ws[q]).map wbS)/\Below W' W' w'):=fun W' hB=>by
    rw[y2l rfl];exact k9b L (Af.o _ (List.getElem_mem O)) W' (Ah.o W' hB)
   have Y:=j.o (q+1);rw[z9o D.pq O,List.flatMap_append,<-D.eq,List.flatMap_singleton,k5f]at Y;have Ar:=z9n W;have y:=z9n (q9u ws[q]);have z:n+(q9u ws[q]).length<=1000000:=by omega
   have Z:Hid (∀A2 c2 w2,q2g w (.slice A2 (n+(q9u ws[q]).length) c2) (W.map wbS++(q9u ws[q]).map wbS) w2->Ry K ws pl b (q+1) w2->But w b w w2->(W++q9u ws[q]).length=n+(q9u ws[q]).length/\y7a K ws pl b p w (q+1) (W++q9u ws[q]) (.slice A2 (n+(q9u ws[q]).length) c2) w2):=fun A2 c2 w2 h1 h2 h3=>by
    refine⟨by rw[List.length_append,Ak.o],Nat.le_succ_of_le N.o.pq,by rw[List.map_append];exact h1,h2,h3,?_,?_⟩
    ·rw[z9o N.o.pq O,List.flatMap_append,<-N.o.eq,List.flatMap_singleton]
    ·rw[z9o N.o.pq O];intro x I;rcases List.mem_append.1 I with I|I
     ·exact N.o.nt x I
     ·rw[List.mem_singleton]at I;rw[I];exact L
   have U:Hid (((q9u ws[q]).map wbS).length=(q9u ws[q]).length):=List.length_map ..;have Ag:Hid ((W.map wbS).length=n):=(show _=_ by rw[List.length_map];exact P);generalize wbS ws[q]=S at G E HN HF Aa
   generalize(q9u ws[q]).map wbS=FS at HF Z U
   generalize(q9u ws[q]).length=fn at HF Z z U Y y
   clear D P B L Y Ar y;go_wp2_with fail;refine G.o.mono ?_;rintro e H⟨rfl,rfl⟩;go_wp2_with fail;refine E.o.mono ?_;rintro e H⟨rfl,rfl⟩;go_wp2_with fail;refine HN.o.mono ?_;rintro e w3⟨rfl,h3,b3⟩;have Ay:=b3.size;have R:Hid (But w b w w3):=N.o.bt.trans (b3.mono Ac);have f:Hid (Ry K ws pl b (q+1) w3):=h3
   have d:Hid (q2g w (.slice A n c) (W.map wbS) w3):=by
    refine⟨N.o.o.1,?_⟩;rcases N.o.o.2 with h0|⟨g,c',Am,hv,hB,hg,Ad⟩
    ·exact .inl h0
    ·exact .inr ⟨g,c',Am,hv,hB,(b3.block g (Array.getElem?_eq_some_iff.1 hg).1 (by omega)).trans hg,Ad⟩
   clear h3 b3 HN G E;go_wp2_with fail;refine(HF.o w3 R.o).mono ?_;rintro e a⟨g,rfl,s,m⟩;have Az:=m.size;have V:Hid (q2g w (.slice A n c) (W.map wbS) a):=q3c d.o m;have Aj:Hid (Wds a (some ⟨g,0,none⟩) FS):=s;have i:Hid (Ry K ws pl b (q+1) a):=f.o.keep m;have Ae:Hid (But w b w a):=R.o.trans (But.of (m.mono (by omega)));have Aw:b<a.heap.size:=i.o.row.lt;clear s m d f R;go_wp2_with(at_builtin;refine k5s rfl _ _ rfl w.heap.size _ (W.map wbS) rfl V.o (some ⟨g,0,none⟩) fn FS U.o fn rfl Aj.o (fun e=>by cases e) (n+fn) (by rw[Ag.o]) z (by omega) ?_);intro A5 c5 w5 M C;have u:=Z.o A5 c5 w5 M ?rd5 ?bt5
   case rd5=>exact i.o.keepB ((Below.refl w.heap.size a).grown C (by omega) (fun k hk=>(World.ownsRow.lt V.o k hk).1)) Ao Aq Ap
   case bt5=>exact Ae.o.grown C (by omega) (fun k hk=>(World.ownsRow.lt V.o k hk).1)
   have X:=hid u;clear u M C;go_wp2;refine⟨⟨q+1,_,A5,n+fn,c5,rfl,X.o.1,X.o.2⟩,?_⟩;rw[X.o.2.rd.len_eq,N.o.rd.len_eq];omega
  ·rw[decide_eq_false B]at E
   have At:p<q:=by
    rcases Nat.eq_or_lt_of_le D.pq with e|e
    ·subst e;rw[q3x hp]at B;exact absurd hn B
    ·exact e
   have Q:=j.o q;rw[<-D.eq]at Q;have HJ:Hid (Calls prog 70 #[.slice A n c,.string ⟨#[32]⟩] wr fun e w'=>e=.returned (.string (wbS (jb W)))/\Below wr wr w'):=j5e D.o (by omega)
   have Z:Hid (∀H,Below wr wr H->z1g K ws pl b p w (.returned (.slice (some ⟨H,0,none⟩) 1 1)) (H.alloc (.cells #[.int .i64 9,.string (wbS (jb W)),.int .i64 0] 47))):=fun H hb1=>by
    have D:=N.o;have Ax:=hb1.size;have An:But w b w H:=D.bt.trans (But.of (hb1.mono Ac));refine z1g.ok (q:=q) (n:=true) (t:=[ntT (jb W)]) ⟨At,(q0w.one H (ntT (jb W))).down (by omega),by simp,by simp,(D.rd.keep hb1).keep (q4b H _),An.alloc (by omega) _,fun pv acc r hpv hr=>?_,fun _ x I=>?_⟩
    ·have As:pv=false:=by
      cases pv with
      | false=>rfl
      | true=>exact absurd hn (hpv rfl _ (List.getElem?_eq_getElem hp))
     subst As;rw[k8z ws D.pq];refine v4l (fun e=>?_) D.nt ?_
     ·have:=congrArg List.length e
      rw[List.length_take,List.length_drop]at this;simp only[List.length_nil]at this;omega
     ·rw[<-D.eq];exact hr
    ·obtain⟨O,rfl⟩:=List.getElem?_eq_some_iff.1 I;rw[q3x O]at B;exact B
   generalize wbS (jb W)=J at HJ Z;generalize wbS (ws.getD q [])=S at G E;clear D P B Q;go_wp2_with fail;refine G.o.mono ?_;rintro e H⟨rfl,rfl⟩;go_wp2_with fail;refine E.o.mono ?_;rintro e H⟨rfl,rfl⟩;go_wp2_with fail;refine HJ.o.mono ?_;rintro e H⟨rfl,b1⟩;have Al:=hid (Z.o H b1);clear b1;go_wp2;go_ret;exact Al.o
def WS(B b:Nat)(pl:List Value)(l:List UInt8)(cv:Value)(w:World):Prop:=IsO 101 B b pl (Lib.byteCells l) [cv] w
abbrev q7d(be bf:Nat)(n cap:Nat)(a:Option Addr):List Value:=[.slice a n cap,.slice (some ⟨be,0,none⟩) n n,.slice (some ⟨bf,0,none⟩) n n]
theorem y8l:j1u 101 6 3:=by unfold j1u;kernel_rfl
section
variable {B b be bf n cap:Nat} {a:Option Addr} {l:List UInt8} {cv:Value} {w w':World}
theorem WS.c0(h:WS B b (q7d be bf n cap a) l cv w):w.cell? ⟨b,0,none⟩=some (.slice a n cap):=IsO.cellP h 0 (by show 0<3;decide)
theorem WS.c1(h:WS B b (q7d be bf n cap a) l cv w):w.cell? ⟨b,1,none⟩=some (.slice (some ⟨be,0,none⟩) n n):=IsO.cellP h 1 (by show 1<3;decide)
theorem WS.c2(h:WS B b (q7d be bf n cap a) l cv w):w.cell? ⟨b,2,none⟩=some (.slice (some ⟨bf,0,none⟩) n n):=IsO.cellP h 2 (by show 2<3;decide)
theorem WS.c5(h:WS B b (q7d be bf n cap a) l cv w):w.cell? ⟨b,5,none⟩=some cv:=IsO.cellR h 0
theorem WS.f5(h:WS B b (q7d be bf n cap a) l cv w):w.frozen? ⟨b,5,none⟩=false:=IsO.frozen h 5
theorem WS.lt{pl:List Value}(h:WS B b pl l cv w):b<w.heap.size:=IsO.lt h
theorem WS.alloc{pl:List Value}(h:WS B b pl l cv w)(o:Obj):WS B b pl l cv (w.alloc o):=IsO.alloc h o
theorem WS.drew{pl:List Value}(h:WS B b pl l cv w):WS B b pl l cv w.drew:=h
theorem WS.W{pl:List Value}(h:WS B b pl l cv w)(hb:Below w w w'):WS B b pl l cv w':=IsO.W h hb
theorem WS.stored(h:WS B b (q7d be bf n cap a) l cv w)(v:Value):WS B b (q7d be bf n cap a) l v (w.setCell ⟨b,5,none⟩ v):=IsO.stored h 0 v
end
theorem y6h{B b be bf n cap:Nat}{a:Option Addr}{l:List UInt8}{cv:Value}{w:World}(h:WS B b (q7d be bf n cap a) l cv w)(hB:B<=b)(s:ByteArray)(hl:l.length+s.size<=2000000000):
  Calls prog 38 #[.pointer (some ⟨b,3,none⟩),.string s] w fun e w'=>(∃z,e=.returned (.tuple #[.int .i64 z,.nilIface]))/\WS B b (q7d be bf n cap a) (l++s.data.toList) cv w'/\Below B w w':=by
 have D:=h.lt;refine(k4v 101 B b 3 (q7d be bf n cap a) _ [cv] s w rfl y8l (by decide) h (by rw[Lib.byteCells_length];omega) (by omega)).mono ?_;rintro e w'⟨rfl,A,C,_⟩;refine⟨⟨_,rfl⟩,?_,C.W hB⟩;rw[WS,Lib.byteCells_append];exact A
structure LC(B s be bf:Nat)(a:Option Addr)(ds:List Nd)(w:World):Prop where
 nd:q1i s w a ds
 kn:q9b w be bf ds 0
theorem LC.W{B s be bf:Nat}{a:Option Addr}{ds:List Nd}{w w':World}(h:LC B s be bf a ds w)(hB:s<B/\be<B/\bf<B)(hb:Below B w w'):LC B s be bf a ds w':=
 ⟨h.nd.kept (hb.block s hB.1),h.kn.kept (hb.block be hB.2.1) (hb.block bf hB.2.2)⟩
def k0b(B b:Nat)(pl:List Value)(res:Except Int (List UInt8 × List Int))(l:List UInt8)(e:Ending)(w':World):Prop:=
 match res with
 | .ok (u,ws')=>e=.returned .nilIface/\∃wa' wc',WS B b pl (l++u) (.slice wa' ws'.length wc') w'/\q1h B w' wa' ws'/\ws'.length<=wc'
 | .error er=>er≠0/\e=.returned (q1v er)
def k2y(fn B b s be bf:Nat)(ds:List Nd)(a:Option Addr)(cap:Nat)(A:List Nd)(f:Nat->List Int->Except Int (List UInt8 × List Int)):Prop:=
 ∀(i:Nat)(r:List Nd)(deep:Nat)(ws:List Int)(wa:Option Addr)(wc:Nat)(l:List UInt8)(w:World),ds.drop i=A++r->LC B s be bf a ds w->q1h B w wa ws->q2q ws->ws.length<=wc->WS B b (q7d be bf ds.length cap a) l (.slice wa ws.length wc) w->
  deep+8*A.length<=3300->l.length+4000*A.length<=1000000000->
  Calls prog fn #[.pointer (some ⟨b,0,none⟩),.int .i64 i,.int .i64 deep] w fun e w'=>k0b B b (q7d be bf ds.length cap a) (f deep ws) l e w'/\Below B w w'
abbrev q3n:=k2y 52
theorem z4t(n:Nat)(hn:n<=4000)(w:World):Calls prog 91 #[.string ⟨#[32]⟩,.int .i64 n] w fun e w'=>e=.returned (.string ⟨(List.replicate n 32).toArray⟩)/\Below w w w':=by
 refine(repeat_any ⟨#[32]⟩ n w (by omega) (by show 1*n<=_;omega)).mono ?_;rintro e w'⟨rfl,B⟩;refine⟨?_,B⟩
 have:=Lib.repeatL_replicate 32 1 n
 have A:Lib.repeatL (ByteArray.mk #[32]).data.toList n=List.replicate n 32:=by simpa using this
 rw[A]
theorem q1i.part{s o i:Nat}{w:World}{ds A r:List Nd}(h:q1i s w (some ⟨s,o,none⟩) ds)(hd:ds.drop i=A++r):q1i s w (some ⟨s,o+i*3,none⟩) A:=by
 intro j I;have J:=congrArg List.length hd;rw[List.length_drop,List.length_append]at J;have B:i+j<ds.length:=by omega
 obtain⟨K,e,C,D,E⟩:=h (i+j) B;simp only[Option.some.injEq,Addr.mk.injEq,and_true,true_and]at e;subst e
 have H:ds[i+j]=A[j]:=by
  have G:(ds.drop i)[j]?=some A[j]:=by rw[hd,List.getElem?_append_left I];simp
  rw[List.getElem?_drop]at G;exact(List.getElem?_eq_some_iff.1 G).2
 rw[H]at C D E;refine⟨o+i*3,rfl,?_,?_,?_⟩
 ·rw[show o+i*3+j*3=o+(i+j)*3 by omega];exact C
 ·rw[show o+i*3+j*3+1=o+(i+j)*3+1 by omega];exact D
 ·rw[show o+i*3+j*3+2=o+(i+j)*3+2 by omega];exact E
theorem v6c(B b s be bf:Nat)(ds:List Nd)(a:Option Addr)(cap:Nat)(i:Nat)(t:Tr)(r:List Nd)(l:List UInt8)(cv:Value)(w:World)(ht:t.Wf)(hd:ds.drop i=t.N++r)(hC:LC B s be bf a ds w)(hW:WS B b (q7d be bf ds.length cap a) l cv w)(hf:t.isFlat=false):
  Calls prog 146 #[.pointer (some ⟨b,0,none⟩),.int .i64 i] w fun e w'=>e=.returned (q1v 4)/\Below B w w':=by
 have E:=q9i hd;have D:=hW.c2;have C:=(hC.kn i t r (Nat.zero_le _) ht hd).2;rw[hf]at C;have A:(i:Int)<(ds.length:Int):=by omega
 rw[y3q];clear hC hW hd;go_in;go_wp2;go_ret;exact⟨rfl,Below.refl _ _⟩
theorem v0m(B b s be bf:Nat)(hb:s<B/\be<B/\bf<B)(hB:B<=b)(ds:List Nd)(a:Option Addr)(cap:Nat)(S:ds.length<=cap)(hl:ds.length<=400)(i:Nat)(t:Tr)(r:List Nd)(l:List UInt8)(cv:Value)(w:World)(ht:t.Wf)(hd:ds.drop i=t.N++r)(hC:LC B s be bf a ds w)(hW:WS B b (q7d be bf ds.length cap a) l cv w)(hf:t.isFlat=true)(p:l.length<=1000000000):
  Calls prog 146 #[.pointer (some ⟨b,0,none⟩),.int .i64 i] w fun e w'=>e=.returned .nilIface/\WS B b (q7d be bf ds.length cap a) (l++t.line.data.toList) cv w'/\Below B w w':=by
 have f:=q9i hd;have P:=hW.c0;have Q:=hW.c1;have u:=hW.c2;obtain⟨O,q⟩:=hC.kn i t r (Nat.zero_le _) ht hd;rw[hf]at q;obtain⟨C,Z,_,_,_⟩:=hC.nd i f;subst Z;have E:=hW.lt;have M:B<=w.heap.size:=by omega
 have g:(i:Int)<(ds.length:Int):=by omega
 have D:i+t.N.length<=ds.length:=by
  have:=congrArg List.length hd
  rw[List.length_drop,List.length_append]at this;omega
 have hp:=t.pos;have V:q1p w (some ⟨s,C+i*3,none⟩) t.N:=(hC.nd.part hd).nods (by omega);have m:t.line.size<=8000:=by have:=q7y t ht;rw[q8b];omega
 generalize y:i+t.N.length=j at O D;have G:t.N.length=j-i:=by omega
 have I:Hid (∀W:World,Below w w W->Calls prog 188 #[.slice (some ⟨s,C+i*3,none⟩) (j-i) (cap-i)] W fun e w'=>e=.returned (.tuple #[.string t.line,.bool true,.nilIface])/\Below W W w'):=fun W hW=>by
  have:=j4f t.N t rfl ht (by omega) (some ⟨s,C+i*3,none⟩) (cap-i) (by omega) W (V.W hW)
  rw[hf,G]at this;exact this
 have v:(i:Int)<=(j:Int):=by omega
 have L:be<w.heap.size:=by omega
 have n:(0:Int)<=(i:Int):=by omega
 have o:(0:Int)<=(j:Int):=by omega
 have h:(i:Int)<(cap:Int):=by omega
 have c:¬(cap-i=0):=by omega
 have d:¬(cap=i):=by omega
 have k:((j:Int)-(i:Int)).toNat=j-i:=by omega
 have U:((cap:Int)-(i:Int)).toNat=cap-i:=by omega
 have x:(j:Int)<=(cap:Int):=by omega
 have R:(j:Int)<=(ds.length:Int):=by omega
 have Y:Hid (WS B b (q7d be bf ds.length cap (some ⟨s,C,none⟩)) l cv w):=hW;clear hC hW hd V G;go_in;go_wp2_with fail
 go_region_held3 (fun w'=>w'.cell? ⟨b,0,none⟩=some (.slice (some ⟨s,C,none⟩) ds.length cap)/\w'.cell? ⟨b,1,none⟩=some (.slice (some ⟨be,0,none⟩) ds.length ds.length)/\w'.cell? ⟨be,i,none⟩=some (.int .i64 (j:Int)))
  (first|exact⟨P,Q,O⟩|exact⟨((q1y A).1 _ _ E).trans P,((q1y A).1 _ _ E).trans Q,((q1y A).1 _ _ L).trans O⟩)
  (first|(go_at_call 188;refine(I.o _ (Below.drew (Below.refl _ w))).mono ?_;rintro e X⟨rfl,A⟩))
 all_goals
  have J:Hid (WS B b (q7d be bf ds.length cap (some ⟨s,C,none⟩)) l cv X):=WS.W (WS.drew Y.o) A;have H:Hid (Below B w X):=(Below.drew (Below.refl B w)).trans (A.mono M);clear A;go_wp2_with fail;refine(y6h J.o hB t.line (by omega)).mono ?_;rintro e w3⟨⟨z,rfl⟩,R,K⟩;go_wp2;go_ret;exact⟨rfl,R,H.o.trans K⟩
set_option maxHeartbeats 8000000
theorem z3c{ds:List Td}(hs:v8w ds){i:Nat}{F:Fo}{r:List Td}(h:ds.drop i=F.N++r):z3h F.D<=800:=by
 have B:=z6a F;have A:=congrArg List.length h;rw[List.length_drop,List.length_append]at A
 have:=hs.l
 omega
abbrev Six(W w:World):Prop:=w.cell? ⟨W.heap.size+1+1+1,0,none⟩=some (.int .i64 8)/\w.cell? ⟨W.heap.size+1+1+1,1,none⟩=some (.string ⟨#[]⟩)/\w.cell? ⟨W.heap.size+1+1+1,2,none⟩=some (.int .i64 0)/\w.cell? ⟨W.heap.size+1+1+1+1,0,none⟩=some (.int .i64 7)/\w.cell? ⟨W.heap.size+1+1+1+1,1,none⟩=some (.string ⟨#[]⟩)/\w.cell? ⟨W.heap.size+1+1+1+1,2,none⟩=some (.int .i64 2)
theorem q1d.six{W:World}{x:Td}{w:World}(h:q1d W x w):Six W w:=⟨h.gr.2.1,h.gr.2.2.1,h.gr.2.2.2,h.dp.2.1,h.dp.2.2.1,h.dp.2.2.2⟩
theorem j3p{ds:List Td}{a:Option Addr}{cap:Nat}(hs:v8w ds){x:Td}{k n:Fo}(c:(Fo.cons x k n).ok)(Ay:(Fo.cons x k n).exs)(h2:x.op=5\/x.op=6)(hk:DcA ds a cap k):DcH ds a cap (.cons x k n) (q0l x k.D):=by
 intro i r hi W v;obtain⟨hp,e1,e2,_,_⟩:=k9h hi c
 have Az:kdT x=2:=by
  unfold kdT;rcases h2 with h|h<;>rw[h]<;>rfl
 have A0:k.len=2:=c.1.trans Az
 obtain⟨C,M,E,O,rfl⟩:∃C M E O,k=.cons C M (.cons E O .nil):=by
  match k,A0 with
  | .cons C M (.cons E O .nil),_=>exact⟨C,M,E,O,rfl⟩
 have Aw:(Fo.cons C M (.cons E O .nil)).D=[(C,q0l C M.D),(E,q0l E O.D)]:=rfl;have hz:=z3c hs e2;rw[Aw,q2l,q2l]at hz;obtain⟨A3,ea,_,Av,q⟩:=k9h e2 c.2.1;obtain⟨A4,eb,_,_,_⟩:=k9h q c.2.1.2.2;generalize hj:i+1+1+M.N.length=j at Av q A4 eb;have HN:Hid (Tds W a ds):=v;have hl:=hs.l;have A7:(q0l C M.D).N.length<=800:=by simp only at hz;omega
 have A8:(q0l E O.D).N.length<=800:=by simp only at hz;omega
 have Q:Hid (∀W':World,Below W W W'->Calls prog 59 #[.slice a ds.length cap,.int .i64 (i:Int),.int .i64 ((i:Int)+1),.bool false] W' fun e w'=>NdR W' (inD (lvl x.op false) C (q0l C M.D)).N e w'):=fun W' w=>by
  have h:=z6k W' (v.W w) hp A3 (by rw[e1];exact h2) false (q0l C M.D) (by omega) (hk.1 (i+1) _ e2 W' (v.W w)) (cap:=cap);rw[e1,ea,show((i+1:Nat):Int)=(i:Int)+1 by omega]at h;exact h
 have m:Hid (∀W':World,Below W W W'->Calls prog 24 #[.slice a ds.length cap,.int .i64 ((i:Int)+1)] W' fun e w'=>e=.returned (.int .i64 (j:Int))/\Below W' W' w'):=fun W' w=>by
  have h:=k6f (cap:=cap) hs Av A3 W' (v.W w);rw[show((i+1:Nat):Int)=(i:Int)+1 by omega]at h;exact h
 have R:Hid (∀W':World,Below W W W'->Calls prog 59 #[.slice a ds.length cap,.int .i64 (i:Int),.int .i64 (j:Int),.bool true] W' fun e w'=>NdR W' (inD (lvl x.op true) E (q0l E O.D)).N e w'):=fun W' w=>by
  have h:=z6k W' (v.W w) hp A4 (by rw[e1];exact h2) true (q0l E O.D) (by omega) (hk.2.1 j _ q W' (v.W w)) (cap:=cap);rw[e1,eb]at h;exact h
 have A1:=k9x (lvl x.op false) C (q0l C M.D);have A2:=k9x (lvl x.op true) E (q0l E O.D)
 have Ax:Hid ((q0l x [(C,q0l C M.D),(E,q0l E O.D)]).N=⟨8,⟨#[]⟩,0⟩::(⟨6,⟨#[]⟩,0⟩::((inD (lvl x.op false) C (q0l C M.D)).N++(⟨7,⟨#[]⟩,2⟩::(⟨6,⟨#[]⟩,0⟩::([⟨2,⟨#[]⟩,0⟩]++(⟨6,⟨#[]⟩,0⟩::([⟨1,(if x.op=5 then⟨#[43,32]⟩else⟨#[42,32]⟩),0⟩]++(inD (lvl x.op true) E (q0l E O.D)).N)))))))):=by
  show _=_;rcases h2 with h|h
  ·rw[if_pos h];simp[q0l,h,tw2,lvl,Tr.N];rfl
  ·rw[if_neg (by omega)];simp[q0l,h,tw2,lvl,Tr.N];rfl
 obtain⟨b,o,rfl,w,c1,c2,c3⟩:=v i hp;have A6:(i:Int)<(ds.length:Int):=by omega
 rw[e1]at c1 c2 c3;have X:Hid (q1d W x (dcW W x.op x.tx x.n)):=k0o W x;unfold v8p;rw[Aw,Ax.o]
 generalize(inD (lvl x.op false) C (q0l C M.D)).N=ls at Q A1⊢
 generalize(inD (lvl x.op true) E (q0l E O.D)).N=rs at R A2⊢
 have hx:=q6f (Ay x (by simp[Fo.N]));clear v e1 e2 hi c Ay hk hj Aw hz Av q ea eb Ax Az A0;obtain⟨xo,xt,xn⟩:=x;simp only at c1 c2 c3 X h2 hx A1 A2⊢
 have A5:xt=⟨#[]⟩/\xn=0:=by
  rcases hx with⟨ho,_⟩|⟨ho,_⟩|⟨ho,_⟩|⟨ho,_⟩|⟨_,s,t,_⟩|⟨_,s,t,_⟩
  ·omega
  ·omega
  ·omega
  ·omega
  ·exact⟨s,t⟩
  ·exact⟨s,t⟩
 obtain⟨rfl,rfl⟩:=A5;clear hx;rcases h2 with rfl|rfl
 ·simp only[if_true];go_in;go_wp2_with fail;have A:=(show Hid (q1d W ⟨5,⟨#[]⟩,0⟩ (dcW W 5 ⟨#[]⟩ 0))from X.o);clear X;refine(Q.o _ A.o.b).mono ?_;rintro e w1 s;obtain⟨L,rfl,n1,b1⟩:=s.val;have G:Hid (q1d W ⟨5,⟨#[]⟩,0⟩ w1):=A.o.W b1;have Y:Hid (NdV w1 L ls):=n1;clear s n1 b1 A;go_wp2_with fail;refine(m.o _ G.o.b).mono ?_;rintro e w2⟨rfl,b2⟩;have H:Hid (q1d W ⟨5,⟨#[]⟩,0⟩ w2):=G.o.W b2;have Z:Hid (NdV w2 L ls):=Y.o.W b2;clear b2 G Y;go_wp2_with fail;refine(R.o _ H.o.b).mono ?_;rintro e B t;obtain⟨v3,rfl,n3,b3⟩:=t.val;have I:Hid (q1d W ⟨5,⟨#[]⟩,0⟩ B):=H.o.W b3;have y:Hid (NdV B L ls):=Z.o.W b3;have Ad:Hid (NdV B v3 rs):=n3;have An:Hid (Six W B):=I.o.six;have Au:Hid (Six W B.drew):=I.o.six;have Ag:Hid (Below B B B.drew):= Zb.drew;clear t n3 b3 H Z Q R m HN;go_wp2_with fail
  go_region_held3 (fun w'=>Six W w') (first|with_reducible exact Au.o|with_reducible exact An.o|with_reducible exact Ao.o|with_reducible exact Ap.o|with_reducible exact Aq.o|with_reducible exact Ar.o|with_reducible exact As.o|with_reducible exact At.o)
   (first
     | (go_at_call 60;refine((q3i ⟨8,⟨#[]⟩,0⟩ (u) Aj.o (by simp<;>omega))).mono ?_;rintro e w9 h9;have Al:Hid (NdR W (⟨8,⟨#[]⟩,0⟩::(⟨6,⟨#[]⟩,0⟩::(ls++(⟨7,⟨#[]⟩,2⟩::(⟨6,⟨#[]⟩,0⟩::([⟨2,⟨#[]⟩,0⟩]++(⟨6,⟨#[]⟩,0⟩::([⟨1,⟨#[43,32]⟩,0⟩]++rs)))))))) e w9):=h9.from K.o.b;obtain⟨v9,rfl,n9,b9⟩:=h9.val;have Ak:Hid (q1d W ⟨5,⟨#[]⟩,0⟩ w9):=K.o.W b9;have At:Hid (Six W w9):=Ak.o.six;clear h9 n9 b9)
     | (go_at_call 61;refine((q0z (g) Ac.o Ai.o (by simp<;>omega))).mono ?_;rintro e u h8;obtain⟨v8,rfl,n8,b8⟩:=h8.val;have K:Hid (q1d W ⟨5,⟨#[]⟩,0⟩ u):=V.o.W b8;have As:Hid (Six W u):=K.o.six;have Aj:Hid (NdV u v8 (⟨6,⟨#[]⟩,0⟩::(ls++(⟨7,⟨#[]⟩,2⟩::(⟨6,⟨#[]⟩,0⟩::([⟨2,⟨#[]⟩,0⟩]++(⟨6,⟨#[]⟩,0⟩::([⟨1,⟨#[43,32]⟩,0⟩]++rs)))))))):=n8;clear h8 n8 b8)
     | (go_at_call 60;refine((q3i ⟨7,⟨#[]⟩,2⟩ (f) Ah.o (by simp<;>omega))).mono ?_;rintro e g h7;obtain⟨v7,rfl,n7,b7⟩:=h7.val;have V:Hid (q1d W ⟨5,⟨#[]⟩,0⟩ g):=U.o.W b7;have Ar:Hid (Six W g):=V.o.six;have Ac:Hid (NdV g L (ls)):=Ab.o.W b7;have Ai:Hid (NdV g v7 (⟨7,⟨#[]⟩,2⟩::(⟨6,⟨#[]⟩,0⟩::([⟨2,⟨#[]⟩,0⟩]++(⟨6,⟨#[]⟩,0⟩::([⟨1,⟨#[43,32]⟩,0⟩]++rs)))))):=n7;clear h7 n7 b7)
     | (go_at_call 61;refine((q0z (d) J.o.bl Af.o (by simp<;>omega))).mono ?_;rintro e f h6;obtain⟨v6,rfl,n6,b6⟩:=h6.val;have U:Hid (q1d W ⟨5,⟨#[]⟩,0⟩ f):=J.o.W b6;have Aq:Hid (Six W f):=U.o.six;have Ab:Hid (NdV f L (ls)):=Aa.o.W b6;have Ah:Hid (NdV f v6 (⟨6,⟨#[]⟩,0⟩::([⟨2,⟨#[]⟩,0⟩]++(⟨6,⟨#[]⟩,0⟩::([⟨1,⟨#[43,32]⟩,0⟩]++rs))))):=n6;clear h6 n6 b6)
     | (go_at_call 61;refine((q0z (P) Am.o Ae.o (by simp<;>omega))).mono ?_;rintro e d h5;obtain⟨v5,rfl,n5,b5⟩:=h5.val;have J:Hid (q1d W ⟨5,⟨#[]⟩,0⟩ d):=S.o.W b5;have Ap:Hid (Six W d):=J.o.six;have Aa:Hid (NdV d L (ls)):=z.o.W b5;have Af:Hid (NdV d v5 (⟨6,⟨#[]⟩,0⟩::([⟨1,⟨#[43,32]⟩,0⟩]++rs))):=n5;clear h5 n5 b5)
     | (go_at_call 57;refine((q1q _ (B.drew)).mono fun _ _ h=>h.from Ag.o).mono ?_;rintro e P h4;obtain⟨v4,rfl,n4,p⟩:=h4.val;have S:Hid (q1d W ⟨5,⟨#[]⟩,0⟩ P):=I.o.W p;have Ao:Hid (Six W P):=S.o.six;have z:Hid (NdV P L (ls)):=y.o.W p;have Ae:Hid (NdV P v3 (rs)):=Ad.o.W p;have Am:Hid (NdV P v4 ([⟨1,⟨#[43,32]⟩,0⟩])):=n4;clear h4 n4 p))
  all_goals
   go_wp2;go_ret;exact Al.o
 ·simp only[show ¬(6:Int)=5 by decide,if_false];go_in;go_wp2_with fail;have A:=(show Hid (q1d W ⟨6,⟨#[]⟩,0⟩ (dcW W 6 ⟨#[]⟩ 0))from X.o);clear X;refine(Q.o _ A.o.b).mono ?_;rintro e w1 s;obtain⟨L,rfl,n1,b1⟩:=s.val;have G:Hid (q1d W ⟨6,⟨#[]⟩,0⟩ w1):=A.o.W b1;have Y:Hid (NdV w1 L ls):=n1;clear s n1 b1 A;go_wp2_with fail;refine(m.o _ G.o.b).mono ?_;rintro e w2⟨rfl,b2⟩;have H:Hid (q1d W ⟨6,⟨#[]⟩,0⟩ w2):=G.o.W b2;have Z:Hid (NdV w2 L ls):=Y.o.W b2;clear b2 G Y;go_wp2_with fail;refine(R.o _ H.o.b).mono ?_;rintro e B t;obtain⟨v3,rfl,n3,b3⟩:=t.val;have I:Hid (q1d W ⟨6,⟨#[]⟩,0⟩ B):=H.o.W b3;have y:Hid (NdV B L ls):=Z.o.W b3;have Ad:Hid (NdV B v3 rs):=n3;have An:Hid (Six W B):=I.o.six;have Au:Hid (Six W B.drew):=I.o.six;have Ag:Hid (Below B B B.drew):= Zb.drew;clear t n3 b3 H Z Q R m HN;go_wp2_with fail
  go_region_held3 (fun w'=>Six W w') (first|with_reducible exact Au.o|with_reducible exact An.o|with_reducible exact Ao.o|with_reducible exact Ap.o|with_reducible exact Aq.o|with_reducible exact Ar.o|with_reducible exact As.o|with_reducible exact At.o)
   (first
     | (go_at_call 60;refine((q3i ⟨8,⟨#[]⟩,0⟩ (u) Aj.o (by simp<;>omega))).mono ?_;rintro e w9 h9;have Al:Hid (NdR W (⟨8,⟨#[]⟩,0⟩::(⟨6,⟨#[]⟩,0⟩::(ls++(⟨7,⟨#[]⟩,2⟩::(⟨6,⟨#[]⟩,0⟩::([⟨2,⟨#[]⟩,0⟩]++(⟨6,⟨#[]⟩,0⟩::([⟨1,⟨#[42,32]⟩,0⟩]++rs)))))))) e w9):=h9.from K.o.b;obtain⟨v9,rfl,n9,b9⟩:=h9.val;have Ak:Hid (q1d W ⟨6,⟨#[]⟩,0⟩ w9):=K.o.W b9;have At:Hid (Six W w9):=Ak.o.six;clear h9 n9 b9)
     | (go_at_call 61;refine((q0z (g) Ac.o Ai.o (by simp<;>omega))).mono ?_;rintro e u h8;obtain⟨v8,rfl,n8,b8⟩:=h8.val;have K:Hid (q1d W ⟨6,⟨#[]⟩,0⟩ u):=V.o.W b8;have As:Hid (Six W u):=K.o.six;have Aj:Hid (NdV u v8 (⟨6,⟨#[]⟩,0⟩::(ls++(⟨7,⟨#[]⟩,2⟩::(⟨6,⟨#[]⟩,0⟩::([⟨2,⟨#[]⟩,0⟩]++(⟨6,⟨#[]⟩,0⟩::([⟨1,⟨#[42,32]⟩,0⟩]++rs)))))))):=n8;clear h8 n8 b8)
     | (go_at_call 60;refine((q3i ⟨7,⟨#[]⟩,2⟩ (f) Ah.o (by simp<;>omega))).mono ?_;rintro e g h7;obtain⟨v7,rfl,n7,b7⟩:=h7.val;have V:Hid (q1d W ⟨6,⟨#[]⟩,0⟩ g):=U.o.W b7;have Ar:Hid (Six W g):=V.o.six;have Ac:Hid (NdV g L (ls)):=Ab.o.W b7;have Ai:Hid (NdV g v7 (⟨7,⟨#[]⟩,2⟩::(⟨6,⟨#[]⟩,0⟩::([⟨2,⟨#[]⟩,0⟩]++(⟨6,⟨#[]⟩,0⟩::([⟨1,⟨#[42,32]⟩,0⟩]++rs)))))):=n7;clear h7 n7 b7)
     | (go_at_call 61;refine((q0z (d) J.o.bl Af.o (by simp<;>omega))).mono ?_;rintro e f h6;obtain⟨v6,rfl,n6,b6⟩:=h6.val;have U:Hid (q1d W ⟨6,⟨#[]⟩,0⟩ f):=J.o.W b6;have Aq:Hid (Six W f):=U.o.six;have Ab:Hid (NdV f L (ls)):=Aa.o.W b6;have Ah:Hid (NdV f v6 (⟨6,⟨#[]⟩,0⟩::([⟨2,⟨#[]⟩,0⟩]++(⟨6,⟨#[]⟩,0⟩::([⟨1,⟨#[42,32]⟩,0⟩]++rs))))):=n6;clear h6 n6 b6)
     | (go_at_call 61;refine((q0z (P) Am.o Ae.o (by simp<;>omega))).mono ?_;rintro e d h5;obtain⟨v5,rfl,n5,b5⟩:=h5.val;have J:Hid (q1d W ⟨6,⟨#[]⟩,0⟩ d):=S.o.W b5;have Ap:Hid (Six W d):=J.o.six;have Aa:Hid (NdV d L (ls)):=z.o.W b5;have Af:Hid (NdV d v5 (⟨6,⟨#[]⟩,0⟩::([⟨1,⟨#[42,32]⟩,0⟩]++rs))):=n5;clear h5 n5 b5)
     | (go_at_call 57;refine((q1q _ (B.drew)).mono fun _ _ h=>h.from Ag.o).mono ?_;rintro e P h4;obtain⟨v4,rfl,n4,p⟩:=h4.val;have S:Hid (q1d W ⟨6,⟨#[]⟩,0⟩ P):=I.o.W p;have Ao:Hid (Six W P):=S.o.six;have z:Hid (NdV P L (ls)):=y.o.W p;have Ae:Hid (NdV P v3 (rs)):=Ad.o.W p;have Am:Hid (NdV P v4 ([⟨1,⟨#[42,32]⟩,0⟩])):=n4;clear h4 n4 p))
  all_goals
   go_wp2;go_ret;exact Al.o
end Go.Proofs.YtfdppahhbpfnoaaGreatDoor
