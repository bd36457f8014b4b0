import Derived.Test.YtelcnplcpboonaaGreatDoorPb22
import Derived.RangeFuncBox
import Derived.RangeFuncFrom
import Derived.Maps.AppendAt
open Go.Proofs.Tryz
namespace Go.Proofs.YtelcnplcpboonaaGreatDoor
open Go Go.RowKit
def q0v(ws:List Int):List Value:=ws.map (.int .i64)
theorem z9l(ws:List Int):(q0v ws).length=ws.length*1:=by simp[q0v]
theorem z9k(a b:List Int):q0v (a++b)=q0v a++q0v b:=by simp[q0v]
theorem v3r{B:Nat}{w:World}{a:Option Addr}{n A m:Nat}{ws:List Int}(h:w.ownsRow B 3 1 (.slice a n A) m (q0v ws)):m=ws.length/\n=ws.length/\ws.length<=A/\z4j w a ws/\(a=none->ws=[]/\A=0):=by
 have J:m=ws.length:=by have:=h.1;rw[z9l]at this;omega
 rcases h.2 with⟨D,P⟩|⟨g,c,L,D,_,K,M,_,N,C⟩
 ·simp only[Value.slice.injEq]at D;obtain⟨rfl,rfl,rfl⟩:=D;have O:ws=[]:=List.eq_nil_of_length_eq_zero (by omega);subst O;exact⟨J,rfl,Nat.le_refl _,fun i G=>by simp at G,fun _=>⟨rfl,rfl⟩⟩
 ·simp only[Value.slice.injEq]at D;obtain⟨rfl,rfl,rfl⟩:=D;refine⟨J,J,by omega,?_,fun h=>by cases h⟩;intro i G
  have I:g<w.heap.size:=by
   rcases Nat.lt_or_ge g w.heap.size with E|E
   ·exact E
   ·simp[Array.getElem?_eq_none E]at K
  refine⟨g,0,rfl,I,?_⟩;have H:(q0v ws)[i]?=some (.int .i64 ws[i]):=by simp[q0v,G]
  rw[<-C]at H;rw[List.getElem?_take_of_lt (by omega)]at H;rw[Nat.zero_add];simp only[World.cell?,K];simpa using H
set_option maxRecDepth 100000
set_option maxHeartbeats 4000000
theorem y7k(B b s be bf:Nat)(hb:s<B/\be<B/\bf<B)(hB:B<=b)(ds:List Nd)(a:Option Addr)(E:Nat)(hl:ds.length<=400)(tx:ByteArray)(n:Int)(A C:List Nd)(f g:Nat->List Int->Except Int (List UInt8 × List Int))(hA:q2q B b s be bf ds a E A f)(hG:q2q B b s be bf ds a E C g)(hE:∀i r,ds.drop i=A++r->r≠[]->∃t:Tr,t.Wf/\A=t.N)(hp:C≠[])(L:∀deep ws u v,f deep ws=.ok (u,v)->deep+8*A.length<=3300->u.length<=4000*A.length)(k:∀deep ws u v,q1y ws->f deep ws=.ok (u,v)->q1y v):q2q B b s be bf ds a E (⟨6,tx,n⟩::(A++C)) (z0m f g):=by
 intro i r deep ws wa wc l w hd hC hI y Ai R U Ag;obtain⟨hi,e1,e2⟩:=q1j (x:=⟨6,tx,n⟩) (A:=(A++C)++r) hd;obtain⟨X,ea,d1,d2,d3⟩:=hC.nd i hi;subst ea;rw[e1]at d1 d2 d3;dsimp only at d1 d2 d3;have c0:=R.c0;have c1:=R.c1;have c2:=R.c2;have c5:=R.c5;have Al:=R.lt;have Am:s<w.heap.size:=by omega
 have Af:B<=w.heap.size:=by omega
 have Ak:(i:Int)<(ds.length:Int):=by omega
 have HD:Hid (ds.drop i=⟨6,tx,n⟩::((A++C)++r)):=hd;have Ac:Hid (ds.drop (i+1)=(A++C)++r):=e2;have HC:Hid (LC B s be bf (some ⟨s,X,none⟩) ds w):=hC;have HI:Hid (q2e B w wa ws):=hI;have HW:Hid (WS B b (q5v be bf ds.length E (some ⟨s,X,none⟩)) l (.slice wa ws.length wc) w):=R;have HA:Hid (∀O:Obj,Below B w (w.alloc O)):=fun O=>(Below.refl _ w).alloc Af O
 clear hC hI R hd e1 e2;simp only[List.length_cons,List.length_append]at U Ag;have HF:Hid (q2q B b s be bf ds (some ⟨s,X,none⟩) E A f):=hA;have HG:Hid (q2q B b s be bf ds (some ⟨s,X,none⟩) E C g):=hG;have HX:Hid (((i+1:Nat):Int)=(i:Int)+1):=(show _=_ by omega);have d:Hid (q1y ws):=y;have I:=Ac.o;rw[List.append_assoc]at I;have Q:Hid (ds.drop (i+1)=A++(C++r)):=I;obtain⟨t,ht,et⟩:=hE _ _ I (fun h=>hp (List.append_eq_nil_iff.1 h).1);have HT:Hid (t.Wf/\A=t.N):=⟨ht,et⟩
 have Aj:(i:Int)+1<(ds.length:Int):=by
  have:=congrArg List.length I
  have K:=List.length_pos_iff.2 hp;rw[List.length_drop,List.length_append,List.length_append]at this;omega
 have HL:Hid (∀deep ws u v,f deep ws=.ok (u,v)->deep+8*A.length<=3300->u.length<=4000*A.length):=L;have Ab:Hid (∀deep ws u v,q1y ws->f deep ws=.ok (u,v)->q1y v):=k;clear hA hG y I ht et hE L k hp;go_in;go_wp2_with fail;rw[<-HX.o];refine(HF.o (i+1) (C++r) deep ws wa wc l _ Q.o (HC.o.W hb (HA.o _)) (HI.o.W (HA.o _)) d.o Ai (HW.o.alloc _) (by omega) (by omega)).mono ?_;rintro e z⟨K,S⟩;cases D:f deep ws with
 | error er=>
  rw[D]at K;obtain⟨G,rfl⟩:=K;have c:Hid (er≠0):=G;rw[q0h G];clear G;go_wp2;go_ret;refine⟨?_,(HA.o _).trans S⟩;rw[z0m,D];exact⟨c.o,by rw[q0h c.o];rfl⟩
 | ok p=>
  obtain⟨u0,M⟩:=p;rw[D]at K;obtain⟨rfl,Y,Aa,V,q,Ah⟩:=K;have P:Hid (Below B w z):=(HA.o _).trans S;have Z:Hid (LC B s be bf (some ⟨s,X,none⟩) ds z):=HC.o.W hb P.o;have Ae:Hid (WS B b (q5v be bf ds.length E (some ⟨s,X,none⟩)) (l++u0) (.slice Y M.length Aa) z):=V;have Ad:Hid (q2e B z Y M):=q;have g1:=V.c1;have An:=HL.o deep ws u0 M D (by omega);have j:Hid (q1y M):=Ab.o deep ws u0 M d.o D
  have ge:z.cell? ⟨be,i+1,none⟩=some (.int .i64 ((i+1+A.length:Nat):Int)):=by
   have o:=Q.o;rw[HT.o.2]at o⊢;exact(Z.o.kn (i+1) t (C++r) (Nat.zero_le _) HT.o.1 o).1
  have J:Hid (f deep ws=.ok (u0,M)):=D;clear V q S D;go_wp2_with fail;refine(HG.o (i+1+A.length) r deep M Y Aa (l++u0) _ (z6t Q.o) Z.o Ad.o j.o Ah Ae.o (by omega) (by rw[List.length_append];omega)).mono ?_;rintro e w3⟨K,m⟩;cases H:g deep M with
  | error er=>
   rw[H]at K;obtain⟨G,rfl⟩:=K;have c:Hid (er≠0):=G;rw[q0h G];clear G;go_wp2;go_ret;refine⟨?_,(P.o.trans m)⟩;rw[z0m,J.o];dsimp only;rw[H];exact⟨c.o,by rw[q0h c.o];rfl⟩
  | ok p=>
   obtain⟨u,v⟩:=p;rw[H]at K;obtain⟨rfl,h3⟩:=K;have H3:Hid (∃wa' wc',WS B b (q5v be bf ds.length E (some ⟨s,X,none⟩)) ((l++u0)++u) (.slice wa' v.length wc') w3/\q2e B w3 wa' v/\v.length<=wc'):=h3;clear h3;go_wp2;go_ret;refine⟨?_,(P.o.trans m)⟩;rw[z0m,J.o];dsimp only;rw[H];rw[List.append_assoc]at H3;exact⟨rfl,H3.o⟩
theorem y7l(B b s be bf:Nat)(hb:s<B/\be<B/\bf<B)(hB:B<=b)(ds:List Nd)(a:Option Addr)(D:Nat)(hl:ds.length<=400)(tx:ByteArray)(n:Int)(Ac:0<=n)(Ad:n<=8)(A:List Nd)(f:Nat->List Int->Except Int (List UInt8 × List Int))(hA:q2q B b s be bf ds a D A f):q2q B b s be bf ds a D (⟨7,tx,n⟩::A) (fun deep ws=>f (deep+n.toNat) ws):=by
 intro i r deep ws X wc l w S Q k J V E G U;obtain⟨hi,g,h⟩:=q1j (x:=⟨7,tx,n⟩) (A:=A++r) S;obtain⟨M,ea,Z,c,d⟩:=Q.nd i hi;subst ea;rw[g]at Z c d;dsimp only at Z c d;have c0:=E.c0;have c1:=E.c1;have c2:=E.c2;have c5:=E.c5;have Ab:=E.lt;have Ae:s<w.heap.size:=by omega
 have R:B<=w.heap.size:=by omega
 have Aa:(i:Int)<(ds.length:Int):=by omega
 have HD:Hid (ds.drop i=⟨7,tx,n⟩::(A++r)):=S;have N:Hid (ds.drop (i+1)=A++r):=h;have q:Hid (LC B s be bf (some ⟨s,M,none⟩) ds w):=Q;have y:Hid (q2e B w X ws):=k;have z:Hid (WS B b (q5v be bf ds.length D (some ⟨s,M,none⟩)) l (.slice X ws.length wc) w):=E;have K:Hid (∀O:Obj,Below B w (w.alloc O)):=fun O=>(Below.refl _ w).alloc R O
 clear Q k E S g h;simp only[List.length_cons]at G U;have t:Hid (q2q B b s be bf ds (some ⟨s,M,none⟩) D A f):=hA;have HX:Hid (((i+1:Nat):Int)=(i:Int)+1):=(show _=_ by omega);have HY:Hid (((deep+n.toNat:Nat):Int)=(deep:Int)+n):=(show _=_ by omega);have P:Hid (q1y ws):=J;clear hA J;go_in;go_wp2_with fail;rw[<-HX.o,<-HY.o];refine(t.o (i+1) r (deep+n.toNat) ws X wc l _ N.o (q.o.W hb (K.o _)) (y.o.W (K.o _)) P.o V (z.o.alloc _) (by omega) (by omega)).mono ?_;rintro e m⟨L,I⟩;cases C:f (deep+n.toNat) ws with
 | error er=>
  rw[C]at L;obtain⟨H,rfl⟩:=L;have Y:Hid (er≠0):=H;rw[q0h H];clear H;go_wp2;go_ret;refine⟨?_,(K.o _).trans I⟩;rw[C];exact⟨Y.o,by rw[q0h Y.o];rfl⟩
 | ok p=>
  obtain⟨u,v⟩:=p;rw[C]at L;obtain⟨rfl,j⟩:=L;have o:Hid (∃wa' wc',WS B b (q5v be bf ds.length D (some ⟨s,M,none⟩)) (l++u) (.slice wa' v.length wc') m/\q2e B m wa' v/\v.length<=wc'):=j;clear j;go_wp2;go_ret;refine⟨?_,(K.o _).trans I⟩;rw[C];exact⟨rfl,o.o⟩
end Go.Proofs.YtelcnplcpboonaaGreatDoor
namespace Go.Proofs.YtelcnplcpboonaaGreatDoor
open Go Go.RowKit Go.Shelf
attribute [local go_sem] Oper.semAt_some
set_option maxRecDepth 100000
set_option maxHeartbeats 2000000
theorem k5t(s:ByteArray):(q1x s).length<=s.size+1:=by
 have:=j5k s.data.toList
 rw[<-Lib.size_eq]at this;unfold q1x;simpa using this
def lnV(pre:List LnT):List Value:=strCells (pre.map (·.1))
theorem v2r(A:List LnT)(x:LnT):lnV (A++[x])=lnV A++[.string x.1]:=by simp[lnV,strCells]
theorem j1c(n:Nat)(hn:3<=n)(s:ByteArray)(hs:s.size<=100000000)(Bn:Nat)(w:World)(V:Bn<w.heap.size)(hc:w.cell? ⟨Bn,0,none⟩=some (.string s)):
  CallsIn Fence.wide n prog 123 #[.slice none 0 0,.func (.func 124) #[] #[.pointer (some ⟨Bn,0,none⟩)]] w fun e w'=>∃A c,e=.returned (.slice A (q1x s).length c)/\q1n w (.slice A (q1x s).length c) (q1x s) w'/\Below w w w':=by
 have u:1<=n:=by omega
 have j:(q1x s).length<=100000001:=by have:=k5t s;omega
 obtain⟨i0,hi,a,b,d⟩:=info_parts z3r;obtain⟨F,E⟩:∃F,F=Fence.wide:=⟨_,rfl⟩;rw[<-E];have i:∀f,F.fn f:=fun f=>by rw[E];trivial
 have Q:F.round=none:=by rw[E];rfl
 have U:Hid (F=Fence.wide):=E;have m:=Boxed.new w 72 (.slice none 0 0);have N:Below w w (w.alloc (.cells #[.slice none 0 0] 72)):=(Below.refl _ w).alloc Zl _;have I:=z3e (n-1) (by omega) Bn w.heap.size s hs (w.alloc (.cells #[.slice none 0 0] 72)) (by simp;omega) ((N.cell (p:=⟨Bn,0,none⟩) V).trans hc);rw[<-U.o]at I;clear E;refine callsIn_of_wp_marks func123 rfl (i 123) ?_ Q;simp only[ntmps123,List.size_toArray,List.length_cons,List.length_nil,Nat.reduceAdd,Nat.reduceSub,Array.replicate_succ,Array.replicate_zero,List.push_toArray,List.append_toArray,List.nil_append,List.cons_append]
 gi_wp2
 refine wpIn_rangeFunc_ownF Q u (gf:=124) (lb:=#[.pointer (some ⟨Bn,0,none⟩)]) rfl (i 124) (enters_of func124 (by kernel_rfl) rfl)
  I belowK_t (belowK_b (by simp)) Zb (fun _=>rfl)
  (fun C W=>(∃v,Boxed W w.heap.size 72 v/\W.ownsRow w.heap.size 9 1 v C.length (lnV C)/\True)/\Below w w W)
  (fun _ _ _=>False)
  (OwnFrom.and (Own.from (holdsRow_own w.heap.size w.heap.size 72 9 1 (fun C:List LnT=>C.length) (fun C=>lnV C) (fun _ _=>True)) _) (ownFrom_below Zl (by simp)))
  (fun _ _ _ _ _ hs _ _=>hs)
  ⟨⟨_,m,World.ownsRow_nil _ _ _ _,trivial⟩,N⟩
  (fun x=>{tmps:=#[.slice none 0 0,.func (.func 124) #[] #[.pointer (some ⟨Bn,0,none⟩)],.pointer (some ⟨w,0,none⟩),undef,.slice none 0 0,.string x.1,.func (.func 124) #[] #[.pointer (some ⟨Bn,0,none⟩)],.string x.1,undef,undef,undef,undef,undef],defers:=[]}) ?assign ?body ?done ?stop
 case assign=>
  intro l x W K O
  gi_wp2
  exact O
 case body=>
  rintro l C x W⟨⟨v,J,B,_⟩,M⟩Ab;have hc:=J.cell
  gi_wp2_with (gi_at_builtin;refine wpListIn_append_own _ rfl _ _ 72 rfl w.heap.size 9 i0 (.string ⟨#[]⟩) 1 16 Tryz.underlying72 hi a b d rfl (by decide) _ _ _ rfl (B.alloc _) ⟨W,0,none⟩ 1 1 [.string x.1] rfl rfl (cell_one_new _ _ _) (by simp[Value.oneCell']) (by unfold maxLen;omega) (by omega) (by have:=M.size;simp;omega) ?_;intro v' w1 G L _;obtain⟨r,g,rfl⟩:=ownsRow_succ G;obtain⟨R,Z,Y,X,P⟩:=J.appended (by decide) B M.size Zl G L;have z:=R.cell;have Aa:=R.frozen)
  exact⟨X,P,⟨_,Z,by rw[v2r];simpa using Y,trivial⟩,M.trans P⟩
 case done=>
  rintro D k W y S⟨⟨v,J,B,_⟩,M⟩O;have hc:=J.cell;have hl:k.length=(q1x s).length:=by rw[<-S,List.length_map]
  have H:lnV k=strCells (q1x s):=by rw[lnV,S]
  rw[hl,H]at B
  obtain⟨A,c,rfl⟩:∃A c,v=.slice A (q1x s).length c:=by
   rcases B.2 with⟨J,t⟩|⟨r,o,q,J,_⟩
   ·exact⟨none,0,by rw[J,t]⟩
   ·exact⟨_,o,J⟩
  gi_wp2
  refine⟨by simp,.inl ⟨_,_,rfl,run_takeDeferred O,?_⟩⟩;exact⟨_,results_tmp rfl _ _ _,A,c,rfl,ownsRow_putObj B _ O rfl,M.trans (belowK_b (w:=w) Zl W D _ _ (by simp at y;omega) O rfl rfl)⟩
 case stop=>
  rintro D c C W _ _ h _;exact h.elim
theorem k2e(s:ByteArray)(hs:s.size<=100000000)(Bn:Nat)(w:World)(B:Bn<w.heap.size)(hc:w.cell? ⟨Bn,0,none⟩=some (.string s)):
  Calls prog 90 #[.func (.func 124) #[] #[.pointer (some ⟨Bn,0,none⟩)]] w fun e w'=>∃A c,e=.returned (.slice A (q1x s).length c)/\q1n w (.slice A (q1x s).length c) (q1x s) w'/\Below w w w':=by
 have C:Hid (Calls prog 123 #[.slice none 0 0,.func (.func 124) #[] #[.pointer (some ⟨Bn,0,none⟩)]] w fun e w'=>∃A c,e=.returned (.slice A (q1x s).length c)/\q1n w (.slice A (q1x s).length c) (q1x s) w'/\Below w w w'):=callsIn_wide.1 (j1c 3 Zl s hs Bn w B hc);clear hc hs
 generalize(q1x s).length=nl at C⊢
 go_in;go_wp2_with fail;refine C.o.mono ?_;rintro e H⟨A,c,rfl,D,G⟩;have E:Hid (q1n w (.slice A nl c) (q1x s) H):=D;clear D;go_wp2;go_ret;exact⟨A,c,rfl,E.o,G⟩
end Go.Proofs.YtelcnplcpboonaaGreatDoor
