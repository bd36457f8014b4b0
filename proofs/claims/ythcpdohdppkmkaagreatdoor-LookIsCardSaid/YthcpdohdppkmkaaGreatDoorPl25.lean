import Derived.Test.YthcpdohdppkmkaaGreatDoorPl24
open Go.Proofs.Tryz
namespace Go.Proofs.YthcpdohdppkmkaaGreatDoor
open Go Go.RowKit
theorem y6o(s:List UInt8):(tkW s).length<=q1d s:=by
 unfold tkW;refine Nat.le_trans (z0z _) ?_;rw[List.length_take];omega
theorem z8p:∀(n:Nat)(s:List UInt8)(i:Nat),s.length<=n->((lxW s i).map fun x=>x.2.length).sum<=s.length
 | 0,s,i,h=>by
  have:s=[]:=List.eq_nil_of_length_eq_zero (by omega)
  subst this;rw[lxW,z4i];simp
 | n+1,s,i,h=>by
  cases s with
  | nil=>rw[lxW,z4i];simp
  | cons c r=>
   cases hs:spB c with
   | true=>
    have ih:=z8p n r (i+1) (by simp at h;omega);rw[lxW,j6p r i hs];rw[lxW]at ih;simp only[List.length_cons];omega
   | false=>
    cases ho:q6o (c::r)with
    | false=>rw[lxW,k7b i hs ho];simp
    | true=>
     have hp:=q5i c r;have hle:=z0v (c::r);have ih:=z8p n ((c::r).drop (q1d (c::r))) (i+q1d (c::r)) (by simp only[List.length_drop];omega);have hw:=y6o (c::r);rw[List.length_drop]at ih;rw[lxW,k7c i hs ho];simp only[List.map_cons,List.sum_cons];omega
theorem v0x(s:List UInt8):((q2m s).map List.length).sum<=s.length:=by
 have h:=z8p s.length s 0 Zl;rw[q2m,List.map_map];exact h
def szW(W:List Wd):Nat:=(W.map fun x=>x.length+1).sum
theorem k5g(a b:List Wd):szW (a++b)=szW a+szW b:=by simp[szW]
theorem q2i(x:Wd)(b:List Wd):szW (x::b)=x.length+1+szW b:=by simp[szW]
theorem z9m:∀W:List Wd,W.length<=szW W
 | []=>Nat.zero_le _
 | x::r=>by have:=z9m r;rw[q2i,List.length_cons];omega
theorem y1j:∀W:List Wd,(jb W).length<=szW W
 | []=>Nat.zero_le _
 | x::r=>by
  have:=y1j r
  rw[q2i];cases r with
  | nil=>simp[jb];omega
  | cons y r=>
   have e:jb (x::y::r)=x++32::jb (y::r):=by simp[jb]
   rw[e,List.length_append,List.length_cons];omega
theorem z3w:∀(l cur:Wd),szW (Lib.fieldsGo cur l)<=2*(cur.length+l.length)
 | [],cur=>by
  cases cur with
  | nil=>simp[Lib.fieldsGo,szW]
  | cons a z=>simp[Lib.fieldsGo,szW];omega
 | c::l,cur=>by
  cases hs:Lib.isSp c with
  | true=>
   have ih:=z3w l [];cases cur with
   | nil=>
    rw[Lib.fieldsGo_sp _ _ hs];simp only[List.length_nil,List.length_cons]at ih⊢;omega
   | cons a z=>
    rw[Lib.fieldsGo_end _ _ _ hs (by simp),q2i];simp only[List.length_nil,List.length_cons]at ih⊢;omega
  | false=>
   have ih:=z3w l (cur++[c]);rw[Lib.fieldsGo_more _ _ _ hs];simp only[List.length_append,List.length_cons,List.length_nil]at ih⊢;omega
theorem y4z(w:Wd):szW (q9r w)<=2*w.length:=by
 have:=z3w (w.drop 1) []
 rw[List.length_drop]at this;simp only[List.length_nil]at this;show szW (Lib.fieldsGo [] (w.drop 1))<=_;omega
theorem j4j:∀nts:List Wd,szW (nts.flatMap q9r)<=2*(nts.map List.length).sum
 | []=>Nat.zero_le _
 | x::r=>by
  have h1:=j4j r;have h2:=y4z x;rw[List.flatMap_cons,k5g,List.map_cons,List.sum_cons];omega
theorem v6e(ws:List Wd)(p k:Nat):(((ws.drop p).take k).map List.length).sum<=(ws.map List.length).sum:=by
 have e:ws=ws.take p++((ws.drop p).take k++(ws.drop p).drop k):=by rw[List.take_append_drop,List.take_append_drop]
 have h:=congrArg (fun l=>(l.map List.length).sum) e;simp only[List.map_append,List.sum_append]at h;omega
set_option maxRecDepth 100000
set_option maxHeartbeats 2000000
theorem j9w:∀W:List Wd,(∀w∈W,w.length<=20)->szW W<=21*W.length
 | [],_=>Nat.le_refl _
 | x::r,h=>by
  have h1:=j9w r fun w hw=>h w (by simp[hw])
  have h2:=h x (by simp);rw[q2i,List.length_cons];omega
theorem z8v{tx:ByteArray}(h:q2x tx=0):Lib.fields (btL tx)=q0f (btL tx)/\(btL tx).length<=2000/\∀b∈btL tx,b.toNat<128:=by
 obtain⟨I,E⟩:=j8c h;by_cases B:btL tx=[]
 ·rw[B];exact⟨rfl,by simp,fun b A=>by cases A⟩
 ·have H:q0f (btL tx)=q5l (btL tx):=by rw[q0f,if_neg B]
  rw[H]at I E⊢;have G:=j4v (btL tx)
  have C:∀b∈btL tx,prB b=true:=by
   intro b A;rw[<-G]at A;refine k6s (p:=prB) rfl (q5l (btL tx)) (fun w D b A=>?_) b A;have J:=(E w D).2.2 b A;simp only[q8c,Bool.and_eq_true,decide_eq_true_eq]at J;simp only[prB,Bool.and_eq_true,decide_eq_true_eq];omega
  refine⟨?_,?_,fun b A=>?_⟩
  ·rw[z1n fun b A hs=>y5z (C b A) hs,List.filter_eq_self];intro w D
   have:=(E w D).1
   cases w with
   | nil=>exact absurd rfl this
   | cons=>rfl
  ·have K:=y1j (q5l (btL tx));have L:=j9w (q5l (btL tx)) fun w D=>(E w D).2.1
   rw[G]at K;omega
  ·have:=C b A
   simp only[prB,Bool.and_eq_true,decide_eq_true_eq]at this;omega
theorem k3z{tx:ByteArray}(h:q2x tx=0)(w:World)(ht:z2t w):Calls prog 164 #[.string tx] w fun e w'=>(∃g,e=.returned (.slice (some ⟨g,0,none⟩) (q0f (btL tx)).length (q0f (btL tx)).length)/\Wds w' (some ⟨g,0,none⟩) ((q0f (btL tx)).map wbS))/\Below w w w':=by
 obtain⟨B,C,D⟩:=z8v h;rw[<-B];rw[q0b]at C;refine(fields_sh tx w (by omega) (fun j c hj=>D c (List.mem_of_getElem? hj)) ht.spc).mono ?_;rintro e w'⟨rfl,rfl⟩;refine⟨⟨w.heap.size,rfl,?_⟩,q4c w _⟩;intro i E;have A:i<(Lib.fields (btL tx)).length:=by simpa using E
 refine⟨w.heap.size,0,rfl,by rw[World.size_alloc];omega,?_⟩;rw[Nat.zero_add];have G:=heap_alloc_new w (.cells ((Lib.fields (btL tx)).map fun l=>Value.string ⟨l.toArray⟩).toArray 9);rw[Lib.cell_of_heap G]
 show((Lib.fields (btL tx)).map fun l=>Value.string ⟨l.toArray⟩).toArray[i]?=_
 rw[List.getElem?_toArray,List.getElem?_map,show(Lib.fields (btL tx))[i]?=some (Lib.fields (btL tx))[i]from List.getElem?_eq_getElem A];simp[wbS]
theorem z4o{t:List Td}{a:Option Addr}{w:World}(h:q0c t=0)(hN:Tds w a t):0<t.length/\∃b o,a=some ⟨b,o,none⟩/\b<w.heap.size/\w.cell? ⟨b,o,none⟩=some (.int .i64 (opT t))/\w.cell? ⟨b,o+1,none⟩=some (.string (txT t)):=by
 have A:=z0x h;obtain⟨b,o,e,D,B,C,_⟩:=hN 0 A;refine⟨A,b,o,e,D,?_,?_⟩
 ·rw[z4n A];simpa using B
 ·cases t with
  | nil=>simp at A
  | cons x r=>simpa[txT]using C
theorem z4h{b o cap n:Nat}{op:Int}{w:World}(hn:0<n)(h:w.cell? ⟨b,o,none⟩=some (.int .i64 op)):Calls prog 59 #[.slice (some ⟨b,o,none⟩) n cap] w fun e w'=>e=.returned (.bool (op==9))/\w=w':=by
 have A:(0:Int)<(n:Int):=by omega
 go_in;go_wp2;go_ret;exact⟨rfl,rfl⟩
theorem k9o(t:List Td)(a:Option Addr)(cap:Nat)(w:World)(ht:j1m w)(hc:t.length<=cap)(hN:Tds w a t)(M:j1k t):Calls prog 23 #[.slice a t.length cap] w fun e w'=>z3g t e w'/\Below w w w':=by
 have O:Hid (Calls prog 56 #[.slice a t.length cap] w fun e w'=>e=.returned (q1r (q0c t))/\Below w w w'):=q7c t a cap w hc hN M;have S:Hid (Tds w a t):=hN;have d:Hid (j1m w):=ht;clear hN M ht;by_cases D:q0c t=0
 ·obtain⟨L,b,o,rfl,g,V,f⟩:=z4o D S.o;have P:Hid (∀W:World,Below w w W->Calls prog 59 #[.slice (some ⟨b,o,none⟩) t.length cap] W fun e w'=>e=.returned (.bool (opT t==9))/\W=w'):=fun W h=>z4h L (((q1z h).1 _ _ g).trans V)
  rw[D]at O;clear V f;by_cases I:opT t=9
  ·obtain⟨K,C,_,_⟩:=z8l D I;have G:Hid (∀W,z3g t (.returned (.tuple #[.slice none 0 0,q1r 2])) W):=fun W=>⟨none,0,by rw[K,C];rfl,by rw[C];exact fun i hi=>by simp at hi,by rw[C];exact Nat.le_refl _⟩
   rw[show(opT t==9)=true by simp[I]]at P;clear D I K C;go_in;go_wp2_with fail;refine O.o.mono ?_;rintro e N⟨rfl,H⟩;rw[q0z];have B:Hid (Below w w N):=H;clear H;go_wp2_with fail;refine(P.o _ B.o).mono ?_;rintro e j⟨rfl,rfl⟩;go_wp2;go_ret2;exact⟨G.o _,B.o⟩
  ·have E:Hid (∀W:World,Below w w W->Calls prog 60 #[.slice (some ⟨b,o,none⟩) t.length cap] W fun e w'=>(∃A c,e=.returned (.tuple #[.slice A (q8l t).length c,q1r (q8z t)])/\q1u w' A (q8l t)/\(q8l t).length<=c)/\Below W W w'):=fun W h=>j5x t _ cap W (d.o.W h) D I hc (S.o.W h)
   have G:Hid (∀A c W,q1u W A (q8l t)->(q8l t).length<=c->z3g t (.returned (.tuple #[.slice A (q8l t).length c,q1r (q8z t)])) W):=fun A c W h h2=>⟨A,c,rfl,h,h2⟩
   rw[show(opT t==9)=false by simp[I]]at P;generalize q8l t=xs at E G;generalize q1r (q8z t)=er at E G;clear D I;go_in;go_wp2_with fail;refine O.o.mono ?_;rintro e N⟨rfl,H⟩;rw[q0z];have B:Hid (Below w w N):=H;clear H;go_wp2_with fail;refine(P.o _ B.o).mono ?_;rintro e j⟨rfl,rfl⟩;go_wp2_with fail;refine(E.o _ B.o).mono ?_;rintro e Z⟨⟨A,c,rfl,X,Y⟩,U⟩;have Q:Hid (Below w w Z):=q0e B.o Zl U;have J:=hid (G.o A c Z X Y);clear X Y U;generalize xs.length=nx at J⊢;go_wp2;go_ret2;exact⟨J.o,Q.o⟩
 ·obtain⟨K,C,_,_⟩:=j5d D;have R:Hid (q1r (q0c t)=.iface 22 (.int .i64 (q0c t))):=q0l D;have G:Hid (∀W,z3g t (.returned (.tuple #[.slice none 0 0,q1r (q0c t)])) W):=fun W=>⟨none,0,by rw[K,C];rfl,by rw[C];exact fun i hi=>by simp at hi,by rw[C];exact Nat.le_refl _⟩
  clear K C D;go_in;go_wp2_with fail;refine O.o.mono ?_;rintro e N⟨rfl,H⟩;rw[R.o];go_wp2;go_ret2;exact⟨by have:=G.o N;rw[R.o]at this;exact this,H⟩
theorem k4r{t:List Td}(h:q0c t=0)(h9:opT t=9):q2x (txT t)=0:=by
 rcases z9i h with⟨x,rfl,_,_,A⟩|⟨x,F,rfl,_,_,_,C⟩
 ·exact A
 ·exfalso;have e:opT (x::F.N)=x.op:=rfl;rcases C with⟨B,_⟩|⟨B,_⟩<;>omega
theorem k3w(t:List Td)(a:Option Addr)(cap:Nat)(w:World)(ht:z2t w)(hc:t.length<=cap)(hN:Tds w a t)(R:j1k t):Calls prog 101 #[.slice a t.length cap] w fun e w'=>z7l t e w'/\Below w w w':=by
 have S:Hid (Calls prog 56 #[.slice a t.length cap] w fun e w'=>e=.returned (q1r (q0c t))/\Below w w w'):=q7c t a cap w hc hN R;have n:Hid (Tds w a t):=hN;have p:Hid (z2t w):=ht;clear hN R ht;by_cases D:q0c t=0
 ·obtain⟨Q,b,o,rfl,l,j,V⟩:=z4o D n.o;have U:Hid (∀W:World,Below w w W->Calls prog 59 #[.slice (some ⟨b,o,none⟩) t.length cap] W fun e w'=>e=.returned (.bool (opT t==9))/\W=w'):=fun W h=>z4h Q (((q1z h).1 _ _ l).trans j)
  have H:Hid (∀W:World,Below w w W->W.cell? ⟨b,o+1,none⟩=some (.string (txT t))):=fun W h=>((q1z h).1 _ _ l).trans V
  rw[D]at S;have q:(0:Int)<(t.length:Int):=by omega
  clear j V;by_cases J:opT t=9
  ·obtain⟨_,_,G,B⟩:=z8l D J;have K:=k4r D J;have Y:(txT t).size<=2000:=by rw[<-q0b];exact(z8v K).2.1
   have O:Hid (∀W:World,Calls prog 51 #[.string (txT t)] W fun e w'=>e=.returned (.string (txT t))/\Below W W w'):=fun W=>q8k _ W (by omega)
   have I:Hid (∀W:World,Below w w W->Calls prog 164 #[.string (txT t)] W fun e w'=>(∃g,e=.returned (.slice (some ⟨g,0,none⟩) (q0f (btL (txT t))).length (q0f (btL (txT t))).length)/\Wds w' (some ⟨g,0,none⟩) ((q0f (btL (txT t))).map wbS))/\Below W W w'):=fun W h=>k3z K W (p.o.W h)
   have L:Hid (∀A c W,Wds W A ((q0f (btL (txT t))).map wbS)->(q0f (btL (txT t))).length<=c->z7l t (.returned (.tuple #[.slice A (q0f (btL (txT t))).length c,q1r 0])) W):=fun A c W h h2=>⟨A,c,by rw[G,B,List.length_map],by rw[B];exact h,by rw[B,List.length_map];exact h2⟩
   rw[show(opT t==9)=true by simp[J]]at U;generalize q0f (btL (txT t))=ws at I L;generalize txT t=tx at I H O;clear D J G B Y K;go_in;go_wp2_with fail;refine S.o.mono ?_;rintro e M⟨rfl,E⟩;rw[q0z];have V:=H.o M E;have C:Hid (Below w w M):=E;clear E;go_wp2_with fail;refine(U.o _ C.o).mono ?_;rintro e r⟨rfl,rfl⟩;go_wp2_with fail;refine(O.o _).mono ?_;rintro e s⟨rfl,d⟩;have N:Hid (Below w w s):=q0e C.o Zl d;clear d;go_wp2_with fail;refine(I.o _ N.o).mono ?_;rintro e m⟨⟨g,rfl,k⟩,f⟩;have X:Hid (Below w w m):=q0e N.o Zl f;have P:=hid (L.o _ ws.length m k Zl);clear k f V;generalize ws.length=nw at P⊢;go_wp2;go_ret2;exact⟨P.o,X.o⟩
  ·have L:Hid (∀W,z7l t (.returned (.tuple #[.slice none 0 0,q1r 2])) W):=fun W=>by
    have G:k2w t=2:=by rw[k2w,if_neg (by simp[D]),if_neg J]
    have B:k9p t=[]:=by rw[k9p,if_neg (by rw[G];decide)]
    exact⟨none,0,by rw[G,B];rfl,by rw[B];exact fun i hi=>by simp at hi,by rw[B];exact Nat.le_refl _⟩
   rw[show(opT t==9)=false by simp[J]]at U;clear D J H;go_in;go_wp2_with fail;refine S.o.mono ?_;rintro e M⟨rfl,E⟩;rw[q0z];have C:Hid (Below w w M):=E;clear E;go_wp2_with fail;refine(U.o _ C.o).mono ?_;rintro e r⟨rfl,rfl⟩;go_wp2;go_ret2;exact⟨L.o _,C.o⟩
 ·obtain⟨_,_,G,B⟩:=j5d D;have Z:Hid (q1r (q0c t)=.iface 22 (.int .i64 (q0c t))):=q0l D;have L:Hid (∀W,z7l t (.returned (.tuple #[.slice none 0 0,q1r (q0c t)])) W):=fun W=>⟨none,0,by rw[G,B];rfl,by rw[B];exact fun i hi=>by simp at hi,by rw[B];exact Nat.le_refl _⟩
  clear G B D;go_in;go_wp2_with fail;refine S.o.mono ?_;rintro e M⟨rfl,E⟩;rw[Z.o];go_wp2;go_ret2;exact⟨by have:=L.o M;rw[Z.o]at this;exact this,E⟩
set_option maxHeartbeats 4000000
theorem q1g(s:ByteArray)(w:World):Calls prog 36 #[.string s] w fun e w'=>e=.returned (.bool (q0p s))/\w=w':=by
 by_cases P:(s.size:Int)<1
 ·have B:Hid (q0p s=false):=z4j (by omega);go_in;go_wp2;go_ret;exact⟨by rw[B.o];rfl,rfl⟩
 by_cases Q:8<(s.size:Int)
 ·have B:Hid (q0p s=false):=z6p (by omega);go_in;go_wp2;go_ret;exact⟨by rw[B.o];rfl,rfl⟩
 by_cases D:s=⟨#[108,101,116]⟩
 ·subst D;go_in;go_wp2;go_ret;exact⟨by rfl,rfl⟩
 have N:Hid (¬s=⟨#[108,101,116]⟩):=D
 have J:¬s.toList=[108,101,116]:=by
  rw[ByteArray.toList_eq];intro e;exact D (j5l.1 e)
 have L:(s.toList==[108,101,116])=false:=beq_false_of_ne J;have M:(⟨#[108,101,116]⟩:ByteArray).toList=[108,101,116]:=by rw[ByteArray.toList_eq]
 clear D;go_in;go_wp2
 go_loopw [3] (fun i wr=>wr=w/\∃k:Nat,k<=s.size/\i=.int .i64 k/\∀j(h:j<s.size),j<k->q2j s[j]=true) (fun i _=>s.size-(intOf i).toNat)
 case atStart=>exact⟨rfl,0,Nat.zero_le _,rfl,fun j _ hj=>by omega⟩
 case round=>
  obtain⟨rfl,k,R,rfl,A⟩:=hrel;have K:Hid (∀j(h:j<s.size),j<k->q2j s[j]=true):=A;clear A;by_cases I:k<s.size
  ·cases C:q2j s[k]with
   | false=>
    have B:Hid (q0p s=false):=k1v I C;have G:Hid (q2j s[k]=false):=C;clear C;go_wp2_with(go_at_call 74;refine(q6h _ _).mono ?_;rintro e O⟨rfl,rfl⟩;rw[G.o]);go_ret;exact⟨by rw[B.o];rfl,rfl⟩
   | true=>
    have G:Hid (q2j s[k]=true):=C
    have E:Hid (∀j(h:j<s.size),j<k+1->q2j s[j]=true):=fun j h hj=>by
     by_cases H:j=k
     ·subst H;exact C
     ·exact K.o j h (by omega)
    clear C;go_wp2_with(go_at_call 74;refine(q6h _ _).mono ?_;rintro e O⟨rfl,rfl⟩;rw[G.o])
    go_roundw
    case rel=>exact⟨by trivial,k+1,by omega,by go_num,E.o⟩
    case measure=>simp[intOf];omega
  ·have B:Hid (q0p s=true):=k1u (by omega) (by omega) N.o fun j h=>K.o j h (by omega)
   go_wp2;go_ret;exact⟨by rw[B.o];rfl,rfl⟩
theorem v0n(s:ByteArray)(i e:Nat)(h1:i<=e)(h2:e<=s.size)(W:World):(Instr.slice 9 (.string s) (some (.int .i64 (i:Int))) (some (.int .i64 ((e:Nat):Int))) none).run prog W=.ok (.string (wbS (((btL s).drop i).take (e-i)))) W:=by
 have h:=run_slice_string (P:=prog) (w:=W) 9 s .i64 .i64 (i:Int) (e:Int) Tryz.underlying9 (by omega) (by omega) (by omega);rw[Int.toNat_natCast,Int.toNat_natCast,q9p]at h;exact h
structure y7o(s:ByteArray)(w:World)(fr i:Nat)(dn:List (List UInt8))(A:Option Addr)(c:Nat)(wr:World):Prop where
 b:Below w w wr
 le:fr<=i
 li:i<=s.size
 ln:dn.length<=fr
 no:∀j(h:j<s.size),fr<=j->j<i->s[j]≠32
 eq:q5l (btL s)=dn++q5l ((btL s).drop fr)
 ro:wr.ownsRow w.heap.size 9 1 (.slice A dn.length c) dn.length (strCells (dn.map wbS))
theorem k7i{s:ByteArray}{fr i:Nat}(h:fr<=i)(hi:i<=s.size)(no:∀j(h:j<s.size),fr<=j->j<i->s[j]≠32):∀b∈((btL s).drop fr).take (i-fr),b≠32:=by
 intro b A;obtain⟨j,B,rfl⟩:=List.getElem_of_mem A;rw[List.length_take,List.length_drop,q0b]at B;rw[List.getElem_take,List.getElem_drop];exact no (fr+j) (by omega) (by omega) (by omega)
theorem v4z{s:ByteArray}{fr i:Nat}(h:fr<=i)(hi:i<s.size):(btL s).drop fr=((btL s).drop fr).take (i-fr)++s[i]::(btL s).drop (i+1):=by
 have A:=(List.take_append_drop (i-fr) ((btL s).drop fr)).symm;rw[List.drop_drop,show fr+(i-fr)=i by omega,q1i hi]at A;exact A
theorem j8i{s:ByteArray}{fr:Nat}:((btL s).drop fr).take (s.size-fr)=(btL s).drop fr:=by
 rw[List.take_of_length_le (by rw[List.length_drop,q0b];exact Nat.le_refl _)]
theorem q4e(s:ByteArray)(w:World)(Aa:s.size<=1000000000000):Calls prog 34 #[.string s] w fun e w'=>(∃A c,e=.returned (.slice A (q0f (btL s)).length c)/\q1x w (.slice A (q0f (btL s)).length c) ((q0f (btL s)).map wbS) w')/\Below w w w':=by
 by_cases l:s.size=0
 ·have o:Hid (q0f (btL s)=[]):=by
   show q0f (btL s)=[];rw[q0f,if_pos (List.eq_nil_of_length_eq_zero (by rw[q0b];exact l))]
  have q:((s.size:Int)==0)=true:=beq_iff_eq.2 (by omega);clear l;go_in;go_wp2;go_ret;rw[o.o];exact⟨⟨none,0,rfl,World.ownsRow_nil _ _ _ _⟩,Below.refl _ _⟩
 ·have o:Hid (q0f (btL s)=q5l (btL s)):=by
   show q0f (btL s)=_;rw[q0f,if_neg];intro e
   have:=congrArg List.length e
   rw[q0b,List.length_nil]at this;exact l this
  have q:((s.size:Int)==0)=false:=beq_false_of_ne (by omega);clear l;obtain⟨i0,X,a,d,g⟩:=info_parts q9d;go_in;go_wp2
  go_loopw [3,4,5] (fun x f i wr=>∃(E k:Nat)(H:List (List UInt8))(A:Option Addr)(c:Nat),x=.slice A H.length c/\f=.int .i64 (E:Int)/\i=.int .i64 (k:Int)/\y7o s w E k H A c wr) (fun _ _ i _=>s.size-(intOf i).toNat)
  case atStart=>exact⟨0,0,[],none,0,rfl,rfl,rfl,{b:=Below.refl _ _,le:=Nat.le_refl _,li:=Nat.zero_le _,ln:=Nat.le_refl _,no:=fun j _ _ h=>by omega,eq:=rfl,ro:=World.ownsRow_nil _ _ _ _}⟩
  case round=>
   obtain⟨E,k,H,A,c,rfl,rfl,rfl,R⟩:=hrel;have G:Hid (y7o s w E k H A c wr):=R;have L:=R.le;have N:=R.li;have y:=R.ln;have Y:=R.b.size;clear R;by_cases O:k<s.size
   ·have v:(k:Int)<(s.size:Int):=by omega
    cases S:(s[k]==32)with
    | true=>
     have r:((s[k].toNat:Int)==32)=true:=by rw[show(32:Int)=((32:Nat):Int)from rfl,q5w _ 32 (by decide)];exact S
     have Q:=v0n s E k L N
     have I:Hid (q5l (btL s)=(H++[((btL s).drop E).take (k-E)])++q5l ((btL s).drop (k+1))):=by
      show _=_;have M:=v4z L O;rw[beq_iff_eq.1 S]at M;rw[G.o.eq,List.append_assoc]
      congr 1
      conv=>lhs;rw[M]
      rw[k7y _ _ (k7i L N G.o.no)];rfl
     generalize((btL s).drop E).take (k-E)=W at Q I
     clear S;go_wp2_with(at_builtin;refine wpList_append_lies _ rfl _ _ 42 rfl w.heap.size 9 i0 _ 1 16 Tryz.underlying42 X a d g rfl (by decide) _ _ _ rfl (World.ownsRow.alloc G.o.ro _) ⟨wr,0,none⟩ 1 1 [.string (wbS W)] rfl rfl (cell_one_new wr _ _) (by intro u Z;simp at Z;subst Z;rfl) (by decide) (by unfold maxLen;omega) (by omega) (by simp;omega) (wr.heap.size+1) (by simp) ?_);intro U D m C B J K
     have p:Hid (y7o s w (k+1) (k+1) (H++[W]) (some ⟨U,0,none⟩) D m):=by
      refine{b:=(G.o.b.alloc Y (.cells #[.string (wbS W)] 9)).grown B (by simp;omega) (fun j hj=>(World.ownsRow.lt G.o.ro j hj).1),le:=Nat.le_refl _,li:=O,ln:=by simp;omega,no:=fun j _ _ h=>by omega,eq:=I.o,ro:=?_};rw[List.length_append,List.map_append,q2f];exact C
     clear C B J K;go_wp2
     go_roundw
     case rel=>exact⟨k+1,k+1,H++[W],some ⟨U,0,none⟩,D,by rw[List.length_append];rfl,by go_num,by go_num,p.o⟩
     case measure=>simp[intOf];omega
    | false=>
     have r:((s[k].toNat:Int)==32)=false:=by rw[show(32:Int)=((32:Nat):Int)from rfl,q5w _ 32 (by decide)];exact S
     have p:Hid (y7o s w E (k+1) H A c wr):=by
      refine{b:=G.o.b,le:=by omega,li:=O,ln:=y,no:=fun j h M h2=>?_,eq:=G.o.eq,ro:=G.o.ro};by_cases t:j=k
      ·subst t;simpa using S
      ·exact G.o.no j h M (by omega)
     clear S;go_wp2
     go_roundw
     case rel=>exact⟨E,k+1,H,A,c,rfl,rfl,by go_num,p.o⟩
     case measure=>simp[intOf];omega
   ·obtain rfl:k=s.size:=by omega
    have v:¬(s.size:Int)<(s.size:Int):=by omega
    have Q:∀W:World,(Instr.slice 9 (.string s) (some (.int .i64 (E:Int))) none none).run prog W=.ok (.string (wbS ((btL s).drop E))) W:=fun W=>by
     have h:=run_slice_string_l (P:=prog) W 9 s Tryz.underlying9 .i64 (E:Int) (by omega) (by omega);rw[Int.toNat_natCast,q9p,j8i]at h;exact h
    have I:Hid (q0f (btL s)=H++[(btL s).drop E]):=by
     show _=_;rw[o.o,G.o.eq,k7z];have M:=k7i L N G.o.no;rw[j8i]at M;exact M
    generalize(btL s).drop E=W at Q I
    go_wp2_with(at_builtin;refine wpList_append_lies _ rfl _ _ 42 rfl w.heap.size 9 i0 _ 1 16 Tryz.underlying42 X a d g rfl (by decide) _ _ _ rfl (World.ownsRow.alloc G.o.ro _) ⟨wr,0,none⟩ 1 1 [.string (wbS W)] rfl rfl (cell_one_new wr _ _) (by intro u Z;simp at Z;subst Z;rfl) (by decide) (by unfold maxLen;omega) (by omega) (by simp;omega) (wr.heap.size+1) (by simp) ?_);intro U D m C B J K;have V:=(G.o.b.alloc Y (.cells #[.string (wbS W)] 9)).grown B (by simp;omega) (fun j hj=>(World.ownsRow.lt G.o.ro j hj).1)
    have z:q1x w (.slice (some ⟨U,0,none⟩) (H.length+1) D) ((H++[W]).map wbS) m:=by
     show m.ownsRow _ _ _ _ _ _;rw[List.length_map,List.length_append,List.map_append,q2f];exact C
    have HO:=hid z;have n:=hid V;clear C B J K z V;go_wp2;go_ret;rw[I.o,List.length_append];exact⟨⟨some ⟨U,0,none⟩,D,rfl,HO.o⟩,n.o⟩
structure LwK where
 gw:Nat
 cw:Nat
 ga:Nat
 ca:Nat
structure Ry(K:LwK)(ws:List Wd)(pl:Nat->Nat)(b q:Nat)(w:World):Prop where
 le:q<=ws.length
 c0:w.cell? ⟨b,0,none⟩=some (.slice (some ⟨K.gw,q,none⟩) (ws.length+1-q) (K.cw-q))
 c1:w.cell? ⟨b,1,none⟩=some (.slice (some ⟨K.ga,q,none⟩) (ws.length+1-q) (K.ca-q))
 row:z9u w b 2
 wd:∀i,i<=ws.length->w.cell? ⟨K.gw,i,none⟩=some (.string (wbS (ws.getD i [])))
 pt:∀i,i<=ws.length->w.cell? ⟨K.ga,i,none⟩=some (.int .i64 (pl i:Int))
 nw:K.gw≠b
 na:K.ga≠b
 lw:ws.length<K.cw
 la:ws.length<K.ca
 few:ws.length<=60000
section
variable {K:LwK} {ws:List Wd} {pl:Nat→Nat} {b q:Nat} {w w':World}
theorem Ry.gwlt(h:Ry K ws pl b q w):K.gw<w.heap.size:=World.block_lt_of_cell? _ _ (h.wd 0 (Nat.zero_le _))
theorem Ry.galt(h:Ry K ws pl b q w):K.ga<w.heap.size:=World.block_lt_of_cell? _ _ (h.pt 0 (Nat.zero_le _))
theorem Ry.keepB{B:Nat}(h:Ry K ws pl b q w)(hb:Below B w w')(h1:b<B)(h2:K.gw<B)(h3:K.ga<B):Ry K ws pl b q w':=
 ⟨h.le,(hb.cell (p:=⟨b,0,none⟩) h1).trans h.c0,(hb.cell (p:=⟨b,1,none⟩) h1).trans h.c1,h.row.kept (hb.block b h1),fun i hi=>(hb.cell (p:=⟨K.gw,i,none⟩) h2).trans (h.wd i hi),fun i hi=>(hb.cell (p:=⟨K.ga,i,none⟩) h3).trans (h.pt i hi),h.nw,h.na,h.lw,h.la,h.few⟩
theorem Ry.keep(h:Ry K ws pl b q w)(hb:Below w w w'):Ry K ws pl b q w':=h.keepB hb h.row.lt h.gwlt h.galt
theorem Ry.step(h:Ry K ws pl b q w)(hq:q<ws.length){w':World}(A:w'=(w.setCell ⟨b,0,none⟩ (.slice (some ⟨K.gw,q+1,none⟩) (ws.length-q) (K.cw-q-1))).setCell ⟨b,1,none⟩ (.slice (some ⟨K.ga,q+1,none⟩) (ws.length-q) (K.ca-q-1))):Ry K ws pl b (q+1) w':=by
 subst A;have B:ws.length+1-(q+1)=ws.length-q:=by omega
 refine⟨hq,?_,?_,h.row.set.set,fun i hi=>?_,fun i hi=>?_,h.nw,h.na,h.lw,h.la,h.few⟩
 ·rw[B,Nat.sub_add_eq];exact(cso (.inr (by omega))).trans (css h.c0)
 ·rw[B,Nat.sub_add_eq];exact css ((cso (.inr (by omega))).trans h.c1)
 ·exact(cso (.inl h.nw.symm)).trans ((cso (.inl h.nw.symm)).trans (h.wd i hi))
 ·exact(cso (.inl h.na.symm)).trans ((cso (.inl h.na.symm)).trans (h.pt i hi))
end
theorem q3x{ws:List Wd}{q:Nat}(h:q<ws.length):ws.getD q []=ws[q]:=by simp[h]
theorem q6t{ws:List Wd}{q:Nat}(h:ws.length<=q):ws.getD q []=[]:=by simp[h]
theorem q6m{K:LwK}{ws:List Wd}{pl:Nat->Nat}{b q:Nat}{w:World}(h:Ry K ws pl b q w):
  Calls prog 93 #[.pointer (some ⟨b,0,none⟩)] w fun e w'=>e=.returned (.string (wbS (ws.getD q [])))/\w'=w:=by
 have A:=h.c0;have B:=h.wd q h.le;generalize wbS (ws.getD q [])=S at B⊢;have C:0<ws.length+1-q:=by have:=h.le;omega
 generalize ws.length+1-q=n at A C;generalize K.cw-q=c at A;clear h;go_in;go_wp2;go_ret;exact⟨rfl,rfl⟩
theorem v6c(b o n c:Nat)(hn:1<=n)(hc:1<c)(W:World):
  (Instr.slice 42 (.slice (some ⟨b,o,none⟩) n c) (some (.int .i64 1)) none none).run prog W=.ok (.slice (some ⟨b,o+1,none⟩) (n-1) (c-1)) W:=by
 rw[run_slice_l W 42 _ n c Tryz.underlying42 .i64 1 (by omega) (by omega)];have C:(sizeOf (prog.elem 42)).run prog W=.ok 1 W:=by kernel_rfl
 rw[C];have B:(⟨b,o,none⟩:Addr).add 1=⟨b,o+1,none⟩:=rfl;have A:¬c=1:=by omega
 simp[Result.andThen,sliced,B,A]
theorem v3v(b o n c:Nat)(hn:1<=n)(hc:1<c)(W:World):
  (Instr.slice 43 (.slice (some ⟨b,o,none⟩) n c) (some (.int .i64 1)) none none).run prog W=.ok (.slice (some ⟨b,o+1,none⟩) (n-1) (c-1)) W:=by
 rw[run_slice_l W 43 _ n c Tryz.underlying43 .i64 1 (by omega) (by omega)];have C:(sizeOf (prog.elem 43)).run prog W=.ok 1 W:=by kernel_rfl
 rw[C];have B:(⟨b,o,none⟩:Addr).add 1=⟨b,o+1,none⟩:=rfl;have A:¬c=1:=by omega
 simp[Result.andThen,sliced,B,A]
theorem q8g{K:LwK}{ws:List Wd}{pl:Nat->Nat}{b q:Nat}{w:World}(h:Ry K ws pl b q w)(hq:q<ws.length):
  Calls prog 198 #[.pointer (some ⟨b,0,none⟩)] w fun e w'=>e=.returned (.string (wbS ws[q]))/\Ry K ws pl b (q+1) w'/\But w b w w':=by
 have G:=h.c0;have I:=h.c1;have J:=h.wd q h.le;rw[q3x hq]at J;have P:w.frozen? ⟨b,0,none⟩=false:=h.row.frozen;have Q:w.frozen? ⟨b,1,none⟩=false:=h.row.frozen;have H:=hid h;have O:=h.lw;have N:=h.la;generalize wbS ws[q]=S at J⊢;have D:Hid (ws.length+1-q-1=ws.length-q):=(show _=_ by omega);have E:1<=ws.length+1-q:=by omega
 have B:=v6c K.gw q (ws.length+1-q) (K.cw-q) E (by omega);have C:=v3v K.ga q (ws.length+1-q) (K.ca-q) E (by omega);rw[D.o]at B C;generalize ws.length+1-q=n at G I B C E
 have A:Hid (∀w',w'=(w.setCell ⟨b,0,none⟩ (.slice (some ⟨K.gw,q+1,none⟩) (ws.length-q) (K.cw-q-1))).setCell ⟨b,1,none⟩ (.slice (some ⟨K.ga,q+1,none⟩) (ws.length-q) (K.ca-q-1))->Ry K ws pl b (q+1) w'/\But w b w w'):=fun w' hw=>⟨H.o.step hq hw,by
  subst hw
  exact((But.refl _ _ _).setCell (p:=⟨b,0,none⟩) (.inl rfl) _).setCell (p:=⟨b,1,none⟩) (.inl rfl) _⟩
 generalize ws.length-q=m at B C A;generalize K.cw-q=cw at G B A;generalize K.ca-q=ca at I C A;clear h O N hq;go_in;go_wp2_with fail
 go_region
 go_wp2;go_ret;obtain⟨L,M⟩:=A.o _ rfl;exact⟨rfl,L.keep (Below.drew Zb),M.drew⟩
abbrev q4v(k:Nat):PanicEntry:={v:=.iface 163 (.agg #[.int .i64 (k:Int)]),recovered:=false}
theorem k2s{K:LwK}{ws:List Wd}{pl:Nat->Nat}{b q:Nat}{w:World}(h:Ry K ws pl b q w):
  Calls prog 200 #[.pointer (some ⟨b,0,none⟩)] w fun e w'=>e=.panicked [q4v (pl q)]/\w'=w:=by
 have A:=h.c1;have C:=h.pt q h.le;have B:0<ws.length+1-q:=by have:=h.le;omega
 generalize ws.length+1-q=n at A B;generalize K.ca-q=c at A;clear h;go_in;go_wp2;exact⟨rfl,rfl,rfl⟩
theorem z5i(s:Wd)(lo hi:Nat)(w:World)(h1:1<=lo):
  Calls prog 233 #[.string (wbS s),.int .u8 (lo:Int),.int .u8 (hi:Int)] w fun e w'=>e=.returned (.bool (decide (lo<=(s.headD 0).toNat)&&decide ((s.headD 0).toNat<=hi)))/\w'=w:=by
 cases s with
 | nil=>
  have J:(decide (lo<=(([]:Wd).headD 0).toNat)&&decide ((([]:Wd).headD 0).toNat<=hi))=false:=by
   have:¬lo<=(([]:Wd).headD 0).toNat:=by show ¬lo<=0;omega
   simp only[decide_eq_false this,Bool.false_and]
  rw[J];have L:wbS []=⟨#[]⟩:=rfl;rw[L];clear J;go_in;go_wp2;go_ret;exact⟨rfl,rfl⟩
 | cons c r=>
  have D:0<(wbS (c::r)).size:=by rw[<-q0b];show 0<(c::r).length;simp
  have B:∀h:0<(wbS (c::r)).size,(wbS (c::r))[0]=c:=fun _=>rfl
  have H:¬(wbS (c::r)).toList=[]:=by rw[Lib.toList_data];show ¬(c::r)=[];simp
  have C:((wbS (c::r)).toList==[])=false:=by rw[Lib.toList_data];rfl
  have O:(⟨#[]⟩:ByteArray).toList=[]:=by rw[Lib.toList_data]
  show Calls _ _ _ _ fun e w'=>e=.returned (.bool (decide (lo<=c.toNat)&&decide (c.toNat<=hi)))/\w'=w
  have E:Hid (∀(a b:Bool),a=decide ((lo:Int)<=(c.toNat:Int))->b=decide ((c.toNat:Int)<=(hi:Int))->(decide (lo<=c.toNat)&&decide (c.toNat<=hi))=(a&&b)):=fun a b ha hb=>by
   subst ha hb;have M:decide ((lo:Int)<=(c.toNat:Int))=decide (lo<=c.toNat):=by congr 1;simp
   have N:decide ((c.toNat:Int)<=(hi:Int))=decide (c.toNat<=hi):=by congr 1;simp
   rw[M,N]
  generalize(decide (lo<=c.toNat)&&decide (c.toNat<=hi))=R at E⊢
  generalize wbS (c::r)=S at D B H C⊢;have K:=B D;clear B;by_cases G:(lo:Int)<=(c.toNat:Int)
  ·by_cases I:(c.toNat:Int)<=(hi:Int)
   ·have A:=E.o true true (decide_eq_true G).symm (decide_eq_true I).symm;simp only[Bool.and_self]at A;subst A;go_in;go_wp2;go_ret;exact⟨rfl,rfl⟩
   ·have A:=E.o true false (decide_eq_true G).symm (decide_eq_false I).symm;simp only[Bool.and_false]at A;subst A;go_in;go_wp2;go_ret;exact⟨rfl,rfl⟩
  ·have A:=E.o false (decide ((c.toNat:Int)<=(hi:Int))) (decide_eq_false G).symm rfl;simp only[Bool.false_and]at A;subst A;go_in;go_wp2;go_ret;exact⟨rfl,rfl⟩
theorem j1h(s:Wd)(w:World):Calls prog 253 #[.string (wbS s)] w fun e w'=>e=.returned (.bool (z0g s))/\w'=w:=by
 have A:Hid (∀W,Calls prog 233 #[.string (wbS s),.int .u8 48,.int .u8 57] W fun e w'=>e=.returned (.bool (z0g s))/\w'=W):=fun W=>z5i s 48 57 W (by omega)
 generalize z0g s=R at A⊢;go_in;go_wp2_with fail;refine(A.o _).mono ?_;rintro e B⟨rfl,rfl⟩;go_wp2;go_ret;exact⟨rfl,rfl⟩
theorem y5m:nmW z1u=false:=by decide
theorem k5q(s:Wd)(hs:s=[]\/q3a s)(w:World):Calls prog 199 #[.string (wbS s)] w fun e w'=>e=.returned (.bool (nmW s))/\w'=w:=by
 by_cases B:s=z1u
 ·subst B;rw[y5m];have G:wbS z1u=⟨#[108,101,116]⟩:=rfl;rw[G];clear hs;go_in;go_wp2;go_ret;exact⟨rfl,rfl⟩
 ·have E:nmW s=q2j (s.headD 0):=by
   rcases hs with rfl|hs
   ·decide
   ·rw[v6p hs];simp[B]
  rw[E];have C:Hid (∀W,Calls prog 233 #[.string (wbS s),.int .u8 97,.int .u8 122] W fun e w'=>e=.returned (.bool (q2j (s.headD 0)))/\w'=W):=fun W=>z5i s 97 122 W (by omega)
  have A:((wbS s).toList==[108,101,116])=false:=by
   rw[Lib.toList_data]
   show(s==[108,101,116])=false
   simpa using B
  have D:¬(wbS s).toList=[108,101,116]:=by
   intro e;rw[e]at A;cases A
  have H:(⟨#[108,101,116]⟩:ByteArray).toList=[108,101,116]:=by rw[Lib.toList_data]
  generalize q2j (s.headD 0)=R at C⊢;generalize wbS s=S at C D A⊢;clear hs E B;go_in;go_wp2_with fail;refine(C.o _).mono ?_;rintro e I⟨rfl,rfl⟩;go_wp2;go_ret;exact⟨rfl,rfl⟩
theorem z5k(s:Wd)(w:World):Calls prog 148 #[.string (wbS s)] w fun e w'=>e=.returned (.bool (decide (s.headD 0=35)))/\w'=w:=by
 have A:Hid (∀W,Calls prog 183 #[.string (wbS s),.string ⟨#[35]⟩] W fun e w'=>e=.returned (.bool (decide (s.headD 0=35)))/\w'=W):=fun W=>by
  have h:=hasPrefix_sh (wbS s) ⟨#[35]⟩ W
  have B:Lib.hasPrefix (wbS s).data.toList (⟨#[35]⟩:ByteArray).data.toList=decide (s.headD 0=35):=by
   show Lib.hasPrefix s [35]=_;cases s with
   | nil=>decide
   | cons c r=>
    show([35]:Wd).isPrefixOf (c::r)=decide (c=35)
    simp only[List.isPrefixOf,Bool.and_true];rw[Bool.eq_iff_iff,beq_iff_eq,decide_eq_true_eq];exact⟨Eq.symm,Eq.symm⟩
  rw[B]at h;exact h
 generalize decide (s.headD 0=35)=R at A⊢;go_in;go_wp2_with fail;refine(A.o _).mono ?_;rintro e C⟨rfl,rfl⟩;go_wp2;go_ret;exact⟨rfl,rfl⟩
section
variable {K:LwK} {ws:List Wd} {pl:Nat→Nat} {b q:Nat} {w:World}
theorem y6t(a c:Wd):((wbS a).toList==(wbS c).toList)=(a==c):=by
 rw[Lib.toList_data,Lib.toList_data];rfl
theorem q7i(h:Ry K ws pl b q w)(s:Wd)(hs:ws[q]?=some s):
  Calls prog 150 #[.pointer (some ⟨b,0,none⟩),.string (wbS s)] w fun e w'=>e=.returned (.bool true)/\Ry K ws pl b (q+1) w'/\But w b w w':=by
 obtain⟨C,B⟩:=List.getElem?_eq_some_iff.1 hs
 have E:Hid (Calls prog 93 #[.pointer (some ⟨b,0,none⟩)] w fun e w'=>e=.returned (.string (wbS s))/\w'=w):=by
  have A:=q6m h;rw[q3x C,B]at A;exact A
 have D:Hid (Calls prog 198 #[.pointer (some ⟨b,0,none⟩)] w fun e w'=>e=.returned (.string (wbS s))/\Ry K ws pl b (q+1) w'/\But w b w w'):=by
  have A:=q8g h C;rw[B]at A;exact A
 have J:((wbS s).toList==(wbS s).toList)=true:=by simp
 generalize wbS s=S at E D J⊢;clear h hs C B;go_in;go_wp2_with fail;refine E.o.mono ?_;rintro e L⟨rfl,rfl⟩;go_wp2_with fail;refine D.o.mono ?_;rintro e M⟨rfl,H,G⟩;have I:=hid (And.intro H G);clear H G;go_wp2;go_ret;exact⟨rfl,I.o⟩
theorem q8f(h:Ry K ws pl b q w)(s:Wd)(h0:s≠[])(hs:ws[q]?≠some s):
  Calls prog 150 #[.pointer (some ⟨b,0,none⟩),.string (wbS s)] w fun e w'=>e=.returned (.bool false)/\w'=w:=by
 have C:Hid (Calls prog 93 #[.pointer (some ⟨b,0,none⟩)] w fun e w'=>e=.returned (.string (wbS (ws.getD q [])))/\w'=w):=q6m h
 have B:((wbS (ws.getD q [])).toList==(wbS s).toList)=false:=by
  rw[y6t];by_cases D:q<ws.length
  ·rw[q3x D];rw[List.getElem?_eq_getElem D]at hs;simpa using hs
  ·rw[q6t (by omega)];cases s with
   | nil=>exact absurd rfl h0
   | cons=>rfl
 have A:¬(wbS (ws.getD q [])).toList=(wbS s).toList:=by
  intro e;rw[e]at B;simp at B
 generalize wbS (ws.getD q [])=X at C B A;generalize wbS s=S at B A⊢;clear h hs h0;go_in;go_wp2_with fail;refine C.o.mono ?_;rintro e E⟨rfl,rfl⟩;go_wp2;go_ret;exact⟨rfl,rfl⟩
theorem q6l(h:Ry K ws pl b q w)(s:Wd)(hs:ws[q]?=some s):
  Calls prog 152 #[.pointer (some ⟨b,0,none⟩),.string (wbS s)] w fun e w'=>e=.returned (.tuple #[])/\Ry K ws pl b (q+1) w'/\But w b w w':=by
 have A:Hid (Calls prog 150 #[.pointer (some ⟨b,0,none⟩),.string (wbS s)] w fun e w'=>e=.returned (.bool true)/\Ry K ws pl b (q+1) w'/\But w b w w'):=q7i h s hs;generalize wbS s=S at A⊢;clear h hs;go_in;go_wp2_with fail;refine A.o.mono ?_;rintro e E⟨rfl,C,B⟩;have D:=hid (And.intro C B);clear C B;go_wp2
 go_end0
 exact⟨rfl,D.o⟩
theorem q7j(h:Ry K ws pl b q w)(s:Wd)(h0:s≠[])(hs:ws[q]?≠some s):
  Calls prog 152 #[.pointer (some ⟨b,0,none⟩),.string (wbS s)] w fun e w'=>e=.panicked [q4v (pl q)]/\w'=w:=by
 have A:Hid (Calls prog 150 #[.pointer (some ⟨b,0,none⟩),.string (wbS s)] w fun e w'=>e=.returned (.bool false)/\w'=w):=q8f h s h0 hs;have B:Hid (Calls prog 200 #[.pointer (some ⟨b,0,none⟩)] w fun e w'=>e=.panicked [q4v (pl q)]/\w'=w):=k2s h;generalize wbS s=S at A⊢;clear h hs h0;go_in;go_wp2_with fail;refine A.o.mono ?_;rintro e C⟨rfl,rfl⟩;go_wp2_with fail;refine B.o.mono ?_;rintro e C⟨rfl,rfl⟩;go_wp2;exact⟨rfl,rfl,rfl⟩
end
end Go.Proofs.YthcpdohdppkmkaaGreatDoor
