import Derived.Test.YtfdppahhbpfnoaaGreatDoorPi20
import Derived.Deep.RegionLaw
open Go.Proofs.Tryz
namespace Go.Proofs.YtfdppahhbpfnoaaGreatDoor
open Go Go.RowKit
set_option maxRecDepth 100000
set_option maxHeartbeats 2000000
theorem q4e(l:List UInt8):(wbS l).size=l.length:=by
 rw[<-q0c];rfl
theorem q6s{t:ByteArray}(h:0<t.size):btL t=t[0]::(btL t).drop 1:=by
 have A:=q1g h;rw[List.drop_zero,Nat.zero_add]at A;exact A
theorem j3m(n m:Nat):decide (n<=m)=decide ((n:Int)<=(m:Int)):=by
 by_cases h:n<=m
 ·rw[decide_eq_true h,decide_eq_true (by omega)]
 ·rw[decide_eq_false h,decide_eq_false (by omega)]
theorem v4g{w:World}{a:Nat}{bs:ByteArray}(h:z1k w a bs):z1k w.drew a bs:=h
abbrev z1i(t:ByteArray)(w:World)(e:Ending)(w':World):Prop:=e=.returned (.tuple #[.string (wbS (tkW (btL t))),.bool (q6q (btL t))])/\Below w w w'
theorem j4b(t:ByteArray)(w:World)(h0:0<t.size)(hs:t.size<=60000)(hl:q2b t[0]=true):Calls prog 77 #[.string t] w fun e w'=>z1i t w e w':=by
 obtain⟨E,H⟩:=y7i (c:=t[0]) (r:=(btL t).drop 1) hl;rw[<-q6s h0]at E H;have P:Hid (q9g 97 122 t[0]=true):=hl
 have K:Hid (wbS ((btL t).takeWhile (q9g 97 122))=wbS (tkW (btL t))):=by
  show _=_;rw[E];rfl
 have G:Hid (q6q (btL t)=decide (((wbS (tkW (btL t))).size:Int)<=8)):=by
  show _=_;rw[H,q4e,E,j3m];rfl
 have Y:(wbS (tkW (btL t))).size<=60000:=by
  rw[q4e];exact Nat.le_trans (z2j _) (by rw[q0c];exact hs)
 generalize M:wbS (tkW (btL t))=W at K G Y;generalize L:q6q (btL t)=O at G;have R:=(show Hid (_=_)from M);have Q:=(show Hid (_=_)from L);clear E H hl M L;go_in;go_wp2_with fail;refine(q4q 97 122 _).mono ?_;rintro e b⟨⟨S,V,rfl,B⟩,D⟩;go_wp2_with fail;refine(q4q 48 57 _).mono ?_;rintro e I⟨⟨U,X,rfl,C⟩,A⟩;have J:Hid (q4m I S V 97 122):=B.W A;have a:Hid (q4m I U X 48 57):=C;have N:Hid (Below w w I):=q0d D Zl A;clear B C D A;go_wp2_with fail;refine(q3q t[0] J.o).mono ?_;rintro e Z⟨rfl,rfl⟩;rw[P.o];go_wp2_with fail;refine(k5a t J.o hs).mono ?_;rintro e Z⟨rfl,rfl⟩;rw[K.o];go_wp2;refine bodyPost_ret (v:=.tuple #[.string W,.bool O]) (by rw[G.o];simp[results,Tryz.results77,go_sem]) rfl ?_;exact⟨by rw[R.o,Q.o],N.o⟩
theorem j4a(t:ByteArray)(w:World)(h0:0<t.size)(hs:t.size<=60000)(hl:q2b t[0]=false)(hf:q1w t[0]=true):Calls prog 77 #[.string t] w fun e w'=>z1i t w e w':=by
 obtain⟨I,K⟩:=y7h (c:=t[0]) (r:=(btL t).drop 1) hl hf;rw[<-q6s h0]at I K;have b:Hid (q9g 97 122 t[0]=false):=hl;have Z:Hid (q9g 48 57 t[0]=true):=hf
 have Q:Hid (wbS ((btL t).takeWhile (q9g 48 57))=wbS (tkW (btL t))):=by
  show _=_;rw[I];rfl
 have H:Hid (q6q (btL t)=(decide (((wbS (tkW (btL t))).size:Int)<=6)&&((t[0].toNat:Int) != 48||(wbS (tkW (btL t))).toList==[48]))):=by
  show _=_
  have L:((t[0].toNat:Int) != 48)=(t[0] != 48):=by
   show(!((t[0].toNat:Int)==48))=(!(t[0]==48))
   rw[show(48:Int)=((48:Nat):Int)from rfl,q5z _ 48 (by decide)];rfl
  have l:(wbS (tkW (btL t))).toList=tkW (btL t):=by rw[Lib.toList_data];rfl
  rw[L,l,K,q4e,I,j3m];rfl
 have m:(wbS (tkW (btL t))).size<=60000:=by
  rw[q4e];exact Nat.le_trans (z2j _) (by rw[q0c];exact hs)
 generalize V:wbS (tkW (btL t))=W at Q H m;generalize U:q6q (btL t)=O at H;have f:=(show Hid (_=_)from V);have d:=(show Hid (_=_)from U)
 have M:(¬(W.size:Int)<=6/\Hid (O=false))\/((W.size:Int)<=6/\((t[0].toNat:Int) != 48)=true/\Hid (O=true))\/((W.size:Int)<=6/\((t[0].toNat:Int) != 48)=false/\Hid (O=(W.toList==[48]))):=by
  have A:=H.o;by_cases C:(W.size:Int)<=6
  ·rw[decide_eq_true C,Bool.true_and]at A;cases S:((t[0].toNat:Int) != 48)with
   | true=>rw[S,Bool.true_or]at A;exact .inr (.inl ⟨C,rfl,A⟩)
   | false=>rw[S,Bool.false_or]at A;exact .inr (.inr ⟨C,rfl,A⟩)
  ·rw[decide_eq_false C,Bool.false_and]at A;exact .inl ⟨C,A⟩
 clear I K hl hf V U H;go_in;go_wp2_with fail;refine(q4q 97 122 _).mono ?_;rintro e n⟨⟨g,i,rfl,D⟩,G⟩;go_wp2_with fail;refine(q4q 48 57 _).mono ?_;rintro e N⟨⟨h,j,rfl,E⟩,B⟩;have a:Hid (q4m N g i 97 122):=D.W B;have P:Hid (q4m N h j 48 57):=E;have Y:Hid (Below w w N):=q0d G Zl B;clear D E G B;go_wp2_with fail;refine(q3q t[0] a.o).mono ?_;rintro e X⟨rfl,rfl⟩;rw[b.o];go_wp2_with fail;refine(q3q t[0] P.o).mono ?_;rintro e X⟨rfl,rfl⟩;rw[Z.o];go_wp2_with fail;refine(k5a t P.o hs).mono ?_;rintro e X⟨rfl,rfl⟩;rw[Q.o];rcases M with⟨R,J⟩|⟨R,k,J⟩|⟨R,k,J⟩
 all_goals
  go_wp2;refine bodyPost_ret (v:=.tuple #[.string W,.bool O]) (by rw[J.o];simp[results,Tryz.results77,go_sem]) rfl ?_;exact⟨by rw[f.o,d.o],Y.o⟩
theorem k9f(t:ByteArray)(w:World)(h0:0<t.size)(hs:t.size<=60000)(hl:q2b t[0]=false)(hf:q1w t[0]=false)(hn:t[0]=35):Calls prog 77 #[.string t] w fun e w'=>z1i t w e w':=by
 obtain⟨J,L⟩:=y3t (c:=t[0]) (r:=(btL t).drop 1) hl hf hn;rw[<-q6s h0]at J L;have j:Hid (q9g 97 122 t[0]=false):=hl;have f:Hid (q9g 48 57 t[0]=false):=hf;have y:((t[0].toNat:Int)==35)=true:=by rw[hn];rfl
 have U:Hid (wbS (q1k (btL (k1k t)))=wbS (tkW (btL t))):=by
  show _=_;rw[J];rfl
 have Q:(k1k t).size<=60000/\0<(k1k t).size:=by
  have x:=k8a nlB (btL t);rw[q0c]at x;rw[k1k,q4e];refine⟨by omega,?_⟩;rw[q6s h0,List.takeWhile_cons,if_pos (by rw[hn];rfl)];simp
 have I:Hid (q6q (btL t)=((wbS ((btL (wbS (tkW (btL t)))).takeWhile (q9g 32 126))).toList==(wbS (tkW (btL t))).toList)):=by
  show _=_;rw[Lib.toList_data,Lib.toList_data,L,J];rfl
 have Z:(wbS (tkW (btL t))).size<=60000:=by
  rw[q4e];exact Nat.le_trans (z2j _) (by rw[q0c];exact hs)
 generalize Y:wbS (tkW (btL t))=W at U I Z;generalize X:q6q (btL t)=O at I;have m:=(show Hid (_=_)from Y);have l:=(show Hid (_=_)from X);generalize V:wbS ((btL W).takeWhile (q9g 32 126))=M at I;have k:=(show Hid (_=_)from V);obtain⟨N,P⟩:=Q;clear J L hl hf hn Y X V;go_in;go_wp2_with fail;refine(q4q 97 122 _).mono ?_;rintro e z⟨⟨n,q,rfl,B⟩,E⟩;go_wp2_with fail;refine(q4q 48 57 _).mono ?_;rintro e R⟨⟨o,s,rfl,C⟩,A⟩;have g:Hid (q4m R n q 97 122):=B.W A;have h:Hid (q4m R o s 48 57):=C;have d:Hid (Below w w R):=q0d E Zl A;clear B C E A;go_wp2_with fail;refine(q3q t[0] g.o).mono ?_;rintro e a⟨rfl,rfl⟩;rw[j.o];go_wp2_with fail;refine(q3q t[0] h.o).mono ?_;rintro e a⟨rfl,rfl⟩;rw[f.o];go_wp2_with fail;refine(v4t t _ hs).mono ?_;rintro e a⟨⟨r,b,rfl⟩,G⟩;go_wp2_with fail;refine(j9z (k1k t) _ P N).mono ?_;rintro e S⟨rfl,rfl⟩;rw[U.o];go_wp2_with fail;refine(q4q 32 126 _).mono ?_;rintro e S⟨⟨p,u,rfl,D⟩,H⟩;have i:Hid (q4m S p u 32 126):=D;have K:Hid (Below w w S):=q0d (q0d d.o Zl G) Zl H;clear D G H;go_wp2_with fail;refine(k5a W i.o Z).mono ?_;rintro e w5⟨rfl,rfl⟩;rw[k.o];go_wp2;refine bodyPost_ret (v:=.tuple #[.string W,.bool O]) (by rw[I.o];simp[results,Tryz.results77,go_sem]) rfl ?_;exact⟨by rw[m.o,l.o],K.o⟩
theorem k9e(t:ByteArray)(w:World)(h0:0<t.size)(hs:t.size<=60000)(E:spB t[0]=false)(hl:q2b t[0]=false)(hf:q1w t[0]=false)(hn:(t[0]==35)=false):Calls prog 77 #[.string t] w fun e w'=>z1i t w e w':=by
 obtain⟨H,I⟩:=y3s (c:=t[0]) (r:=(btL t).drop 1) E hl hf hn;rw[<-q6s h0]at H I;have V:Hid (q9g 97 122 t[0]=false):=hl;have R:Hid (q9g 48 57 t[0]=false):=hf;have g:(1:Int)<=(t.size:Int):=by omega
 have h:(0:Int)<(t.size:Int):=by omega
 have i:((t[0].toNat:Int)==35)=false:=by rw[show(35:Int)=((35:Nat):Int)from rfl,q5z _ 35 (by decide)];exact hn
 have L:Hid (t.extract 0 1=wbS (tkW (btL t))):=by
  show _=_
  have f:(btL t).take 1=[t[0]]:=by
   have M:=congrArg (List.take 1) (q6s h0);rw[List.take_succ_cons,List.take_zero]at M;exact M
  rw[H,k6i,f]
 have G:Hid (q6q (btL t)=(btL (⟨#[40,41,91,93,44,43,42,61,59]⟩:ByteArray)).any (·==t[0])):=by
  show _=_;rw[I];rfl
 have j:(wbS (tkW (btL t))).size<=60000:=by
  rw[q4e];exact Nat.le_trans (z2j _) (by rw[q0c];exact hs)
 generalize P:wbS (tkW (btL t))=W at L G j;generalize N:q6q (btL t)=O at G;have Y:=(show Hid (_=_)from P);have X:=(show Hid (_=_)from N);clear H I hl hf hn E P N;go_in;go_wp2_with fail;refine(q4q 97 122 _).mono ?_;rintro e l⟨⟨Z,b,rfl,B⟩,D⟩;go_wp2_with fail;refine(q4q 48 57 _).mono ?_;rintro e J⟨⟨a,d,rfl,C⟩,A⟩;have S:Hid (q4m J Z b 97 122):=B.W A;have U:Hid (q4m J a d 48 57):=C;have K:Hid (Below w w J):=q0d D Zl A;clear B C D A;go_wp2_with fail;refine(q3q t[0] S.o).mono ?_;rintro e Q⟨rfl,rfl⟩;rw[V.o];go_wp2_with fail;refine(q3q t[0] U.o).mono ?_;rintro e Q⟨rfl,rfl⟩;rw[R.o];go_wp2_with fail
 go_region_held3 (fun _=>True) (trivial) (first|(go_at_call 76;refine(k2a _ _).mono ?_;rintro e Q⟨rfl,rfl⟩)|(go_at_call 118;refine(q8t t[0] (z1k.new _ _)).mono ?_;rintro e k⟨rfl,rfl⟩;rw[<-G.o])|(go_at_call 118;refine(q8t t[0] (v4g (z1k.new _ _))).mono ?_;rintro e k⟨rfl,rfl⟩;rw[<-G.o]))
 all_goals
  go_wp2;refine bodyPost_ret (v:=.tuple #[.string (t.extract 0 1),.bool O]) (by simp[results,Tryz.results77,go_sem]) rfl ?_;exact⟨by rw[L.o,Y.o,X.o],(K.o.alloc K.o.size _).trans ⟨rfl,rfl,rfl,Nat.le_refl _,fun _ _=>rfl⟩⟩
theorem j3z(t:ByteArray)(w:World)(h0:0<t.size)(hs:t.size<=60000)(C:spB t[0]=false):Calls prog 77 #[.string t] w fun e w'=>z1i t w e w':=by
 cases A:q2b t[0]with
 | true=>exact j4b t w h0 hs A
 | false=>
  cases B:q1w t[0]with
  | true=>exact j4a t w h0 hs A B
  | false=>
   cases D:(t[0]==35)with
   | true=>exact k9f t w h0 hs A B (beq_iff_eq.1 D)
   | false=>exact k9e t w h0 hs C A B D
set_option maxHeartbeats 4000000
theorem y0v(tx:ByteArray)(n:Int)(A C:List Nd)(tA tC:List UInt8)(kA kC:Bool)(hA:z9t A tA kA)(hC:z9t C tC kC)(Ae:tA.length<=20*A.length):z9t (⟨6,tx,n⟩::(A++C)) (tA++tC) (kA||kC):=by
 intro B b s ds H a j l k w hd S P Q hc hW K hl;generalize U:(A++C)++H=r;have d:Hid ((A++C)++H=r):=U;have g:Hid (r.length=((A++C):List Nd).length+H.length):=(show _=_ by rw[<-U,List.length_append]);obtain rfl:ds=⟨6,tx,n⟩::r:=by rw[hd,<-U];rfl
 clear hd U;obtain⟨o0,ea,c1,c2,c3⟩:=S 0 (by simp);subst ea;simp only[List.length_cons]at hc hl⊢;have c:Hid (q1i s w (some ⟨s,o0+3,none⟩) r):=S.rest
 have I:Hid (j=1->q1i s w (some ⟨s,o0,none⟩) r):=fun h=>by
  have h1:=S.slid hc;rw[if_pos h]at h1;exact h1
 have HW:Hid (Ln B b l k w):=hW;simp only[Nat.zero_mul,Nat.add_zero,List.getElem_cons_zero]at c1 c2 c3;have Ac:s<w.heap.size:=by omega
 have Ad:(1:Int)<=(r.length:Int)+1:=by omega
 have R:Hid (∀O:Obj,q0v B b w (w.alloc O).drew):=fun O=>q0v.drew ((q0v.refl B b w).alloc K O)
 have HK:Hid (∀O:Obj,Lib.OthersKept 5 (some b) w (w.alloc O).drew):=fun O=>((Lib.OthersKept.refl _ _ w).alloc O).drew
 have D:Hid (s<B/\s≠b):=⟨P,Q⟩;clear S hW P Q;go_in
 go_upto_region 1 with fail
 go_cut [0,1,5,6] (fun t _ p q wx=>k2x B b s w.heap.size ⟨6,tx,n⟩ r l k w t p q wx)
 case first=>
  go_region
  all_goals (go_wp2_with fail)
  all_goals
   go_meet
   refine⟨rfl,rfl,⟨_,_,rfl,?_,by omega⟩,by simp[go_sem],by simp[go_sem],by simp[go_sem],IsX.drew (IsX.alloc HW.o _),R.o _,HK.o _⟩
   first
    | exact c.o.kept ((R.o _).block s D.o.1 D.o.2)
    | exact(I.o (by assumption)).kept ((R.o _).block s D.o.1 D.o.2)
    | exact(I.o rfl).kept ((R.o _).block s D.o.1 D.o.2)
 case rest=>
  obtain⟨rfl,rfl,⟨a',z,rfl,hn,o⟩,e1,e2,e3,hw,E,N⟩:=hcut;dsimp only at e1 e2 e3;have Z:Hid (q1i s wc a' r):=hn;have i:Hid (Ln B b l k wc):=hw;have W:Hid (q0v B b w wc):=E;have X:Hid (Lib.OthersKept 5 (some b) w wc):=N;have J:B<=wc.heap.size:=Nat.le_trans K E.size;clear hn hw E N;rw[List.append_assoc]at d;generalize G:C++H=rc at d;have f:Hid (C++H=rc):=G;have Y:Hid (rc.length=C.length+H.length):=(show _=_ by rw[<-G,List.length_append]);have V:Hid ((A++C).length=A.length+C.length):=(show _=_ from List.length_append);clear G;have HA:Hid (z9t A tA kA):=hA;have HC:Hid (z9t C tC kC):=hC;clear hA hC;go_wp2_with fail;refine(HA.o B b s r rc _ _ l k _ d.o.symm Z.o D.o.1 D.o.2 o i.o J (by omega)).mono ?_;rintro e w3⟨⟨a3,Aa,rfl,n3,u⟩,h3,M,x⟩;have L:B<=w3.heap.size:=Nat.le_trans J M.size;go_wp2_with fail;refine(HC.o B b s rc H _ _ _ _ _ f.o.symm n3 D.o.1 D.o.2 u h3 L (by have q1:=g.o;have q2:=Y.o;have q3:=V.o;simp;omega)).mono ?_;rintro e w4⟨⟨a4,Ab,rfl,n4,v⟩,h4,m,y⟩;go_wp2;go_ret;rw[<-Bool.or_assoc,<-List.append_assoc];exact⟨⟨_,_,rfl,n4,v⟩,h4,W.o.trans (M.trans m),X.o.trans (x.trans y)⟩
theorem q4w(ds:List Nd)(a:Option Addr)(cap:Nat)(hl:ds.length<=400):∀(f i:Nat)(w:World),q1p w a ds->ds.length-i<f->i<=1000->
  Calls prog 147 #[.slice a ds.length cap,.int .i64 i] w fun e w'=>e=.returned (.int .i64 (v6y (q0n ds i 1)))/\w=w':=by
 intro f
 induction f with
 | zero=>intro i w _ h;omega
 | succ f ih=>
  intro i w M Z c;have K:Hid (q1p w a ds):=M
  have P:Hid (∀(i:Nat)(w:World),q1p w a ds->ds.length-i<f->i<=1000->
   Calls prog 147 #[.slice a ds.length cap,.int .i64 i] w fun e w'=>e=.returned (.int .i64 (v6y (q0n ds i 1)))/\w=w'):=ih
  clear M ih;by_cases C:i<ds.length
  ·obtain⟨b,o,S,Y,X,Q,R⟩:=K.o i C;have L:Hid (q0n ds i 1=q0n ds (i+1) (pts ds[i].op)):=z6d _ _ 0 C;have N:=j8t ds[i].op;generalize D:pts ds[i].op=p at L N;have O:Hid (pts ds[i].op=p):=D;subst S;clear Q R D;go_in;go_wp2_with(go_at_call 189;refine(j0k _ _).mono ?_;rintro e w'⟨rfl,rfl⟩;rw[O.o])
   go_loopw [1,5] (fun z m wr=>wr=w/\∃q:Nat,q<=2/\m=.int .i64 q/\((∃k:Nat,i<k/\k<=ds.length/\z=.int .i64 k/\q0n ds i 1=q0n ds k q)\/(z=.int .i64 (-1)/\q0n ds i 1=none))) (fun _ m _=>(intOf m).toNat)
   case atStart=>exact⟨rfl,p,N,rfl,.inl ⟨i+1,by omega,by omega,by go_num,L.o⟩⟩
   case round=>
    obtain⟨rfl,q,d,rfl,⟨k,V,W,rfl,B⟩|⟨rfl,B⟩⟩:=hrel
    ·have A:Hid (q0n ds i 1=q0n ds k q):=B;clear B;by_cases G:q=0
     ·subst G;have H:Hid (q0n ds i 1=some k):=A.o.trans (z6e _ _);go_wp2;go_ret;exact⟨by rw[H.o];rfl,rfl⟩
     ·obtain⟨E,rfl⟩:∃E,q=E+1:=⟨q-1,by omega⟩;have J:Hid (q0n ds i 1=(q0n ds k 1).bind fun j=>q0n ds j E):=A.o.trans (by rw[Nat.add_comm E 1,j3q]);clear G;go_wp2_with(go_at_call 147;refine(P.o k _ K.o (by omega) (by omega)).mono ?_;rintro e w'⟨rfl,rfl⟩)
      go_roundw
      case rel=>
       refine⟨by trivial,E,by omega,by go_num,?_⟩;cases I:q0n ds k 1 with
       | none=>exact .inr ⟨rfl,by rw[J.o,I];rfl⟩
       | some j=>
        have U:=k6e I;exact .inl ⟨j,by omega,by omega,rfl,by rw[J.o,I];rfl⟩
      case measure=>simp[intOf]
    ·have A:Hid (q0n ds i 1=none):=B;clear B;by_cases G:q=0
     ·subst G;go_wp2;go_ret;exact⟨by rw[A.o];rfl,rfl⟩
     ·go_wp2;go_ret;exact⟨by rw[A.o];rfl,rfl⟩
  ·have A:Hid (q0n ds i 1=none):=k0p _ _ _ (by omega);go_in;go_wp2;go_ret;exact⟨by rw[A.o];rfl,rfl⟩
def q2d(ds:List Nd)(a:Option Addr)(cap:Nat)(A:List Nd)(sA:ByteArray)(fA:Bool):Prop:=∀(i:Nat)(r:List Nd)(w:World),ds.drop i=A++r->q1p w a ds->
  Calls prog 148 #[.slice a ds.length cap,.int .i64 i] w fun e w'=>e=.returned (.tuple #[.string sA,.bool fA])/\Below w w w'
theorem v2r(ds:List Nd)(a:Option Addr)(cap:Nat)(hl:ds.length<=400)(tx:ByteArray)(n:Int)(A C:List Nd)(sA sC:ByteArray)(fA fC:Bool)(hA:q2d ds a cap A sA fA)(hC:q2d ds a cap C sC fC)(f:sA.size<=8800)(g:sC.size<=8800)(hE:∀i r,ds.drop i=A++r->q0n ds i 1=some (i+A.length)):q2d ds a cap (⟨6,tx,n⟩::(A++C)) (if(fA&&fC)=true then sA++sC else⟨#[]⟩) (fA&&fC):=by
 intro i r w R I;obtain⟨b,P,Q⟩:=q0s (x:=⟨6,tx,n⟩) (r:=(A++C)++r) R;obtain⟨H,K,Z,d,M,N,O⟩:=I i b;subst Z;rw[P]at M N O;dsimp only at M N O;have E:Hid (ds.drop (i+1)=(A++C)++r):=Q;have G:Hid (q1p w (some ⟨H,K,none⟩) ds):=I;have V:Hid (q2d ds (some ⟨H,K,none⟩) cap A sA fA):=hA;have X:Hid (q2d ds (some ⟨H,K,none⟩) cap C sC fC):=hC;have L:Hid (((i+1:Nat):Int)=(i:Int)+1):=(show _=_ by omega);rw[List.append_assoc]at E;have Y:Hid (q0n ds (i+1) 1=some (i+1+A.length)):=hE (i+1) (C++r) E.o;have D:Hid (ds.drop (i+1+A.length)=C++r):=q7w E.o;clear R P Q I hA hC hE;cases fA<;>cases fC
 all_goals
  go_in;go_wp2_with fail;rw[<-L.o];refine(V.o (i+1) (C++r) _ E.o G.o).mono ?_;rintro e U⟨rfl,B⟩;go_wp2_with fail;rw[<-L.o];refine(q4w ds _ cap hl (ds.length+1) (i+1) U (G.o.W B) (by omega) (by omega)).mono ?_;rintro e h⟨rfl,rfl⟩;rw[Y.o];have S:v6y (some (i+1+A.length))=((i+1+A.length:Nat):Int):=rfl;rw[S];generalize c:i+1+A.length=j at D⊢;clear S c;go_wp2_with fail;refine(X.o j r U D.o (G.o.W B)).mono ?_;rintro e k⟨rfl,J⟩;go_wp2;go_ret2;exact⟨rfl,q0d B Zl J⟩
theorem z9l{w:World}{B:Array Oper}{o:Oper}{a:Act}{K:Act->World->Prop}{Q:Exit->Act->World->Prop}{E:Prop}(C:o.guard=none)(s x:Operand)(t:TypeId)
  (ho:o.op=.call {callee:=.builtin .append,args:=#[s,x],argTypes:=#[t,t]}) (v u v':Value) (w':World) (hs:a.eval s=v) (hx:a.eval x=u)
  (A:(Builtin.append_ #[t,t] o.type #[v,u]).run prog w=.ok v' w') (hK:K (a.put o.dst v') w'):if Region.wanted o (yielded B a.tmps)=true then Oper.wp prog o a w K Q else E:=by
 have D:Region.wanted o (yielded B a.tmps)=true:=by simp[Region.wanted,C]
 rw[if_pos D];unfold Oper.wp;simp[execOp,ho,resolve,invoke,builtin,hs,hx,A,Result.andThen];exact hK
theorem q2e{w:World}{V:Array Oper}{o:Oper}{a:Act}{K:Act->World->Prop}{Q:Exit->Act->World->Prop}{E:Prop}(I:o.guard=none)(s x:Operand)
  (ho:o.op=.call {callee:=.builtin .append,args:=#[s,x],argTypes:=#[22,22]})
  (base:Nat) (v:Value) (xs:List Td) (hs:a.eval s=v) (B:q0w base v xs w)
  (wa:Option Addr) (n:Nat) (ws:List Td) (hn:ws.length=n) (wc:Nat) (hx:a.eval x=.slice wa n wc) (hW:Tds w wa ws) (J:wa=none->n=0/\wc=0)
  (m:Nat) (hm:xs.length+n=m) (hb:m<=1000000) (D:base<=w.heap.size)
  (h:∀A c w',q0w base (.slice A m c) (xs++ws) w'->w.grownBy w' v.ownBlock->K (a.put o.dst (.slice A m c)) w'):if Region.wanted o (yielded V a.tmps)=true then Oper.wp prog o a w K Q else E:=by
 subst hn hm;obtain⟨Y,X,R,S,U⟩:=info_parts j9r
 have W:∀G w',q0w base G (xs++ws) w'->w.grownBy w' v.ownBlock->K (a.put o.dst G) w':=by
  intro G w' H N
  obtain⟨A,c,rfl⟩:∃A c,G=.slice A (xs.length+ws.length) c:=by
   rcases H.2 with⟨M,C⟩|⟨g,c,Z,M,_⟩
   ·rw[List.length_append]at C;exact⟨.none,0,by rw[M,C]⟩
   ·rw[List.length_append]at M;exact⟨_,c,M⟩
  exact h A c w' H N
 cases wa with
 | none=>
  obtain⟨C,rfl⟩:=J rfl;obtain rfl:ws=[]:=List.eq_nil_of_length_eq_zero C;refine z9l I s x 22 ho v _ _ _ hs hx (run_append_owned_none (P:=prog) (w:=w) base 22 o.type 47 Y 3 Tryz.underlying22 X v xs.length (q1f xs) B) ?_;refine W v w ?_ ⟨rfl,rfl,rfl,Nat.le_refl _,fun _ _ _=>rfl⟩;rw[List.append_nil];exact B
 | some ad=>
  have O:ws=[]\/∃b o,ad=⟨b,o,Option.none⟩:=by
   rcases Nat.eq_zero_or_pos ws.length with C|C
   ·exact .inl (List.eq_nil_of_length_eq_zero C)
   ·obtain⟨b,o,e,_⟩:=hW 0 C;exact .inr ⟨b,o,by simpa using e⟩
  obtain⟨G,w',L,H,N,_⟩:=run_append_own (P:=prog) w base 22 o.type 47 Y _ 3 32 Tryz.underlying22 X R S U rfl (by decide) v xs.length (q1f xs) B ad ws.length wc (q1f ws) (q7i ws) (by
   rcases O with rfl|⟨b,o,rfl⟩
   ·intro j u d;simp[q1f]at d
   ·exact k7w hW) (z5a ws) (by unfold maxLen;omega) (by omega) D
  refine z9l I s x 22 ho v _ G w' hs hx L (W G w' ?_ N);rw[<-z4z]at H;show w'.ownsRow _ _ _ _ _ _;rw[List.length_append];exact H
theorem q8g{w:World}{d:Array Oper}{o:Oper}{a:Act}{K:Act->World->Prop}{Q:Exit->Act->World->Prop}{E:Prop}(S:o.guard=none)(s x:Operand)
  (ho:o.op=.call {callee:=.builtin .append,args:=#[s,x],argTypes:=#[33,33]})
  (base:Nat) (v:Value) (ps:List (List Td)) (hs:a.eval s=v) (J:q3t base v ps w)
  (b0 g n c:Nat) (t:List Td) (hn:t.length=n) (hx:a.eval x=.slice (some ⟨b0,0,none⟩) 1 1) (hc:w.cell? ⟨b0,0,none⟩=some (.slice (some ⟨g,0,none⟩) n c)) (hT:q0w base (.slice (some ⟨g,0,none⟩) n c) t w)
  (m:Nat) (hm:ps.length+1=m) (hb:m<=1000000) (D:base<=w.heap.size)
  (h:∀A c' w',q3t base (.slice A m c') (ps++[t]) w'->w.grownBy w' v.ownBlock->K (a.put o.dst (.slice A m c')) w'):if Region.wanted o (yielded d a.tmps)=true then Oper.wp prog o a w K Q else E:=by
 subst hn hm;obtain⟨i0,U,X,Y,Z⟩:=info_parts v8k;obtain⟨M,R,h2⟩:=J
 obtain⟨v',w',L,l,p,_⟩:=run_append_own (P:=prog) w base 33 o.type 22 i0 _ 1 24 Tryz.underlying33 U X Y Z rfl (by decide) v ps.length M R ⟨b0,0,none⟩ 1 1 [.slice (some ⟨g,0,none⟩) t.length c] rfl (by
  intro j u W;cases j with
  | zero=>
   simp at W;subst W;rw[z2y];exact hc
  | succ j=>simp at W) (by intro u r;simp at r;subst r;rfl) (by unfold maxLen;omega) (by omega) D
 have B:∀{C b c':Nat}{f:List Td},q0w base (.slice (some ⟨C,0,none⟩) b c') f w->q0w base (.slice (some ⟨C,0,none⟩) b c') f w':=by
  intro C b c' f G;obtain⟨_,_,O,H⟩:=q8x G;refine z9p G (p.block C (Array.getElem?_eq_some_iff.1 H).1 fun e=>?_);obtain⟨k,I⟩:=z8z R e.symm;rw[H]at I;simp at I
 obtain⟨A,c',rfl⟩:∃A c',v'=.slice A (ps.length+1) c':=by
  rcases l.2 with⟨y,h0⟩|⟨C,c',O,y,_⟩
  ·omega
  ·exact⟨_,c',y⟩
 refine z9l S s x 33 ho v _ _ w' hs hx L (h A c' w' ⟨M++[.slice (some ⟨g,0,none⟩) t.length c],?_,fun i U=>?_⟩ p)
 ·rw[List.length_append];exact l
 ·have q:=R.1;rw[Nat.mul_one]at q;by_cases e:i<ps.length
  ·obtain⟨C,N,z,e2⟩:=h2 i e;rw[List.getElem_append_left e];refine⟨C,N,?_,B e2⟩;rw[List.getElem?_append_left (by omega)];exact z
  ·have V:i=ps.length:=by simp at U;omega
   subst V;rw[List.getElem_append_right Zl];refine⟨g,c,?_,?_⟩
   ·rw[List.getElem?_append_right (by omega),q];simp
   ·simp only[Nat.sub_self,List.getElem_cons_zero];exact B hT
def q5k(B:Nat)(w:World)(a:Option Addr)(ds:List Nd):Prop:=
 ∀i(h:i<ds.length),∃b o,a=some ⟨b,o,none⟩/\b<B/\w.cell? ⟨b,o+i*3,none⟩=some (.int .i64 ds[i].op)/\w.cell? ⟨b,o+i*3+1,none⟩=some (.string ds[i].tx)/\w.cell? ⟨b,o+i*3+2,none⟩=some (.int .i64 ds[i].n)
theorem q1p.b{w:World}{a:Option Addr}{ds:List Nd}(h:q1p w a ds):q5k w.heap.size w a ds:=h
theorem q5k.W{B:Nat}{w w':World}{a:Option Addr}{ds:List Nd}(h:q5k B w a ds)(hb:Below B w w'):q5k B w' a ds:=by
 intro i G;obtain⟨b,o,e,A,C,D,E⟩:=h i G;exact⟨b,o,e,A,(hb.cell (p:=⟨b,_,none⟩) A).trans C,(hb.cell (p:=⟨b,_,none⟩) A).trans D,(hb.cell (p:=⟨b,_,none⟩) A).trans E⟩
theorem q5k.nods{B:Nat}{w:World}{a:Option Addr}{ds:List Nd}(h:q5k B w a ds)(hB:B<=w.heap.size):q1p w a ds:=by
 intro i E;obtain⟨b,o,e,G,A,C,D⟩:=h i E;exact⟨b,o,e,by omega,A,C,D⟩
theorem q5k.rest{B:Nat}{w:World}{b o:Nat}{x:Nd}{ds:List Nd}(h:q5k B w (some ⟨b,o,none⟩) (x::ds)):q5k B w (some ⟨b,o+3,none⟩) ds:=by
 intro i H;obtain⟨G,I,e,A,C,D,E⟩:=h (i+1) (by simp;omega);simp only[Option.some.injEq,Addr.mk.injEq,and_true]at e;obtain⟨rfl,rfl⟩:=e;refine⟨b,o+3,rfl,A,?_,?_,?_⟩
 ·rw[show o+3+i*3=o+(i+1)*3 by omega];exact C
 ·rw[show o+3+i*3+1=o+(i+1)*3+1 by omega];exact D
 ·rw[show o+3+i*3+2=o+(i+1)*3+2 by omega];exact E
theorem q5k.slid{B:Nat}{w:World}{b o cap:Nat}{x:Nd}{ds:List Nd}(h:q5k B w (some ⟨b,o,none⟩) (x::ds))(hc:ds.length+1<=cap):
  q5k B w (if cap=1 then some ⟨b,o,none⟩else some ⟨b,o+3,none⟩) ds:=by
 by_cases A:cap=1
 ·have:ds=[]:=List.eq_nil_of_length_eq_zero (by omega)
  subst this;exact fun i hi=>by simp at hi
 ·rw[if_neg A];exact h.rest
theorem v2n(ds:List Nd)(a:Option Addr)(cap:Nat)(tx:ByteArray)(n:Int):q2d ds a cap (⟨2,tx,n⟩::[]) (⟨#[32]⟩) (true):=by
 intro i r w H A;obtain⟨K,E,G⟩:=q0s (x:=⟨2,tx,n⟩) (r:=[]++r) H;obtain⟨I,M,J,L,B,C,D⟩:=A i K;subst J;rw[E]at B C D;dsimp only at B C D;have N:Hid (ds.drop (i+1)=[]++r):=G;have O:Hid (q1p w (some ⟨I,M,none⟩) ds):=A;clear H E G A;go_in;go_wp2;go_ret2;exact⟨rfl,Below.refl _ _⟩
theorem v2o(ds:List Nd)(a:Option Addr)(cap:Nat)(tx:ByteArray)(n:Int):q2d ds a cap (⟨3,tx,n⟩::[]) (⟨#[]⟩) (true):=by
 intro i r w H A;obtain⟨K,E,G⟩:=q0s (x:=⟨3,tx,n⟩) (r:=[]++r) H;obtain⟨I,M,J,L,B,C,D⟩:=A i K;subst J;rw[E]at B C D;dsimp only at B C D;have N:Hid (ds.drop (i+1)=[]++r):=G;have O:Hid (q1p w (some ⟨I,M,none⟩) ds):=A;clear H E G A;go_in;go_wp2;go_ret2;exact⟨rfl,Below.refl _ _⟩
theorem v2p(ds:List Nd)(a:Option Addr)(cap:Nat)(tx:ByteArray)(n:Int):q2d ds a cap (⟨4,tx,n⟩::[]) (⟨#[]⟩) (false):=by
 intro i r w H A;obtain⟨K,E,G⟩:=q0s (x:=⟨4,tx,n⟩) (r:=[]++r) H;obtain⟨I,M,J,L,B,C,D⟩:=A i K;subst J;rw[E]at B C D;dsimp only at B C D;have N:Hid (ds.drop (i+1)=[]++r):=G;have O:Hid (q1p w (some ⟨I,M,none⟩) ds):=A;clear H E G A;go_in;go_wp2;go_ret2;exact⟨rfl,Below.refl _ _⟩
theorem v2q(ds:List Nd)(a:Option Addr)(cap:Nat)(tx:ByteArray)(n:Int):q2d ds a cap (⟨5,tx,n⟩::[]) (⟨#[]⟩) (true):=by
 intro i r w H A;obtain⟨K,E,G⟩:=q0s (x:=⟨5,tx,n⟩) (r:=[]++r) H;obtain⟨I,M,J,L,B,C,D⟩:=A i K;subst J;rw[E]at B C D;dsimp only at B C D;have N:Hid (ds.drop (i+1)=[]++r):=G;have O:Hid (q1p w (some ⟨I,M,none⟩) ds):=A;clear H E G A;go_in;go_wp2;go_ret2;exact⟨rfl,Below.refl _ _⟩
theorem v2m(ds:List Nd)(a:Option Addr)(cap:Nat)(tx:ByteArray)(n:Int):q2d ds a cap (⟨1,tx,n⟩::[]) (tx) (true):=by
 intro i r w H A;obtain⟨K,E,G⟩:=q0s (x:=⟨1,tx,n⟩) (r:=[]++r) H;obtain⟨I,M,J,L,B,C,D⟩:=A i K;subst J;rw[E]at B C D;dsimp only at B C D;have N:Hid (ds.drop (i+1)=[]++r):=G;have O:Hid (q1p w (some ⟨I,M,none⟩) ds):=A;clear H E G A;go_in;go_wp2;go_ret2;exact⟨rfl,Below.refl _ _⟩
theorem v2s(ds:List Nd)(a:Option Addr)(cap:Nat)(hl:ds.length<=400)(tx:ByteArray)(n:Int)(A:List Nd)(sA:ByteArray)(fA:Bool)(hA:q2d ds a cap A sA fA):q2d ds a cap (⟨7,tx,n⟩::A) (sA) (fA):=by
 intro i r w K B;obtain⟨R,I,J⟩:=q0s (x:=⟨7,tx,n⟩) (r:=A++r) K;obtain⟨D,L,Q,S,E,G,H⟩:=B i R;subst Q;rw[I]at E G H;dsimp only at E G H;have N:Hid (ds.drop (i+1)=A++r):=J;have P:Hid (q1p w (some ⟨D,L,none⟩) ds):=B;have M:Hid (q2d ds (some ⟨D,L,none⟩) cap A sA fA):=hA;have O:Hid (((i+1:Nat):Int)=(i:Int)+1):=(show _=_ by omega);clear K I J B hA;go_in;go_wp2_with fail;rw[<-O.o];refine(M.o (i+1) _ _ N.o P.o).mono ?_;rintro e U⟨rfl,C⟩;go_wp2;go_ret2;exact⟨rfl,C⟩
theorem v2t(ds:List Nd)(a:Option Addr)(cap:Nat)(hl:ds.length<=400)(tx:ByteArray)(n:Int)(A:List Nd)(sA:ByteArray)(fA:Bool)(hA:q2d ds a cap A sA fA):q2d ds a cap (⟨8,tx,n⟩::A) (sA) (fA):=by
 intro i r w K B;obtain⟨R,I,J⟩:=q0s (x:=⟨8,tx,n⟩) (r:=A++r) K;obtain⟨D,L,Q,S,E,G,H⟩:=B i R;subst Q;rw[I]at E G H;dsimp only at E G H;have N:Hid (ds.drop (i+1)=A++r):=J;have P:Hid (q1p w (some ⟨D,L,none⟩) ds):=B;have M:Hid (q2d ds (some ⟨D,L,none⟩) cap A sA fA):=hA;have O:Hid (((i+1:Nat):Int)=(i:Int)+1):=(show _=_ by omega);clear K I J B hA;go_in;go_wp2_with fail;rw[<-O.o];refine(M.o (i+1) _ _ N.o P.o).mono ?_;rintro e U⟨rfl,C⟩;go_wp2;go_ret2;exact⟨rfl,C⟩
theorem v2u(ds:List Nd)(a:Option Addr)(cap:Nat)(hl:ds.length<=400)(tx:ByteArray)(n:Int)(A C:List Nd)(sA:ByteArray)(fA:Bool)(hA:q2d ds a cap A sA fA):q2d ds a cap (⟨9,tx,n⟩::(A++C)) (sA) (fA):=by
 intro i r w M B;obtain⟨S,K,L⟩:=q0s (x:=⟨9,tx,n⟩) (r:=(A++C)++r) M;obtain⟨G,N,R,U,H,I,J⟩:=B i S;subst R;rw[K]at H I J;dsimp only at H I J;have E:Hid (ds.drop (i+1)=(A++C)++r):=L;have Q:Hid (q1p w (some ⟨G,N,none⟩) ds):=B;rw[List.append_assoc]at E;have O:Hid (q2d ds (some ⟨G,N,none⟩) cap A sA fA):=hA;have P:Hid (((i+1:Nat):Int)=(i:Int)+1):=(show _=_ by omega);clear M K L B hA;go_in;go_wp2_with fail;rw[<-P.o];refine(O.o (i+1) _ _ E.o Q.o).mono ?_;rintro e V⟨rfl,D⟩;go_wp2;go_ret2;exact⟨rfl,D⟩
def q3s(B b:Nat)(d:Value)(v:Value)(s:ByteArray)(e:Int)(w:World):Prop:=
 B<=b/\b<w.heap.size/\w.cell? ⟨b,0,none⟩=some d/\w.cell? ⟨b,1,none⟩=some v/\w.cell? ⟨b,2,none⟩=some (.string s)/\w.cell? ⟨b,3,none⟩=some (.int .i64 e)
  /\w.frozen? ⟨b,1,none⟩=false/\w.frozen? ⟨b,2,none⟩=false/\w.frozen? ⟨b,3,none⟩=false
theorem q3s.W{B b:Nat}{d v:Value}{s:ByteArray}{e:Int}{w w':World}(h:q3s B b d v s e w)(hb:Below w w w'):q3s B b d v s e w':=by
 obtain⟨M,A,E,G,H,I,J,K,L⟩:=h;obtain⟨C,D⟩:=q1y hb
 have:=hb.size
 exact⟨M,by omega,(C _ _ A).trans E,(C _ _ A).trans G,(C _ _ A).trans H,(C _ _ A).trans I,(D _ _ A).trans J,(D _ _ A).trans K,(D _ _ A).trans L⟩
theorem q3s.alloc{B b:Nat}{d v:Value}{s:ByteArray}{e:Int}{w:World}(h:q3s B b d v s e w)(O:Obj):q3s B b d v s e (w.alloc O):=h.W (Zb.alloc Zl _)
theorem q3s.drew{B b:Nat}{d v:Value}{s:ByteArray}{e:Int}{w:World}(h:q3s B b d v s e w):q3s B b d v s e w.drew:=h
theorem z0r(w:World)(p:Addr)(v:Value):(w.setCell p v).heap.size=w.heap.size:=by simp[World.setCell]
theorem q3s.text{B b:Nat}{d v:Value}{s:ByteArray}{e:Int}{w:World}(h:q3s B b d v s e w)(s':ByteArray):q3s B b d v s' e (w.setCell ⟨b,2,none⟩ (.string s')):=by
 obtain⟨J,K,A,C,D,E,G,H,I⟩:=h;exact⟨J,by rw[z0r];exact K,(cso (by omega)).trans A,(cso (by omega)).trans C,css D,(cso (by omega)).trans E,csf.trans G,csf.trans H,csf.trans I⟩
theorem q3s.ways{B b:Nat}{d v:Value}{s:ByteArray}{e:Int}{w:World}(h:q3s B b d v s e w)(v':Value):q3s B b d v' s e (w.setCell ⟨b,1,none⟩ v'):=by
 obtain⟨J,K,A,C,D,E,G,H,I⟩:=h;exact⟨J,by rw[z0r];exact K,(cso (by omega)).trans A,css C,(cso (by omega)).trans D,(cso (by omega)).trans E,csf.trans G,csf.trans H,csf.trans I⟩
theorem q3s.fault{B b:Nat}{d v:Value}{s:ByteArray}{e:Int}{w:World}(h:q3s B b d v s e w)(e':Int):q3s B b d v s e' (w.setCell ⟨b,3,none⟩ (.int .i64 e')):=by
 obtain⟨J,K,A,C,D,E,G,H,I⟩:=h;exact⟨J,by rw[z0r];exact K,(cso (by omega)).trans A,(cso (by omega)).trans C,(cso (by omega)).trans D,css E,csf.trans G,csf.trans H,csf.trans I⟩
theorem k8o(n:Nat)(hn:n<=4000)(w:World):Calls prog 150 #[.int .i64 n] w fun e w'=>e=.returned (.string ⟨(List.replicate n 32).toArray⟩)/\w=w':=by
 go_in;go_wp2
 go_loopw [3,4] (fun s i wr=>wr=w/\∃(k:Nat)(t:ByteArray),k<=n/\i=.int .i64 k/\s=.string t/\t.data.toList=List.replicate k 32) (fun _ i _=>n-(intOf i).toNat)
 case atStart=>exact⟨rfl,0,⟨#[]⟩,Nat.zero_le _,rfl,rfl,rfl⟩
 case round=>
  obtain⟨rfl,k,t,E,rfl,rfl,A⟩:=hrel;have D:t.size<=4000:=by rw[<-q0x,A,List.length_replicate];omega
  have B:Hid (t.data.toList=List.replicate k 32):=A;clear A;by_cases C:k<n
  ·go_wp2
   go_roundw
   case rel=>
    refine⟨by trivial,k+1,_,by omega,by go_num,rfl,?_⟩;simp[B.o,List.replicate_succ']
   case measure=>simp[intOf];omega
  ·obtain rfl:k=n:=by omega
   have e:t=⟨(List.replicate k 32).toArray⟩:=q6e (by rw[B.o]);go_wp2;go_ret;exact⟨by rw[<-e];rfl,rfl⟩
theorem z3s{B b:Nat}{d:Value}{wa:Option Addr}{wc:Nat}{s:ByteArray}{w:World}(h:q3s B b d (.slice wa 0 wc) s 0 w):
  Calls prog 151 #[.pointer (some ⟨b,0,none⟩)] w fun e w'=>e=.returned (.int .i64 0)/\q3s B b d (.slice wa 0 wc) s 2 w'/\Below B w w':=by
 have A:Hid (q3s B b d (.slice wa 0 wc) s 0 w):=h;obtain⟨C,L,D,E,G,H,I,J,K⟩:=h;go_in;go_wp2;go_ret;exact⟨rfl,A.o.fault 2,Zb.setCell (p:=⟨b,3,none⟩) C _⟩
theorem q5b{B b:Nat}{d:Value}{wa:Option Addr}{wc:Nat}{s:ByteArray}{w:World}(c:Int)(ws:List Int)(h:q3s B b d (.slice wa (ws.length+1) wc) s 0 w)(hI:q1h B w wa (c::ws))(hc:ws.length+1<=wc):
  Calls prog 151 #[.pointer (some ⟨b,0,none⟩)] w fun e w'=>e=.returned (.int .i64 c)/\(∃wa' wc',q3s B b d (.slice wa' ws.length wc') s 0 w'/\q1h B w' wa' ws/\ws.length<=wc')/\Below B w w':=by
 have I:Hid (q3s B b d (.slice wa (ws.length+1) wc) s 0 w):=h;obtain⟨D,G,M,O,L⟩:=hI 0 (by simp);subst M;have J:Hid (q1h B w (if wc=1 then some ⟨D,G,none⟩else some ⟨D,G+1,none⟩) ws):=hI.slid hc;obtain⟨K,f,S,U,V,X,Y,Z,a⟩:=h;simp only[Nat.add_zero,List.getElem_cons_zero]at L;have Q:(1:Int)<=(ws.length:Int)+1:=by omega
 have P:((ws.length:Int)+1==0)=false:=beq_eq_false_iff_ne.2 (by omega);have N:D≠b:=by omega
 clear hI;by_cases H:wc=1
 ·have R:Hid (wc=1):=H;have A:=J.o;rw[if_pos H]at A;have C:Hid (q1h B w (some ⟨D,G,none⟩) ws):=A;clear A;go_in;go_wp2;go_ret;have E:∀v,Below B w (w.setCell ⟨b,1,none⟩ v):=fun v=> Zb.setCell (p:=⟨b,1,none⟩) K _
  exact⟨rfl,⟨_,_,I.o.ways _,C.o.W (E _),by omega⟩,E _⟩
 ·have A:=J.o;rw[if_neg H]at A;have C:Hid (q1h B w (some ⟨D,G+1,none⟩) ws):=A;clear A;go_in;go_wp2;go_ret;have E:∀v,Below B w (w.setCell ⟨b,1,none⟩ v):=fun v=> Zb.setCell (p:=⟨b,1,none⟩) K _
  exact⟨rfl,⟨_,_,I.o.ways _,C.o.W (E _),by omega⟩,E _⟩
theorem k9p{x:Nd}{a c:Tr}(h:x.op=6):Tr.line (.two x a c)=(if(a.isFlat&&c.isFlat)=true then a.line++c.line else⟨#[]⟩)/\Tr.isFlat (.two x a c)=(a.isFlat&&c.isFlat):=by
 unfold Tr.line Tr.isFlat;simp only[Tr.flat,if_pos h];cases A:a.flat with
 | none=>simp
 | some s=>
  cases B:c.flat with
  | none=>simp
  | some t=>exact⟨q6e (by simp),by simp⟩
theorem q3w(ds:List Nd)(a:Option Addr)(cap:Nat)(hl:ds.length<=400):∀t:Tr,t.Wf->t.N.length<=400->q2d ds a cap t.N t.line t.isFlat
 | .leaf ⟨op,tx,n⟩,h,hn=>by
  rcases q3y h.1 h.2 with e|e|e|e|e
  all_goals (simp only at e;subst e)
  ·have es:Tr.line (.leaf ⟨1,tx,n⟩)=tx:=q6e (by rw[z4h];simp[Tr.flat]);rw[es];exact v2m ds a cap tx n
  ·exact v2n ds a cap tx n
  ·exact v2o ds a cap tx n
  ·exact v2p ds a cap tx n
  ·exact v2q ds a cap tx n
 | .one ⟨op,tx,n⟩ a',h,hn=>by
  have hn':a'.N.length<=400:=by simp[Tr.N]at hn;omega
  rcases q8d h.2.1 with e|e
  all_goals (simp only at e;subst e)
  ·exact v2s ds a cap hl tx n _ _ _ (q3w ds a cap hl a' h.2.2 hn')
  ·exact v2t ds a cap hl tx n _ _ _ (q3w ds a cap hl a' h.2.2 hn')
 | .two ⟨op,tx,n⟩ a' c,h,hn=>by
  have A:a'.N.length<=400:=by simp[Tr.N]at hn;omega
  have B:c.N.length<=400:=by simp[Tr.N]at hn;omega
  have C:a'.line.size<=8800:=by have:=q7y a' h.2.2.1;rw[q8b];omega
  have D:c.line.size<=8800:=by have:=q7y c h.2.2.2;rw[q8b];omega
  rcases q7p h.2.1 with e|e
  all_goals (simp only at e;subst e)
  ·obtain⟨E,G⟩:=k9p (x:=⟨6,tx,n⟩) (a:=a') (c:=c) rfl;rw[E,G];exact v2r ds a cap hl tx n _ _ _ _ _ _ (q3w ds a cap hl a' h.2.2.1 A) (q3w ds a cap hl c h.2.2.2 B) C D fun i r hd=>q4t h.2.2.1 hd
  ·exact v2u ds a cap hl tx n _ _ _ _ (q3w ds a cap hl a' h.2.2.1 A)
def Laid(B b:Nat)(dv:Value)(res:Except Int (List UInt8 × List Int))(s0:ByteArray)(w':World):Prop:=
 match res with
 | .ok (u,ws')=>∃wa' wc' s',s'.data.toList=s0.data.toList++u/\q3s B b dv (.slice wa' ws'.length wc') s' 0 w'/\q1h B w' wa' ws'/\ws'.length<=wc'
 | .error e=>e≠0/\∃v' s',q3s B b dv v' s' e w'
def q6b(B b:Nat)(ds:List Nd)(a:Option Addr)(cap:Nat)(A:List Nd)(f:Nat->List Int->Except Int (List UInt8 × List Int)):Prop:=
 ∀(i:Nat)(r:List Nd)(deep:Nat)(ws:List Int)(wa:Option Addr)(wc:Nat)(s:ByteArray)(w:World),ds.drop i=A++r->q5k B w a ds->q1h B w wa ws->ws.length<=wc->q3s B b (.slice a ds.length cap) (.slice wa ws.length wc) s 0 w->
  deep+8*A.length<=3300->s.size+4000*A.length<=1000000000->
  Calls prog 95 #[.pointer (some ⟨b,0,none⟩),.int .i64 i,.int .i64 deep] w fun e w'=>e=.returned (.tuple #[])/\Laid B b (.slice a ds.length cap) (f deep ws) s w'/\Below B w w'
theorem q3s.bsize{B b:Nat}{d v:Value}{s:ByteArray}{e:Int}{w:World}(h:q3s B b d v s e w):B<=w.heap.size:=by
 obtain⟨A,C,_⟩:=h;omega
theorem q3s.grown{B b:Nat}{d v:Value}{s:ByteArray}{e:Int}{w w':World}(_h:q3s B b d v s e w)(hb:Below w w w'):Below B w w':=by
 have:=_h.bsize
 exact hb.mono this
theorem j5k{B b:Nat}(ds:List Nd)(a:Option Addr)(cap:Nat){v:Value}{s:ByteArray}{e:Int}(i:Nat)(A:Int)(w:World)(hi:i<ds.length)(hN:q5k B w a ds)(h:q3s B b (.slice a ds.length cap) v s e w)(he:e≠0):
  Calls prog 95 #[.pointer (some ⟨b,0,none⟩),.int .i64 i,.int .i64 A] w fun r w'=>r=.returned (.tuple #[])/\q3s B b (.slice a ds.length cap) v s e w'/\Below B w w':=by
 have C:Hid (q3s B b (.slice a ds.length cap) v s e w):=h;obtain⟨D,W,E,I,N,O,P⟩:=hN i hi;subst E;obtain⟨U,V,J,K,L,M,Q,R,S⟩:=h;have H:(e != 0)=true:=by simp[he]
 have G:D<w.heap.size:=by omega
 clear hN he;go_in;go_wp2;exact bodyPost_ret (v:=.tuple #[]) (by simp[results,Tryz.results95,go_sem]) rfl ⟨rfl,C.o.alloc _,Zb.alloc C.o.bsize _⟩
end Go.Proofs.YtfdppahhbpfnoaaGreatDoor
