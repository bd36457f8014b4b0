import Derived.Test.YtfdppahhbpfnoaaGreatDoorPi26
import Derived.Test.YtfdppahhbpfnoaaGreatDoorPi31
open Go.Proofs.Tryz
namespace Go.Proofs.YtfdppahhbpfnoaaGreatDoor
open Go Go.RowKit
set_option maxRecDepth 100000
set_option maxHeartbeats 4000000
def k8g(ds:List Td):Prop:=∀x∈ds,x.tx.size<=140737488351232
theorem v6n.nine{ds:List Td}(h:v6n ds):k8g ds:=fun x hx=>Nat.le_trans (h x hx) (by decide)
theorem j9n(x:Td)(w:World):Calls prog 154 #[tdV x] w fun e w'=>e=.returned (.int .i64 (kdZ x))/\Below w w w':=by
 obtain⟨A,J,n⟩:=x;have B:∀O:Obj,Below w w (w.alloc O):=fun O=>(Below.refl _ w).alloc Zl O
 by_cases C:A=3
 ·subst C;go_in;go_wp2;go_ret;exact⟨by simp[kdZ],B _⟩
 by_cases D:A=4
 ·subst D;go_in;go_wp2;go_ret;exact⟨by simp[kdZ],B _⟩
 by_cases E:A=5
 ·subst E;go_in;go_wp2;go_ret;exact⟨by simp[kdZ,kdT],B _⟩
 by_cases G:A=6
 ·subst G;go_in;go_wp2;go_ret;exact⟨by simp[kdZ,kdT],B _⟩
 by_cases H:A=7
 ·subst H;go_in;go_wp2;go_ret;exact⟨by simp[kdZ,kdT],B _⟩
 by_cases I:A=8
 ·subst I;go_in;go_wp2;go_ret;exact⟨by simp[kdZ,kdT],B _⟩
 have K:Hid (kdZ ⟨A,J,n⟩=0):=by show kdZ ⟨A,J,n⟩=0;simp[kdZ,kdT,C,D,E,G,H,I]
 have L:(A==3)=false:=by simp[C]
 have M:(A==4)=false:=by simp[D]
 have N:(A==5)=false:=by simp[E]
 have P:(A==6)=false:=by simp[G]
 have Q:(A==7)=false:=by simp[H]
 have R:(A==8)=false:=by simp[I]
 clear C D E G H I;go_in;go_wp2;go_ret;exact⟨by rw[K.o];rfl,B _⟩
theorem v5l(x:Td)(h:q0p x=0)(w:World):Calls prog 154 #[.agg #[.int .i64 x.op,.string x.tx,.int .i64 x.n]] w fun e w'=>e=.returned (.int .i64 (kdT x:Int))/\Below w w w':=by
 have:=j9n x w
 rw[v7g h]at this;exact this
def v8q(o:Option Nat)(j:Nat)(b:Bool):Prop:=o=if b=true then some j else none
def v6m(ds:List Td)(i:Nat)(e:Ending):Prop:=∃(j:Nat)(b:Bool),e=.returned (.tuple #[.int .i64 (j:Int),.bool b])/\v8q (q3p ds i 1) j b
theorem v8q.yes{o:Option Nat}{j:Nat}(h:o=some j):v8q o j true:=h
theorem v8q.no{o:Option Nat}{j:Nat}(h:o=none):v8q o j false:=h
theorem j0y(ds:List Td)(a:Option Addr)(cap:Nat)(hl:ds.length<=40)(hk:∀x∈ds,q0p x=0)(i:Nat)(hi:i<=ds.length)(w:World)(hN:Tds w a ds):
  Calls prog 102 #[.slice a ds.length cap,.int .i64 i] w fun e w'=>v6m ds i e/\Below w w w':=by
 have V:Hid (Tds w a ds):=hN;have N:Hid (∀x∈ds,q0p x=0):=hk;clear hN hk;go_in;go_wp2
 go_loopw [1,6] (fun z m wr=>Below w w wr/\∃k q:Nat,k<=ds.length/\q<=1+6*k/\z=.int .i64 (k:Int)/\m=.int .i64 (q:Int)/\q3p ds i 1=q3p ds k q) (fun z _ _=>ds.length-(intOf z).toNat)
 case atStart=>exact⟨Below.refl _ _,i,1,hi,by omega,rfl,rfl,rfl⟩
 case round=>
  obtain⟨E,k,q,Y,g,rfl,rfl,U⟩:=hrel;have H:Hid (q3p ds i 1=q3p ds k q):=U;have A:Hid (Below w w wr):=E;clear U E;by_cases J:q=0
  ·subst J
   have I:Hid (q3p ds i 1=some k):=by
    show _=_;rw[H.o,k0q]
   go_wp2;go_ret2;exact⟨⟨k,true,rfl,v8q.yes I.o⟩,A.o⟩
  ·obtain⟨p,rfl⟩:∃p,q=p+1:=⟨q-1,by omega⟩;have C:((p+1:Nat):Int)=(p:Int)+1:=by omega
   have Z:(0:Int)<(p:Int)+1:=by omega
   have M:((p:Int)+1==0)=false:=beq_false_of_ne (by omega);by_cases B:k<ds.length
   ·have L:(k:Int)<(ds.length:Int):=by omega
    obtain⟨b,o,X,f,Q,R,S⟩:=(V.o.W A.o) k B;subst X;have K:=v7f (N.o _ (List.getElem_mem B));have D:Hid (∀W:World,Calls prog 154 #[.agg #[.int .i64 ds[k].op,.string ds[k].tx,.int .i64 ds[k].n]] W fun e w'=>e=.returned (.int .i64 (kdT ds[k]:Int))/\Below W W w'):=fun W=>v5l _ (N.o _ (List.getElem_mem B)) W
    have O:Hid (q3p ds i 1=q3p ds (k+1) (kdT ds[k]+p)):=by
     show _=_;rw[H.o,z3w ds k p B]
    generalize kdT ds[k]=d at K D O;generalize ds[k].op=xo at Q D;generalize ds[k].tx=xt at R D;generalize ds[k].n=xn at S D;rw[C];clear J M C;go_wp2_with fail;refine(D.o _).mono ?_;rintro e c⟨rfl,P⟩;have G:Hid (Below w w c):=q0d A.o Zl P;clear P Q R S;go_wp2
    go_roundw
    case rel=>exact⟨G.o,k+1,d+p,by omega,by omega,by go_num,by go_num,O.o⟩
    case measure=>simp[intOf];omega
   ·have L:¬(k:Int)<(ds.length:Int):=by omega
    have I:Hid (q3p ds i 1=none):=by
     show _=_;rw[H.o,q8o ds k p (by omega)]
    rw[C];clear J C;go_wp2;go_ret2;exact⟨⟨k,false,rfl,v8q.no I.o⟩,A.o⟩
theorem v5q{w:World}{a:Option Addr}{c:Nat}{x:Td}{r:List Td}(h:Tds w a (x::r))(hc:r.length+1<=c):
  ∃A,(∀W:World,(Instr.slice 22 (.slice a (r.length+1) c) (some (.int .i64 1)) none none).run prog W=.ok (.slice A r.length (c-1)) W)/\Tds w A r:=by
 obtain⟨b,o,rfl,J,_,_,_⟩:=h 0 (by simp);refine⟨if c=1 then some ⟨b,o,none⟩else some ⟨b,o+3,none⟩,fun W=>?_,?_⟩
 ·have H:=run_slice_l (P:=prog) W 22 (some ⟨b,o,none⟩) (r.length+1) c Tryz.underlying22 .i64 1 (by omega) (by omega);rw[H];have L:(sizeOf (prog.elem 22)).run prog W=.ok 3 W:=by kernel_rfl
  rw[L];have I:(⟨b,o,none⟩:Addr).add 3=⟨b,o+3,none⟩:=rfl;simp[Result.andThen,sliced,I]
 ·by_cases e:c=1
  ·have:r=[]:=List.eq_nil_of_length_eq_zero (by omega)
   subst this;exact fun i E=>by simp at E
  ·rw[if_neg e];intro i E;obtain⟨M,N,G,K,B,C,D⟩:=h (i+1) (by simp;omega);cases G;rw[show o+(i+1)*3=o+3+i*3 by omega]at B C D;exact⟨b,o+3,rfl,J,B,C,D⟩
theorem y4p{x:Td}(h:q0p x=0):1<=x.op/\x.op<=9:=by
 unfold q0p at h
 split at h
 ·cases h
 ·omega
def q7s(ds:List Td):Bool:=decide (q3p ds 0 1=some ds.length)&&k5h ds
theorem j9g:q7s []=false:=by
 have:q3p [] 0 1=none:=q8o _ _ _ Zl
 simp[q7s,this]
theorem j1c{ds:List Td}(hl:ds.length<=40)(ha:∀x∈ds,q0p x=0):q0b ds=if q7s ds=true then 0 else 2:=by
 rw[z0y hl ha];simp only[q7s,Bool.and_eq_true,decide_eq_true_eq]
theorem j9o(ds:List Td)(a:Option Addr)(cap:Nat)(hl:ds.length<=40)(hk:∀x∈ds,q0p x=0)(w:World)(hc:ds.length<=cap)(hN:Tds w a ds):
  Calls prog 67 #[.slice a ds.length cap] w fun e w'=>e=.returned (.bool (q7s ds))/\Below w w w':=by
 cases ds with
 | nil=>
  rw[j9g];clear hk hN hl hc;go_in;go_wp2;go_ret;exact⟨rfl,Below.refl _ _⟩
 | cons x r=>
  have l:Hid (Tds w a (x::r)):=hN;have h:Hid (∀y∈x::r,q0p y=0):=hk;obtain⟨b,o,ea,hb,m,_,_⟩:=hN 0 (by simp);have hx:=y4p (hk x (by simp));have R:(x::r).length=r.length+1:=rfl;rw[R]at hl hc⊢;have hp:¬(r.length:Int)+1=0:=by omega
  have Ad:((r.length:Int)+1==0)=false:=beq_false_of_ne hp;have Ac:(0:Int)<(r.length:Int)+1:=by omega
  have Q:w.cell? ⟨b,o,none⟩=some (.int .i64 x.op):=by simpa using m
  clear m hN;subst ea;by_cases h7:7<=x.op
  ·have M:Hid (exB x.op=false):=by show exB x.op=false;simp[exB];omega
   obtain⟨A,f,t⟩:=v5q l.o hc;have u:Hid (Tds w A r):=t;clear t;generalize Ae:x.op=xo at Q M;go_in;go_wp2_with fail;refine(z0u xo _).mono ?_;rintro e V⟨rfl,rfl⟩;rw[M.o];go_wp2_with fail
   go_loopw [20] (fun i wr=>Below w w wr/\∃k:Nat,k<=r.length/\i=.int .i64 (k:Int)/\∀y∈r.take k,y.op<7) (fun i _=>r.length-(intOf i).toNat)
   case atStart=>exact⟨Below.refl _ _,0,Nat.zero_le _,rfl,by simp⟩
   case round=>
    obtain⟨E,k,Ab,rfl,H⟩:=hrel;have I:Hid (Below w w wr):=E;have K:Hid (∀O:Obj,Below w w (wr.alloc O)):=fun O=>E.alloc E.size O
    clear E;have g:Hid (∀y∈r.take k,y.op<7):=H;clear H f;by_cases J:k<r.length
    ·have d:(k:Int)<(r.length:Int):=by omega
     obtain⟨b1,o1,z,Aa,p,q,s⟩:=(u.o.W I.o) k J;subst z;have U:=y4p (h.o r[k] (by simp));by_cases G:r[k].op<7
     ·have N:Hid (exB r[k].op=true):=by show exB r[k].op=true;simp[exB];omega
      have X:Hid (∀y∈r.take (k+1),y.op<7):=by
       intro y B;rw[List.take_succ_eq_append_getElem J]at B;rcases List.mem_append.1 B with B|B
       ·exact g.o y B
       ·simp at B;subst B;exact G
      clear G U;generalize r[k].op=yo at p N;generalize r[k].tx=yt at q;generalize r[k].n=yn at s;go_wp2_with fail;refine(z0u yo _).mono ?_;rintro e V⟨rfl,rfl⟩;rw[N.o];go_wp2
      go_roundw
      case rel=>exact⟨K.o _,k+1,by omega,by go_num,X.o⟩
      case measure=>simp[intOf];omega
     ·have N:Hid (exB r[k].op=false):=by show exB r[k].op=false;simp[exB];omega
      have D:Hid (q7s (x::r)=false):=by
       show _=_
       have:k5h (x::r)=false:=by
        simp only[k5h,Bool.and_eq_false_iff,List.all_eq_false];exact .inr ⟨r[k],List.getElem_mem J,by simp[G]⟩
       simp[q7s,this]
      clear G U;generalize r[k].op=yo at p N;generalize r[k].tx=yt at q;generalize r[k].n=yn at s;go_wp2_with fail;refine(z0u yo _).mono ?_;rintro e V⟨rfl,rfl⟩;rw[N.o];go_wp2;go_ret;exact⟨by rw[D.o];rfl,K.o _⟩
    ·have d:¬(k:Int)<(r.length:Int):=by omega
     have L:Hid (k5h (x::r)=true):=by
      show _=_;simp only[k5h,Bool.and_eq_true,decide_eq_true_eq,List.all_eq_true];refine⟨by omega,fun y U=>g.o y ?_⟩;rw[List.take_of_length_le (by omega)];exact U
     have Y:Hid (Calls prog 102 #[.slice (some ⟨b,o,none⟩) (r.length+1) cap,.int .i64 0] wr fun e w'=>v6m (x::r) 0 e/\Below wr wr w'):=j0y (x::r) _ cap hl h.o 0 (Nat.zero_le _) wr (l.o.W I.o);go_wp2_with fail;refine Y.o.mono ?_;rintro e V⟨⟨j,v,rfl,C⟩,P⟩;have Z:=q0d I.o Zl P;clear P;cases v with
     | false=>
      have C:q3p (x::r) 0 1=none:=C
      have D:Hid (q7s (x::r)=false):=by
       show _=_;simp[q7s,C]
      clear C;go_wp2;go_ret;exact⟨by rw[D.o];rfl,Z⟩
     | true=>
      have C:q3p (x::r) 0 1=some j:=C;by_cases S:(j:Int)=(r.length:Int)+1
      ·have D:Hid (q7s (x::r)=true):=by
        show _=_
        have:j=r.length+1:=by omega
        simp[q7s,C,this,L.o]
       have c:((j:Int)==(r.length:Int)+1)=true:=beq_iff_eq.2 S;clear C S;go_wp2;go_ret;exact⟨by rw[D.o];rfl,Z⟩
      ·have D:Hid (q7s (x::r)=false):=by
        show _=_
        have:¬j=r.length+1:=by omega
        simp[q7s,C,this]
       have c:((j:Int)==(r.length:Int)+1)=false:=beq_false_of_ne S;clear C S;go_wp2;go_ret;exact⟨by rw[D.o];rfl,Z⟩
  ·have M:Hid (exB x.op=true):=by show exB x.op=true;simp[exB];omega
   have D:Hid (q7s (x::r)=false):=by
    show _=_
    have:k5h (x::r)=false:=by simp[k5h,h7]
    simp[q7s,this]
   generalize x.op=xo at Q M;go_in;go_wp2_with fail;refine(z0u xo _).mono ?_;rintro e V⟨rfl,rfl⟩;rw[M.o];go_wp2;go_ret;exact⟨by rw[D.o];rfl,Below.refl _ _⟩
theorem q7h(ds:List Td)(a:Option Addr)(cap:Nat)(w:World)(hc:ds.length<=cap)(hN:Tds w a ds)(G:k8g ds):Calls prog 29 #[.slice a ds.length cap] w fun e w'=>e=.returned (q1v (q0b ds))/\Below w w w':=by
 have V:Hid (Tds w a ds):=hN;have M:Hid (k8g ds):=G;clear hN G;by_cases d:40<(ds.length:Int)
 ·rw[z7b (by omega),k6g];go_in;go_wp2;go_ret;exact⟨rfl,Below.refl _ _⟩
 ·have N:ds.length<=40:=by omega
  go_in;go_wp2
  go_loopw [12] (fun i wr=>Below w w wr/\∃k:Nat,k<=ds.length/\i=.int .i64 k/\∀x∈ds.take k,q0p x=0) (fun i _=>ds.length-(intOf i).toNat)
  case atStart=>exact⟨Below.refl _ _,0,Nat.zero_le _,rfl,by simp⟩
  case round=>
   obtain⟨J,k,g,rfl,C⟩:=hrel;have K:Hid (∀x∈ds.take k,q0p x=0):=C;have Q:Hid (Tds wr a ds):=V.o.W J;clear C;by_cases B:k<ds.length
   ·obtain⟨b,o,X,f,Y,Z,c⟩:=Q.o k B;have H:=M.o _ (List.getElem_mem B);subst X;by_cases I:q0p ds[k]=0
    ·have E:Hid (q0p ds[k]=0):=I;clear I;go_wp2_with fail;refine(k2n ds[k] _ H).mono ?_;rintro e U⟨rfl,A⟩;rw[E.o,q1l];have D:=z5w J Zl A;clear A;go_wp2
     go_roundw
     case rel=>exact⟨D,k+1,by omega,by go_num,z7a B K.o E.o⟩
     case measure=>simp[intOf];omega
    ·have E:Hid (q0p ds[k]≠0):=I;clear I;go_wp2_with fail;refine(k2n ds[k] _ H).mono ?_;rintro e U⟨rfl,A⟩;rw[q0t E.o];have D:=z5w J Zl A;clear A;go_wp2;go_ret;refine⟨?_,D⟩;rw[z7c N B K.o E.o,q0t E.o];rfl
   ·have P:Hid (∀x∈ds,q0p x=0):=by
     have:=K.o
     rw[List.take_of_length_le (by omega)]at this;exact this
    have L:Hid (q0b ds=if q7s ds=true then 0 else 2):=j1c N P.o;have R:Hid (Calls prog 67 #[.slice a ds.length cap] wr fun e w'=>e=.returned (.bool (q7s ds))/\Below wr wr w'):=j9o ds a cap N P.o wr hc Q.o;generalize q7s ds=sb at L R;go_wp2_with fail;refine R.o.mono ?_;rintro e U⟨rfl,S⟩;have O:=q0d J Zl S;clear S;cases sb with
    | true=>
     go_wp2;go_ret;exact⟨by rw[L.o];rfl,O⟩
    | false=>
     go_wp2;go_ret;exact⟨by rw[L.o];rfl,O⟩
theorem v5n(ds:List Nd)(a:Option Addr)(cap:Nat)(hl:ds.length<=400)(tx:ByteArray)(n:Int)(A:List Nd)(f:List (List Int)->List (List Int))(sA:ByteArray)(hA:z7p ds a cap A f)(hf:y2s A f)(hF:q2d ds a cap A sA true)(F:List (List Int)->List (List Int))(HF:Hid (∀bs,F bs=(bs.map (0::·)++(f bs).map (1::·)).take 301)):z7p ds a cap (⟨8,tx,n⟩::A) F:=by
 intro i r bs ba bc m w hd hN hM Ac L hx hm;obtain⟨hi,e1,e2⟩:=q0s (x:=⟨8,tx,n⟩) (r:=A++r) hd;obtain⟨b0,o0,ea,Ag,c1,c2,c3⟩:=hN i hi;subst ea;rw[e1]at c1 c2 c3;dsimp only at c1 c2 c3;simp only[List.length_cons]at hm;have HX:Hid (((i+1:Nat):Int)=(i:Int)+1):=(show _=_ by omega);have HN:Hid (q1p w (some ⟨b0,o0,none⟩) ds):=hN;have HM:Hid (q1x none w ba bs):=hM;have Y:Hid (∀x∈bs,x.length<=m):=hx;have HA:Hid (z7p ds (some ⟨b0,o0,none⟩) cap A f):=hA;have u:Hid ((f bs).length<=301):=hf.1 bs L;have v:Hid (∀x∈f bs,x.length<=m+A.length):=hf.2 bs m hx;have y:Hid (q2d ds (some ⟨b0,o0,none⟩) cap A sA true):=hF;have HD:Hid (ds.drop (i+1)=A++r):=e2;clear hd e1 e2 hN hM hx hA hF hf;go_in;go_wp2_with fail;rw[<-HX.o];refine(y.o (i+1) _ _ HD.o HN.o).mono ?_;rintro e w1⟨rfl,J⟩;have Q:Hid (Below w w w1):=J;have j:=J.size;clear J;go_wp2_with fail;refine(q6i w.heap.size (.slice none 0 0) [] bs 0 ba bc w1 (q7q.nil _ _ _) (HM.o.W Q.o) j (by simp;omega) (fun x h=>by have:=Y.o x h;omega)).mono ?_;rintro e p⟨v2,rfl,B,G,Z⟩;rw[List.nil_append]at B;have D:(bs.map (0::·)).length<=301:=by rw[List.length_map];exact L
 generalize b:bs.map (0::·)=l1 at B D;have t:Hid (bs.map (0::·)=l1):=b;have X:Hid (l1.length<=301):=D;clear b D;have C:Hid (Below w w p):=Q.o.trans (q5e G j (fun k h=>by cases h));have Af:=C.o.size;obtain⟨O,P,rfl,_,_,_,N⟩:=B.o;have D:l1.length<=301:=X.o;generalize Ae:l1.length=n1 at B N D;have z:Hid (q7q w.heap.size (.slice O n1 P) l1 none p):=B;have I:Hid (∀k,(Value.slice O n1 P).ownBlock=some k->w.heap.size<=k/\k<p.heap.size):=N;clear B G Z N Ae;go_wp2_with fail;rw[<-HX.o];refine(HA.o (i+1) r bs ba bc m p HD.o (HN.o.W C.o) (HM.o.W C.o) Ac L Y.o (by omega)).mono ?_;rintro e s⟨a3,k3,rfl,h3,h4,K⟩;have Ab:Hid (q1x (Value.slice O n1 P).ownBlock s a3 (f bs)):=h4 (Value.slice O n1 P).ownBlock (fun k h=>(I.o k h).2) (HM.o.apart C.o fun k h=>(I.o k h).1);have Aa:Hid (q7q w.heap.size (.slice O n1 P) l1 none s):=z.o.W K;have R:Hid (Below w w s):=C.o.trans (K.mono Af);have l:=R.o.size;clear h4 K;go_wp2_with fail;refine(q6i w.heap.size (.slice O n1 P) l1 (f bs) 1 a3 k3 s Aa.o Ab.o l (by have:=u.o;have:=X.o;omega) (fun x h=>by have:=v.o x h;omega)).mono ?_;rintro e w5⟨v5,rfl,M,H,_⟩;generalize c:l1++(f bs).map (1::·)=l5 at M;have V:Hid (q7q w.heap.size v5 l5 none w5):=M;have U:Hid (F bs=l5.take 301):=(show _=_ by rw[HF.o,t.o,c]);clear c;have S:Hid (Below w w w5):=R.o.trans (q5e H l (fun k h=>(I.o k h).1));clear M H;obtain⟨a5,k5,rfl,h5,o,h7,_⟩:=V.o.o;have H7:Hid (∀g:Option Nat,(∀k,g=some k->k<w.heap.size)->q1x g w5 a5 l5):=h7;generalize d:l5.length=n5 at h5 o;have E:Hid (l5.length=n5):=d;clear h7 d V;by_cases hcut:301<n5
 ·obtain⟨q5,rfl⟩:∃q5,a5=some ⟨q5,0,none⟩:=o.resolve_left (by omega);have Ad:(301:Int)<(n5:Int):=by omega
  clear o;go_wp2;go_ret;rw[U.o];refine⟨some ⟨q5,0,none⟩,k5,?_,?_,fun q hq _=>(H7.o q hq).take 301,S.o⟩
  ·have e:(l5.take 301).length=301:=by rw[List.length_take,E.o];omega
   rw[e];rfl
  ·rw[List.length_take,E.o];omega
 ·have Ad:¬(301:Int)<(n5:Int):=by omega
  clear o;go_wp2;go_ret;rw[U.o];refine⟨a5,k5,?_,?_,fun q hq _=>(H7.o q hq).take 301,S.o⟩
  ·have e:(l5.take 301).length=n5:=by rw[List.length_take,E.o];omega
   rw[e];rfl
  ·rw[List.length_take,E.o];omega
theorem v5m(ds:List Nd)(a:Option Addr)(cap:Nat)(hl:ds.length<=400)(tx:ByteArray)(n:Int)(A:List Nd)(f:List (List Int)->List (List Int))(sA:ByteArray)(hA:z7p ds a cap A f)(hf:y2s A f)(hF:q2d ds a cap A sA false)(F:List (List Int)->List (List Int))(HF:Hid (∀bs,F bs=(([]:List (List Int))++(f bs).map (1::·)).take 301)):z7p ds a cap (⟨8,tx,n⟩::A) F:=by
 intro i r bs ba bc m w hd b hM c M l hm;obtain⟨hi,e1,e2⟩:=q0s (x:=⟨8,tx,n⟩) (r:=A++r) hd;obtain⟨Z,o,ea,Aa,c1,c2,c3⟩:=b i hi;subst ea;rw[e1]at c1 c2 c3;dsimp only at c1 c2 c3;simp only[List.length_cons]at hm;have HX:Hid (((i+1:Nat):Int)=(i:Int)+1):=(show _=_ by omega);have z:Hid (q1p w (some ⟨Z,o,none⟩) ds):=b;have y:Hid (q1x none w ba bs):=hM;have X:Hid (∀x∈bs,x.length<=m):=l;have HA:Hid (z7p ds (some ⟨Z,o,none⟩) cap A f):=hA;have R:Hid ((f bs).length<=301):=hf.1 bs M;have S:Hid (∀x∈f bs,x.length<=m+A.length):=hf.2 bs m l;have U:Hid (q2d ds (some ⟨Z,o,none⟩) cap A sA false):=hF;have v:Hid (ds.drop (i+1)=A++r):=e2;clear hd e1 e2 b hM l hA hF hf;go_in;go_wp2_with fail;rw[<-HX.o];refine(U.o (i+1) _ _ v.o z.o).mono ?_;rintro e w1⟨rfl,E⟩;have B:Hid (Below w w w1):=E;have j:=E.size;clear E;go_wp2_with fail;rw[<-HX.o];refine(HA.o (i+1) r bs ba bc m w1 v.o (z.o.W B.o) (y.o.W B.o) c M X.o (by omega)).mono ?_;rintro e s⟨a3,k3,rfl,h3,h4,L⟩;have V:Hid (q1x none s a3 (f bs)):=h4 none (fun k h=>by cases h) (y.o.W B.o);have H:Hid (Below w w s):=B.o.trans (L.mono j);have P:=H.o.size;clear h4 L;go_wp2_with fail;refine(q6i w.heap.size (.slice none 0 0) [] (f bs) 1 a3 k3 s (q7q.nil _ _ _) V.o P (by have:=R.o;simp;omega) (fun x h=>by have:=S.o x h;omega)).mono ?_;rintro e t⟨v5,rfl,G,D,_⟩;generalize N:([]:List (List Int))++(f bs).map (1::·)=l5 at G;have K:Hid (q7q w.heap.size v5 l5 none t):=G;have J:Hid (F bs=l5.take 301):=(show _=_ by rw[HF.o,N]);clear N;have I:Hid (Below w w t):=H.o.trans (q5e D P (fun k h=>by cases h));clear G D;obtain⟨Y,k5,rfl,h5,Q,h7,_⟩:=K.o.o;have u:Hid (∀g:Option Nat,(∀k,g=some k->k<w.heap.size)->q1x g t Y l5):=h7;generalize O:l5.length=n5 at h5 Q;have C:Hid (l5.length=n5):=O;clear h7 O K;by_cases hcut:301<n5
 ·obtain⟨p,rfl⟩:∃p,Y=some ⟨p,0,none⟩:=Q.resolve_left (by omega);have d:(301:Int)<(n5:Int):=by omega
  clear Q;go_wp2;go_ret;rw[J.o];refine⟨some ⟨p,0,none⟩,k5,?_,?_,fun q hq _=>(u.o q hq).take 301,I.o⟩
  ·have e:(l5.take 301).length=301:=by rw[List.length_take,C.o];omega
   rw[e];rfl
  ·rw[List.length_take,C.o];omega
 ·have d:¬(301:Int)<(n5:Int):=by omega
  clear Q;go_wp2;go_ret;rw[J.o];refine⟨Y,k5,?_,?_,fun q hq _=>(u.o q hq).take 301,I.o⟩
  ·have e:(l5.take 301).length=n5:=by rw[List.length_take,C.o];omega
   rw[e];rfl
  ·rw[List.length_take,C.o];omega
theorem y1z(ds:List Nd)(a:Option Addr)(cap:Nat)(hl:ds.length<=400)(tx:ByteArray)(n:Int)(A C:List Nd)(f g:List (List Int)->List (List Int))(hA:z7p ds a cap A f)(hf:y2s A f)(hC:z7p ds a cap C g)(hg:y2s C g)(hE:∀i r,ds.drop i=A++r->q0n ds i 1=some (i+A.length))(F:List (List Int)->List (List Int))(HF:Hid (∀bs,F bs=((f bs).map (0::·)++(g bs).map (1::·)).take 301)):z7p ds a cap (⟨9,tx,n⟩::(A++C)) F:=by
 intro i r bs ba bc m w hd hN hM l H hx hm;obtain⟨hi,e1,e2⟩:=q0s (x:=⟨9,tx,n⟩) (r:=(A++C)++r) hd;obtain⟨b0,o0,ea,Am,c1,c2,c3⟩:=hN i hi;subst ea;rw[e1]at c1 c2 c3;dsimp only at c1 c2 c3;simp only[List.length_cons,List.length_append]at hm;have HX:Hid (((i+1:Nat):Int)=(i:Int)+1):=(show _=_ by omega);have HN:Hid (q1p w (some ⟨b0,o0,none⟩) ds):=hN;have z:Hid (q1x none w ba bs):=hM;have b:Hid (∀x∈bs,x.length<=m):=hx;have HA:Hid (z7p ds (some ⟨b0,o0,none⟩) cap A f):=hA;have K:Hid ((f bs).length<=301):=hf.1 bs H;have Ae:Hid (∀x∈f bs,x.length<=m+A.length):=hf.2 bs m hx;have HC:Hid (z7p ds (some ⟨b0,o0,none⟩) cap C g):=hC;have Ab:Hid ((g bs).length<=301):=hg.1 bs H;have Ac:Hid (∀x∈g bs,x.length<=m+C.length):=hg.2 bs m hx;have y:Hid (ds.drop (i+1)=(A++C)++r):=e2;rw[List.append_assoc]at y;have HE:Hid (q0n ds (i+1) 1=some (i+1+A.length)):=hE (i+1) (C++r) y.o;have V:Hid (ds.drop (i+1+A.length)=C++r):=q7w y.o;clear hd e1 e2 hN hM hx hA hC hE hf hg;go_in;go_wp2_with fail;rw[<-HX.o];refine(HA.o (i+1) (C++r) bs ba bc m w y.o HN.o z.o l H b.o (by omega)).mono ?_;rintro e w1⟨a1,k1,rfl,h1,c,M⟩;have Ah:Hid (q1x none w1 a1 (f bs)):=c none (fun k h=>by cases h) z.o;have Aa:Hid (Below w w w1):=M;have t:=M.size;clear c M;go_wp2_with fail;refine(q6i w.heap.size (.slice none 0 0) [] (f bs) 0 a1 k1 w1 (q7q.nil _ _ _) Ah.o t (by have:=K.o;simp;omega) (fun x h=>by have:=Ae.o x h;omega)).mono ?_;rintro e v⟨v2,rfl,D,I,d⟩;rw[List.nil_append]at D;have E:((f bs).map (0::·)).length<=301:=by rw[List.length_map];exact K.o
 generalize o:(f bs).map (0::·)=l1 at D E;have Ad:Hid ((f bs).map (0::·)=l1):=o;have Z:Hid (l1.length<=301):=E;clear o E;have B:Hid (Below w w v):=Aa.o.trans (q5e I t (fun k h=>by cases h));have Al:=B.o.size;obtain⟨Q,R,rfl,_,_,_,P⟩:=D.o;have E:l1.length<=301:=Z.o;generalize Ak:l1.length=n1 at D P E;have Af:Hid (q7q w.heap.size (.slice Q n1 R) l1 none v):=D;have L:Hid (∀k,(Value.slice Q n1 R).ownBlock=some k->w.heap.size<=k/\k<v.heap.size):=P;clear D I d P Ak;go_wp2_with fail;rw[<-HX.o];refine(q4w ds _ cap hl (ds.length+1) (i+1) v (HN.o.W B.o) (by omega) (by omega)).mono ?_;rintro e w4⟨rfl,rfl⟩;rw[HE.o];have hz:v6y (some (i+1+A.length))=((i+1+A.length:Nat):Int):=rfl;rw[hz];generalize hj:i+1+A.length=j at V⊢;clear hz hj;go_wp2_with fail;refine(HC.o j r bs ba bc m v V.o (HN.o.W B.o) (z.o.W B.o) l H b.o (by omega)).mono ?_;rintro e w3⟨a3,k3,rfl,h3,c,N⟩;have Ai:Hid (q1x (Value.slice Q n1 R).ownBlock w3 a3 (g bs)):=c (Value.slice Q n1 R).ownBlock (fun k h=>(L.o k h).2) (z.o.apart B.o fun k h=>(L.o k h).1);have Ag:Hid (q7q w.heap.size (.slice Q n1 R) l1 none w3):=Af.o.W N;have S:Hid (Below w w w3):=B.o.trans (N.mono Al);have u:=S.o.size;clear c N;go_wp2_with fail;refine(q6i w.heap.size (.slice Q n1 R) l1 (g bs) 1 a3 k3 w3 Ag.o Ai.o u (by have:=K.o;have:=Ab.o;have:=Z.o;omega) (fun x h=>by have:=Ac.o x h;omega)).mono ?_;rintro e w5⟨v5,rfl,O,J,_⟩;generalize p:l1++(g bs).map (1::·)=l5 at O;have Y:Hid (q7q w.heap.size v5 l5 none w5):=O;have X:Hid (F bs=l5.take 301):=(show _=_ by rw[HF.o,Ad.o,p]);clear p;have U:Hid (Below w w w5):=S.o.trans (q5e J u (fun k h=>(L.o k h).1));clear O J;obtain⟨a5,k5,rfl,h5,h6,h7,_⟩:=Y.o.o;have H7:Hid (∀g:Option Nat,(∀k,g=some k->k<w.heap.size)->q1x g w5 a5 l5):=h7;generalize s:l5.length=n5 at h5 h6;have G:Hid (l5.length=n5):=s;clear h7 s Y;by_cases hcut:301<n5
 ·obtain⟨q5,rfl⟩:∃q5,a5=some ⟨q5,0,none⟩:=h6.resolve_left (by omega);have Aj:(301:Int)<(n5:Int):=by omega
  clear h6;go_wp2;go_ret;rw[X.o];refine⟨some ⟨q5,0,none⟩,k5,?_,?_,fun q hq _=>(H7.o q hq).take 301,U.o⟩
  ·have e:(l5.take 301).length=301:=by rw[List.length_take,G.o];omega
   rw[e];rfl
  ·rw[List.length_take,G.o];omega
 ·have Aj:¬(301:Int)<(n5:Int):=by omega
  clear h6;go_wp2;go_ret;rw[X.o];refine⟨a5,k5,?_,?_,fun q hq _=>(H7.o q hq).take 301,U.o⟩
  ·have e:(l5.take 301).length=n5:=by rw[List.length_take,G.o];omega
   rw[e];rfl
  ·rw[List.length_take,G.o];omega
theorem j9s(t:Tr):y2s t.N t.tl:=⟨k7x t,j9t t⟩
theorem z0v(ds:List Nd)(a:Option Addr)(cap:Nat)(hl:ds.length<=400):∀t:Tr,t.Wf->t.N.length<=400->z7p ds a cap t.N t.tl
 | .leaf ⟨op,tx,n⟩,h,hn=>j1a ds a cap op (q3y h.1 h.2) tx n
 | .one ⟨op,tx,n⟩ a',h,hn=>by
  have hn':a'.N.length<=400:=by simp[Tr.N]at hn;omega
  have D:=z0v ds a cap hl a' h.2.2 hn';rcases q8d h.2.1 with e|e
  all_goals (simp only at e;subst e)
  ·exact y1y ds a cap hl tx n _ _ D
  ·have A:=q3w ds a cap hl a' h.2.2 hn'
   have J:Tr.tl (.one ⟨8,tx,n⟩ a')=fun bs=>((if a'.isFlat=true then bs.map (0::·)else [])++(a'.tl bs).map (1::·)).take 301:=by
    funext bs
    simp[Tr.tl]
   rw[J];cases E:a'.isFlat with
   | true=>rw[E]at A;exact v5n ds a cap hl tx n _ _ _ D (j9s a') A _ (show ∀_,_ from fun bs=>by simp)
   | false=>rw[E]at A;exact v5m ds a cap hl tx n _ _ _ D (j9s a') A _ (show ∀_,_ from fun bs=>by simp)
 | .two ⟨op,tx,n⟩ a' c,h,hn=>by
  have B:a'.N.length<=400:=by simp[Tr.N]at hn;omega
  have C:c.N.length<=400:=by simp[Tr.N]at hn;omega
  have G:=z0v ds a cap hl a' h.2.2.1 B;have H:=z0v ds a cap hl c h.2.2.2 C;rcases q7p h.2.1 with e|e
  all_goals (simp only at e;subst e)
  ·have I:Tr.tl (.two ⟨6,tx,n⟩ a' c)=fun bs=>a'.tl (c.tl bs):=by
    funext bs
    simp[Tr.tl]
   rw[I];exact y1x ds a cap hl tx n _ _ _ _ G H (j9s c) fun i r hd=>q4t h.2.2.1 hd
  ·exact y1z ds a cap hl tx n _ _ _ _ G (j9s a') H (j9s c) (fun i r hd=>q4t h.2.2.1 hd) _ (show ∀_,_ from fun bs=>by simp[Tr.tl])
theorem k2o(a:Addr)(n cap:Nat)(op:Int)(w:World)(hn:0<n){b o:Nat}(ha:a=⟨b,o,none⟩)(hc:w.cell? ⟨b,o,none⟩=some (.int .i64 op)):Calls prog 82 #[.slice (some a) n cap] w fun e w'=>e=.returned (.bool (op==9))/\w=w':=by
 subst ha;have A:(0:Int)<(n:Int):=by omega
 go_in;go_wp2;go_ret;exact⟨rfl,rfl⟩
theorem j9m(ps:List (List Td))(a:Option Addr)(cap:Nat)(w:World)(_hc:ps.length<=cap)(hP:Prg w a ps)(Ae:∀t∈ps,k8g t):Calls prog 42 #[.slice a ps.length cap] w fun e w'=>e=.returned (.tuple #[.int .i64 ((q0r ps).1:Int),q1v (q0r ps).2])/\Below w w w':=by
 have HP:Hid (Prg w a ps):=hP;have Ah:Hid (∀t∈ps,k8g t):=Ae;clear hP Ae;by_cases An:20<(ps.length:Int)
 ·have m:Hid (q0r ps=(0,3)):=by show q0r ps=_;rw[q0r,if_pos (by omega)]
  go_in;go_wp2;go_ret2;exact⟨by rw[m.o];rfl,Below.refl _ _⟩
 have HF:Hid (q0r ps=q3z 0 0 ps):=by show q0r ps=_;rw[q0r,if_neg (by omega)]
 go_in;go_wp2
 go_loopw [13] (fun i wr=>Below w w wr/\∃k:Nat,k<=ps.length/\i=.int .i64 k/\q0r ps=q3z (q2v ps k) k (ps.drop k)/\∀j(h:j<ps.length),j<k->q0b ps[j]=0) (fun i _=>ps.length-(intOf i).toNat)
 case atStart=>exact⟨Below.refl _ _,0,Nat.zero_le _,rfl,HF.o,fun j _ h=>by omega⟩
 case round=>
  obtain⟨Ab,k,hk,rfl,hF,f⟩:=hrel;have K:Hid (Below w w wr):=Ab;have HG:Hid (q0r ps=q3z (q2v ps k) k (ps.drop k)):=hF;have HA:Hid (∀j(h:j<ps.length),j<k->q0b ps[j]=0):=f;clear Ab hF f;by_cases S:k<ps.length
  ·obtain⟨b,o,a',u,ea,hb,d,c2,hT⟩:=(HP.o.W K.o) k S;subst ea;have Ac:(k:Int)<(ps.length:Int):=by omega
   have c:Calls prog 29 #[.slice a' ps[k].length u] wr fun e w'=>e=.returned (q1v (q0b ps[k]))/\Below wr wr w':=q7h ps[k] a' u wr c2 hT (Ah.o _ (List.getElem_mem S))
   have V:Hid (q0b ps[k]=0->∀j(h:j<ps.length),j<k+1->q0b ps[j]=0):=fun h0 j h hj=>by
    by_cases Ai:j=k
    ·subst Ai;exact h0
    ·exact HA.o j h (by omega)
   have L:Hid (q0b ps[k]=0->0<ps[k].length/\∃U Y,a'=some ⟨U,Y,none⟩/\U<wr.heap.size/\wr.cell? ⟨U,Y,none⟩=some (.int .i64 (opT ps[k]))):=fun h0=>by
    have A:=z0z h0;obtain⟨U,Y,e1,p,d1,_,_⟩:=hT 0 A;exact⟨A,U,Y,e1,p,by rw[z4o A];simpa using d1⟩
   have J:Hid (q0b ps[k]≠0->q0r ps=(k,q0b ps[k])):=fun h=>HG.o.trans (k2f S h)
   have D:Hid (q0b ps[k]=0->opT ps[k]=9/\q2v ps k=9->q0r ps=(k,2)):=fun h h2=>HG.o.trans (k2g S h h2)
   have C:Hid (q0b ps[k]=0->¬(opT ps[k]=9/\q2v ps k=9)->q0r ps=q3z (q2v ps (k+1)) (k+1) (ps.drop (k+1))):=fun h h2=>HG.o.trans (z6v S h h2)
   have O:Hid (∀j,k=j+1->∃a1 v Q,wr.cell? ⟨b,o+j,none⟩=some (.slice a1 v Q)/\0<v/\∃H Z,a1=some ⟨H,Z,none⟩/\H<wr.heap.size/\wr.cell? ⟨H,Z,none⟩=some (.int .i64 (q2v ps k))):=fun j hj=>by
    have r:j<ps.length:=by omega
    obtain⟨bj,oj,aj,cj,ej,_,q1,_,qT⟩:=(HP.o.W K.o) j r;simp only[Option.some.injEq,Addr.mk.injEq,and_true]at ej;obtain⟨rfl,rfl⟩:=ej;have A:=z0z (HA.o j r (by omega));obtain⟨H,Z,e2,q,d2,_,_⟩:=qT 0 A;refine⟨aj,ps[j].length,cj,q1,A,H,Z,e2,q,?_⟩;rw[hj,z2e r,z4o A];simpa using d2
   have P:Hid (Calls prog 29 #[.slice a' ps[k].length u] wr fun e w'=>e=.returned (q1v (q0b ps[k]))/\Below wr wr w'):=c;clear hT c c2;generalize ps[k].length=nl at d P L;generalize opT ps[k]=op0 at L D C;generalize q0b ps[k]=E at P V L J D C;by_cases he:E=0
   ·subst he;obtain⟨Al,U,Y,rfl,p,d1⟩:=L.o rfl;have g:=hid (V.o rfl);have M:Hid (op0=9/\q2v ps k=9->q0r ps=(k,2)):=D.o rfl;have B:Hid (¬(op0=9/\q2v ps k=9)->q0r ps=q3z (q2v ps (k+1)) (k+1) (ps.drop (k+1))):=C.o rfl;clear D C;have Am:(0:Int)<(nl:Int):=by omega
    have l:=hid d;have Af:=hid d1;clear L J V d d1;by_cases s:k=0
    ·have z:Hid (q0r ps=q3z (q2v ps (k+1)) (k+1) (ps.drop (k+1))):=B.o (by simp[q2v,s]);have Aj:¬(0:Int)<(k:Int):=by omega
     have d:=l.o;clear M B s;go_wp2_with fail;refine P.o.mono ?_;rintro e N⟨rfl,H⟩;rw[q1l];have I:Hid (Below w w N):=q0d K.o Zl H;clear H d;go_wp2
     go_roundw
     case rel=>exact⟨I.o,k+1,by omega,by go_num,z.o,g.o⟩
     case measure=>simp[intOf];omega
    ·obtain⟨j,rfl⟩:∃j,k=j+1:=⟨k-1,by omega⟩;obtain⟨a1,v,Q,q1,Ak,H,Z,rfl,q,d2⟩:=O.o j rfl;have R:((j+1:Nat):Int)=(j:Int)+1:=by omega
     have Aj:(0:Int)<(j:Int)+1:=by omega
     have Ao:(j:Int)<(ps.length:Int):=by omega
     have Ap:(j:Int)+1<(ps.length:Int):=by omega
     have x:Hid (∀W:World,Below wr wr W->W.cell? ⟨b,o+(j+1),none⟩=some (.slice (some ⟨U,Y,none⟩) nl u)/\W.cell? ⟨U,Y,none⟩=some (.int .i64 op0)/\W.cell? ⟨b,o+j,none⟩=some (.slice (some ⟨H,Z,none⟩) v Q)/\W.cell? ⟨H,Z,none⟩=some (.int .i64 (q2v ps (j+1)))):=fun W hW=>
      ⟨((q1y hW).1 _ _ hb).trans l.o,((q1y hW).1 _ _ p).trans Af.o,((q1y hW).1 _ _ hb).trans q1,((q1y hW).1 _ _ q).trans d2⟩
     have d:=l.o;generalize q2v ps (j+1)=pv at M B x;rw[R]at Ac⊢;clear q1 d2 O R s;go_wp2_with fail;refine P.o.mono ?_;rintro e N⟨rfl,n⟩;rw[q1l];have I:Hid (Below w w N):=q0d K.o Zl n;obtain⟨k1,k2,k3,k4⟩:=x.o N n;clear n d;have Ag:Hid (Calls prog 82 #[.slice (some ⟨U,Y,none⟩) nl u] N fun e w'=>e=.returned (.bool (op0==9))/\N=w'):=k2o ⟨U,Y,none⟩ nl u op0 N Al rfl k2;have Aa:Hid (Calls prog 82 #[.slice (some ⟨H,Z,none⟩) v Q] N fun e w'=>e=.returned (.bool (pv==9))/\N=w'):=k2o ⟨H,Z,none⟩ v Q pv N Ak rfl k4;clear k2 k4;go_wp2_with fail;refine Ag.o.mono ?_;rintro e w3⟨rfl,rfl⟩;by_cases h9:op0=9
     ·subst h9;have G:((9:Int)==9)=true:=rfl;rw[G];clear G;go_wp2_with fail;refine Aa.o.mono ?_;rintro e w3⟨rfl,rfl⟩;by_cases X:pv=9
      ·subst X;have m:Hid (q0r ps=(j+1,2)):=M.o (by simp);have G:((9:Int)==9)=true:=rfl;rw[G];clear M B G;go_wp2;go_ret2;exact⟨by rw[m.o];rfl,I.o⟩
      ·have z:Hid (q0r ps=q3z (q2v ps (j+1+1)) (j+1+1) (ps.drop (j+1+1))):=B.o (fun h=>X h.2);have Ad:(pv==9)=false:=by simp[X]
       rw[Ad];clear M B X Ad;go_wp2
       go_roundw
       case rel=>exact⟨I.o,j+1+1,by omega,by go_num,z.o,g.o⟩
       case measure=>simp[intOf];omega
     ·have z:Hid (q0r ps=q3z (q2v ps (j+1+1)) (j+1+1) (ps.drop (j+1+1))):=B.o (fun h=>h9 h.1);have G:(op0==9)=false:=by simp[h9]
      rw[G];clear M B h9 G;go_wp2
      go_roundw
      case rel=>exact⟨I.o,j+1+1,by omega,by go_num,z.o,g.o⟩
      case measure=>simp[intOf];omega
   ·have m:Hid (q0r ps=(k,E)):=J.o he;have y:Hid (q1v E=.iface 23 (.int .i64 E)):=q0t he;clear L J V D C he;go_wp2_with fail;refine P.o.mono ?_;rintro e N⟨rfl,H⟩;rw[y.o];have I:Hid (Below w w N):=q0d K.o Zl H;clear H d;go_wp2;go_ret2;exact⟨by rw[m.o,y.o];rfl,I.o⟩
  ·have m:Hid (q0r ps=(0,0)):=by
    show q0r ps=_;rw[HG.o,List.drop_eq_nil_of_le (by omega)];rfl
   have Ac:¬(k:Int)<(ps.length:Int):=by omega
   go_wp2;go_ret2;exact⟨by rw[m.o];rfl,K.o⟩
end Go.Proofs.YtfdppahhbpfnoaaGreatDoor
