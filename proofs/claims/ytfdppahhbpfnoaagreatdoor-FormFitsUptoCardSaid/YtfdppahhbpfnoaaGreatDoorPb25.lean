import Derived.Test.YtfdppahhbpfnoaaGreatDoorPb19
import Derived.Test.YtfdppahhbpfnoaaGreatDoorPb23
open Go.Proofs.Tryz
namespace Go.Proofs.YtfdppahhbpfnoaaGreatDoor
open Go Go.RowKit
set_option maxRecDepth 100000
set_option maxHeartbeats 4000000
def k6z(ds:List Td):Prop:=∀x∈ds,x.tx.size<=140737488351232
theorem v9u.nine{ds:List Td}(h:v9u ds):k6z ds:=fun x hx=>Nat.le_trans (h x hx) (by decide)
theorem j9w(x:Td)(w:World):Calls prog 154 #[tdV x] w fun e w'=>e=.returned (.int .i64 (kdZ x))/\Below w w w':=by
 obtain⟨A,J,n⟩:=x;have B:∀O:Obj,Below w w (w.alloc O):=fun O=>(Below.refl _ w).alloc Zl O
 by_cases C:A=3
 ·subst C;go_in;go_wp2;go_ret;exact⟨by simp[kdZ],B _⟩
 by_cases D:A=4
 ·subst D;go_in;go_wp2;go_ret;exact⟨by simp[kdZ],B _⟩
 by_cases E:A=5
 ·subst E;go_in;go_wp2;go_ret;exact⟨by simp[kdZ,kdT],B _⟩
 by_cases G:A=6
 ·subst G;go_in;go_wp2;go_ret;exact⟨by simp[kdZ,kdT],B _⟩
 by_cases H:A=7
 ·subst H;go_in;go_wp2;go_ret;exact⟨by simp[kdZ,kdT],B _⟩
 by_cases I:A=8
 ·subst I;go_in;go_wp2;go_ret;exact⟨by simp[kdZ,kdT],B _⟩
 have K:Hid (kdZ ⟨A,J,n⟩=0):=by show kdZ ⟨A,J,n⟩=0;simp[kdZ,kdT,C,D,E,G,H,I]
 have L:(A==3)=false:=by simp[C]
 have M:(A==4)=false:=by simp[D]
 have N:(A==5)=false:=by simp[E]
 have P:(A==6)=false:=by simp[G]
 have Q:(A==7)=false:=by simp[H]
 have R:(A==8)=false:=by simp[I]
 clear C D E G H I;go_in;go_wp2;go_ret;exact⟨by rw[K.o];rfl,B _⟩
theorem v6a(x:Td)(h:q0m x=0)(w:World):Calls prog 154 #[.agg #[.int .i64 x.op,.string x.tx,.int .i64 x.n]] w fun e w'=>e=.returned (.int .i64 (kdT x:Int))/\Below w w w':=by
 have:=j9w x w
 rw[v7z h]at this;exact this
def v9s(o:Option Nat)(j:Nat)(b:Bool):Prop:=o=if b=true then some j else none
def v6z(ds:List Td)(i:Nat)(e:Ending):Prop:=∃(j:Nat)(b:Bool),e=.returned (.tuple #[.int .i64 (j:Int),.bool b])/\v9s (q3d ds i 1) j b
theorem v9s.yes{o:Option Nat}{j:Nat}(h:o=some j):v9s o j true:=h
theorem v9s.no{o:Option Nat}{j:Nat}(h:o=none):v9s o j false:=h
theorem j1u(ds:List Td)(a:Option Addr)(cap:Nat)(hl:ds.length<=40)(hk:∀x∈ds,q0m x=0)(i:Nat)(hi:i<=ds.length)(w:World)(hN:Tds w a ds):
  Calls prog 102 #[.slice a ds.length cap,.int .i64 i] w fun e w'=>v6z ds i e/\Below w w w':=by
 have V:Hid (Tds w a ds):=hN;have N:Hid (∀x∈ds,q0m x=0):=hk;clear hN hk;go_in;go_wp2
 go_loopw [1,6] (fun z m wr=>Below w w wr/\∃k q:Nat,k<=ds.length/\q<=1+6*k/\z=.int .i64 (k:Int)/\m=.int .i64 (q:Int)/\q3d ds i 1=q3d ds k q) (fun z _ _=>ds.length-(intOf z).toNat)
 case atStart=>exact⟨Below.refl _ _,i,1,hi,by omega,rfl,rfl,rfl⟩
 case round=>
  obtain⟨E,k,q,Y,g,rfl,rfl,U⟩:=hrel;have H:Hid (q3d ds i 1=q3d ds k q):=U;have A:Hid (Below w w wr):=E;clear U E;by_cases J:q=0
  ·subst J
   have I:Hid (q3d ds i 1=some k):=by
    show _=_;rw[H.o,k1d]
   go_wp2;go_ret2;exact⟨⟨k,true,rfl,v9s.yes I.o⟩,A.o⟩
  ·obtain⟨p,rfl⟩:∃p,q=p+1:=⟨q-1,by omega⟩;have C:((p+1:Nat):Int)=(p:Int)+1:=by omega
   have Z:(0:Int)<(p:Int)+1:=by omega
   have M:((p:Int)+1==0)=false:=beq_false_of_ne (by omega);by_cases B:k<ds.length
   ·have L:(k:Int)<(ds.length:Int):=by omega
    obtain⟨b,o,X,f,Q,R,S⟩:=(V.o.W A.o) k B;subst X;have K:=v7y (N.o _ (List.getElem_mem B));have D:Hid (∀W:World,Calls prog 154 #[.agg #[.int .i64 ds[k].op,.string ds[k].tx,.int .i64 ds[k].n]] W fun e w'=>e=.returned (.int .i64 (kdT ds[k]:Int))/\Below W W w'):=fun W=>v6a _ (N.o _ (List.getElem_mem B)) W
    have O:Hid (q3d ds i 1=q3d ds (k+1) (kdT ds[k]+p)):=by
     show _=_;rw[H.o,z3p ds k p B]
    generalize kdT ds[k]=d at K D O;generalize ds[k].op=xo at Q D;generalize ds[k].tx=xt at R D;generalize ds[k].n=xn at S D;rw[C];clear J M C;go_wp2_with fail;refine(D.o _).mono ?_;rintro e c⟨rfl,P⟩;have G:Hid (Below w w c):=q0d A.o Zl P;clear P Q R S;go_wp2
    go_roundw
    case rel=>exact⟨G.o,k+1,d+p,by omega,by omega,by go_num,by go_num,O.o⟩
    case measure=>simp[intOf];omega
   ·have L:¬(k:Int)<(ds.length:Int):=by omega
    have I:Hid (q3d ds i 1=none):=by
     show _=_;rw[H.o,q8c ds k p (by omega)]
    rw[C];clear J C;go_wp2;go_ret2;exact⟨⟨k,false,rfl,v9s.no I.o⟩,A.o⟩
theorem v6e{w:World}{a:Option Addr}{c:Nat}{x:Td}{r:List Td}(h:Tds w a (x::r))(hc:r.length+1<=c):
  ∃A,(∀W:World,(Instr.slice 22 (.slice a (r.length+1) c) (some (.int .i64 1)) none none).run prog W=.ok (.slice A r.length (c-1)) W)/\Tds w A r:=by
 obtain⟨b,o,rfl,J,_,_,_⟩:=h 0 (by simp);refine⟨if c=1 then some ⟨b,o,none⟩else some ⟨b,o+3,none⟩,fun W=>?_,?_⟩
 ·have H:=run_slice_l (P:=prog) W 22 (some ⟨b,o,none⟩) (r.length+1) c Tryz.underlying22 .i64 1 (by omega) (by omega);rw[H];have L:(sizeOf (prog.elem 22)).run prog W=.ok 3 W:=by kernel_rfl
  rw[L];have I:(⟨b,o,none⟩:Addr).add 3=⟨b,o+3,none⟩:=rfl;simp[Result.andThen,sliced,I]
 ·by_cases e:c=1
  ·have:r=[]:=List.eq_nil_of_length_eq_zero (by omega)
   subst this;exact fun i E=>by simp at E
  ·rw[if_neg e];intro i E;obtain⟨M,N,G,K,B,C,D⟩:=h (i+1) (by simp;omega);cases G;rw[show o+(i+1)*3=o+3+i*3 by omega]at B C D;exact⟨b,o+3,rfl,J,B,C,D⟩
theorem y7h{x:Td}(h:q0m x=0):1<=x.op/\x.op<=9:=by
 unfold q0m at h
 split at h
 ·cases h
 ·omega
def q7e(ds:List Td):Bool:=decide (q3d ds 0 1=some ds.length)&&k6q ds
theorem j9q:q7e []=false:=by
 have:q3d [] 0 1=none:=q8c _ _ _ Zl
 simp[q7e,this]
theorem j1w{ds:List Td}(hl:ds.length<=40)(ha:∀x∈ds,q0m x=0):q0b ds=if q7e ds=true then 0 else 2:=by
 rw[z0p hl ha];simp only[q7e,Bool.and_eq_true,decide_eq_true_eq]
theorem j9x(ds:List Td)(a:Option Addr)(cap:Nat)(hl:ds.length<=40)(hk:∀x∈ds,q0m x=0)(w:World)(hc:ds.length<=cap)(hN:Tds w a ds):
  Calls prog 67 #[.slice a ds.length cap] w fun e w'=>e=.returned (.bool (q7e ds))/\Below w w w':=by
 cases ds with
 | nil=>
  rw[j9q];clear hk hN hl hc;go_in;go_wp2;go_ret;exact⟨rfl,Below.refl _ _⟩
 | cons x r=>
  have l:Hid (Tds w a (x::r)):=hN;have h:Hid (∀y∈x::r,q0m y=0):=hk;obtain⟨b,o,ea,hb,m,_,_⟩:=hN 0 (by simp);have hx:=y7h (hk x (by simp));have R:(x::r).length=r.length+1:=rfl;rw[R]at hl hc⊢;have hp:¬(r.length:Int)+1=0:=by omega
  have Ad:((r.length:Int)+1==0)=false:=beq_false_of_ne hp;have Ac:(0:Int)<(r.length:Int)+1:=by omega
  have Q:w.cell? ⟨b,o,none⟩=some (.int .i64 x.op):=by simpa using m
  clear m hN;subst ea;by_cases h7:7<=x.op
  ·have M:Hid (exB x.op=false):=by show exB x.op=false;simp[exB];omega
   obtain⟨A,f,t⟩:=v6e l.o hc;have u:Hid (Tds w A r):=t;clear t;generalize Ae:x.op=xo at Q M;go_in;go_wp2_with fail;refine(z0n xo _).mono ?_;rintro e V⟨rfl,rfl⟩;rw[M.o];go_wp2_with fail
   go_loopw [20] (fun i wr=>Below w w wr/\∃k:Nat,k<=r.length/\i=.int .i64 (k:Int)/\∀y∈r.take k,y.op<7) (fun i _=>r.length-(intOf i).toNat)
   case atStart=>exact⟨Below.refl _ _,0,Nat.zero_le _,rfl,by simp⟩
   case round=>
    obtain⟨E,k,Ab,rfl,H⟩:=hrel;have I:Hid (Below w w wr):=E;have K:Hid (∀O:Obj,Below w w (wr.alloc O)):=fun O=>E.alloc E.size O
    clear E;have g:Hid (∀y∈r.take k,y.op<7):=H;clear H f;by_cases J:k<r.length
    ·have d:(k:Int)<(r.length:Int):=by omega
     obtain⟨b1,o1,z,Aa,p,q,s⟩:=(u.o.W I.o) k J;subst z;have U:=y7h (h.o r[k] (by simp));by_cases G:r[k].op<7
     ·have N:Hid (exB r[k].op=true):=by show exB r[k].op=true;simp[exB];omega
      have X:Hid (∀y∈r.take (k+1),y.op<7):=by
       intro y B;rw[List.take_succ_eq_append_getElem J]at B;rcases List.mem_append.1 B with B|B
       ·exact g.o y B
       ·simp at B;subst B;exact G
      clear G U;generalize r[k].op=yo at p N;generalize r[k].tx=yt at q;generalize r[k].n=yn at s;go_wp2_with fail;refine(z0n yo _).mono ?_;rintro e V⟨rfl,rfl⟩;rw[N.o];go_wp2
      go_roundw
      case rel=>exact⟨K.o _,k+1,by omega,by go_num,X.o⟩
      case measure=>simp[intOf];omega
     ·have N:Hid (exB r[k].op=false):=by show exB r[k].op=false;simp[exB];omega
      have D:Hid (q7e (x::r)=false):=by
       show _=_
       have:k6q (x::r)=false:=by
        simp only[k6q,Bool.and_eq_false_iff,List.all_eq_false];exact .inr ⟨r[k],List.getElem_mem J,by simp[G]⟩
       simp[q7e,this]
      clear G U;generalize r[k].op=yo at p N;generalize r[k].tx=yt at q;generalize r[k].n=yn at s;go_wp2_with fail;refine(z0n yo _).mono ?_;rintro e V⟨rfl,rfl⟩;rw[N.o];go_wp2;go_ret;exact⟨by rw[D.o];rfl,K.o _⟩
    ·have d:¬(k:Int)<(r.length:Int):=by omega
     have L:Hid (k6q (x::r)=true):=by
      show _=_;simp only[k6q,Bool.and_eq_true,decide_eq_true_eq,List.all_eq_true];refine⟨by omega,fun y U=>g.o y ?_⟩;rw[List.take_of_length_le (by omega)];exact U
     have Y:Hid (Calls prog 102 #[.slice (some ⟨b,o,none⟩) (r.length+1) cap,.int .i64 0] wr fun e w'=>v6z (x::r) 0 e/\Below wr wr w'):=j1u (x::r) _ cap hl h.o 0 (Nat.zero_le _) wr (l.o.W I.o);go_wp2_with fail;refine Y.o.mono ?_;rintro e V⟨⟨j,v,rfl,C⟩,P⟩;have Z:=q0d I.o Zl P;clear P;cases v with
     | false=>
      have C:q3d (x::r) 0 1=none:=C
      have D:Hid (q7e (x::r)=false):=by
       show _=_;simp[q7e,C]
      clear C;go_wp2;go_ret;exact⟨by rw[D.o];rfl,Z⟩
     | true=>
      have C:q3d (x::r) 0 1=some j:=C;by_cases S:(j:Int)=(r.length:Int)+1
      ·have D:Hid (q7e (x::r)=true):=by
        show _=_
        have:j=r.length+1:=by omega
        simp[q7e,C,this,L.o]
       have c:((j:Int)==(r.length:Int)+1)=true:=beq_iff_eq.2 S;clear C S;go_wp2;go_ret;exact⟨by rw[D.o];rfl,Z⟩
      ·have D:Hid (q7e (x::r)=false):=by
        show _=_
        have:¬j=r.length+1:=by omega
        simp[q7e,C,this]
       have c:((j:Int)==(r.length:Int)+1)=false:=beq_false_of_ne S;clear C S;go_wp2;go_ret;exact⟨by rw[D.o];rfl,Z⟩
  ·have M:Hid (exB x.op=true):=by show exB x.op=true;simp[exB];omega
   have D:Hid (q7e (x::r)=false):=by
    show _=_
    have:k6q (x::r)=false:=by simp[k6q,h7]
    simp[q7e,this]
   generalize x.op=xo at Q M;go_in;go_wp2_with fail;refine(z0n xo _).mono ?_;rintro e V⟨rfl,rfl⟩;rw[M.o];go_wp2;go_ret;exact⟨by rw[D.o];rfl,Below.refl _ _⟩
theorem q6q(ds:List Td)(a:Option Addr)(cap:Nat)(w:World)(hc:ds.length<=cap)(hN:Tds w a ds)(G:k6z ds):Calls prog 29 #[.slice a ds.length cap] w fun e w'=>e=.returned (q1m (q0b ds))/\Below w w w':=by
 have V:Hid (Tds w a ds):=hN;have M:Hid (k6z ds):=G;clear hN G;by_cases d:40<(ds.length:Int)
 ·rw[z6y (by omega),k7r];go_in;go_wp2;go_ret;exact⟨rfl,Below.refl _ _⟩
 ·have N:ds.length<=40:=by omega
  go_in;go_wp2
  go_loopw [12] (fun i wr=>Below w w wr/\∃k:Nat,k<=ds.length/\i=.int .i64 k/\∀x∈ds.take k,q0m x=0) (fun i _=>ds.length-(intOf i).toNat)
  case atStart=>exact⟨Below.refl _ _,0,Nat.zero_le _,rfl,by simp⟩
  case round=>
   obtain⟨J,k,g,rfl,C⟩:=hrel;have K:Hid (∀x∈ds.take k,q0m x=0):=C;have Q:Hid (Tds wr a ds):=V.o.W J;clear C;by_cases B:k<ds.length
   ·obtain⟨b,o,X,f,Y,Z,c⟩:=Q.o k B;have H:=M.o _ (List.getElem_mem B);subst X;by_cases I:q0m ds[k]=0
    ·have E:Hid (q0m ds[k]=0):=I;clear I;go_wp2_with fail;refine(k3h ds[k] _ H).mono ?_;rintro e U⟨rfl,A⟩;rw[E.o,q0n];have D:=k0t J Zl A;clear A;go_wp2
     go_roundw
     case rel=>exact⟨D,k+1,by omega,by go_num,z6w B K.o E.o⟩
     case measure=>simp[intOf];omega
    ·have E:Hid (q0m ds[k]≠0):=I;clear I;go_wp2_with fail;refine(k3h ds[k] _ H).mono ?_;rintro e U⟨rfl,A⟩;rw[q0k E.o];have D:=k0t J Zl A;clear A;go_wp2;go_ret;refine⟨?_,D⟩;rw[z6z N B K.o E.o,q0k E.o];rfl
   ·have P:Hid (∀x∈ds,q0m x=0):=by
     have:=K.o
     rw[List.take_of_length_le (by omega)]at this;exact this
    have L:Hid (q0b ds=if q7e ds=true then 0 else 2):=j1w N P.o;have R:Hid (Calls prog 67 #[.slice a ds.length cap] wr fun e w'=>e=.returned (.bool (q7e ds))/\Below wr wr w'):=j9x ds a cap N P.o wr hc Q.o;generalize q7e ds=sb at L R;go_wp2_with fail;refine R.o.mono ?_;rintro e U⟨rfl,S⟩;have O:=q0d J Zl S;clear S;cases sb with
    | true=>
     go_wp2;go_ret;exact⟨by rw[L.o];rfl,O⟩
    | false=>
     go_wp2;go_ret;exact⟨by rw[L.o];rfl,O⟩
def Txt(D:Tr)(r:List UInt8):Prop:=D.flat=some r\/∃deep cs cs',D.lay deep cs=.ok (r,cs')
def LxD(D:Tr)(ws:List Wd):Prop:=∀r,Txt D r->Lx r ws
def y8u(D:Tr):Prop:=∀r,Txt D r->∀a,r.getLast?=some a->q6n a=true
def v9p(D:Tr):Prop:=∀r,Txt D r->∀a,r.head?=some a->q6n a=true
theorem z7d{s r:List UInt8}(h:Txt (wdD s) r):r=s:=by
 rcases h with h|⟨A,C,B,h⟩
 ·cases h;rfl
 ·cases h;rfl
theorem q8l{D:Tr}{r:List UInt8}{op:Int}(hD:D=.leaf ⟨op,⟨#[]⟩,0⟩)(B:op=2\/op=3)(h:Txt D r):∀c∈r,c=32\/c=10:=by
 subst hD;rcases h with h|⟨A,G,E,h⟩
 ·rcases B with rfl|rfl
  ·cases h;simp
  ·cases h;simp
 ·have:r=10::List.replicate A 32:=by
   rcases B with rfl|rfl<;>(cases h;rfl)
  subst this;intro c C;rcases List.mem_cons.1 C with rfl|C
  ·exact .inr rfl
  ·exact .inl (List.eq_of_mem_replicate C)
theorem z7c{a b:Tr}{r:List UInt8}(h:Txt (twD a b) r):∃ra rb,Txt a ra/\Txt b rb/\r=ra++rb:=by
 rcases h with h|⟨A,H,I,h⟩
 ·simp only[Tr.flat,if_true]at h;cases B:a.flat with
  | none=>rw[B]at h;cases h
  | some s=>
   cases C:b.flat with
   | none=>rw[B,C]at h;cases h
   | some t=>
    rw[B,C]at h;cases h;exact⟨s,t,.inl B,.inl C,rfl⟩
 ·simp only[Tr.lay,if_true]at h;cases D:a.lay A H with
  | error e=>rw[D]at h;cases h
  | ok p=>
   obtain⟨J,G⟩:=p;rw[D]at h;simp only at h;cases E:b.lay A G with
   | error e=>rw[E]at h;cases h
   | ok p2=>
    obtain⟨K,L⟩:=p2;rw[E]at h;cases h;exact⟨J,K,.inr ⟨_,_,_,D⟩,.inr ⟨_,_,_,E⟩,rfl⟩
theorem k9l{a:Tr}{r:List UInt8}(h:Txt (dpD a) r):Txt a r:=by
 rcases h with h|⟨B,C,A,h⟩
 ·exact .inl h
 ·exact .inr ⟨_,C,A,h⟩
theorem k9m{a:Tr}{r:List UInt8}(h:Txt (grD a) r):Txt a r:=by
 rcases h with h|⟨C,B,D,h⟩
 ·exact .inl h
 ·simp only[Tr.lay]at h;rw[if_neg (by decide)]at h;cases B with
  | nil=>cases h
  | cons c B=>
   simp only at h
   split at h
   ·exact .inr ⟨_,_,_,h⟩
   ·cases A:a.flat with
    | none=>rw[A]at h;cases h
    | some s=>rw[A]at h;cases h;exact .inl A
theorem j6p:∀r:List UInt8,(∀c∈r,c=32\/c=10)->Lx r []
 | [],_=>Lx.nil
 | c::r,h=>by
  have h1:spB c=true/\q6n c=true:=by
   rcases h c (by simp)with rfl|rfl<;>exact⟨by decide,by decide⟩
  exact Lx.pre (Lx.blank h1.1) h1.2 (j6p r fun x hx=>h x (by simp[hx]))
theorem j9p{r:List UInt8}(h:∀c∈r,c=32\/c=10):(∀a,r.getLast?=some a->q6n a=true)/\(∀a,r.head?=some a->q6n a=true):=by
 have:∀a∈r,q6n a=true:=fun a ha=>by rcases h a ha with rfl|rfl<;>decide
 exact⟨fun a ha=>this a (List.mem_of_getLast? ha),fun a ha=>this a (List.mem_of_mem_head? ha)⟩
theorem z4g{s:List UInt8}{ws:List Wd}(h:Lx s ws):LxD (wdD s) ws:=fun r hr=>by rw[z7d hr];exact h
theorem v4g:LxD blD []:=fun r hr=>j6p r (q8l rfl (.inl rfl) hr)
theorem y6u:LxD sfD []:=fun r hr=>j6p r (q8l rfl (.inr rfl) hr)
theorem v4h{a:Tr}{ws:List Wd}(h:LxD a ws):LxD (dpD a) ws:=fun _ hr=>h _ (k9l hr)
theorem v4i{a:Tr}{ws:List Wd}(h:LxD a ws):LxD (grD a) ws:=fun _ hr=>h _ (k9m hr)
theorem q7b{a b:Tr}{us vs:List Wd}(ha:LxD a us)(hb:LxD b vs)(h:y8u a\/v9p b):LxD (twD a b) (us++vs):=fun r hr=>by
 obtain⟨ra,rb,h1,h2,rfl⟩:=z7c hr;refine Lx.app (ha ra h1) (hb rb h2) fun x y hx hy=>?_
 rcases h with h|h
 ·exact k1q (h ra h1 x hx)
 ·exact z6a (h rb h2 y hy)
theorem v3c{s:List UInt8}{c:UInt8}(h:q6n c=true):y8u (wdD (s++[c])):=fun r hr a ha=>by
 rw[z7d hr,List.getLast?_append]at ha;simp at ha;subst ha;exact h
theorem v2k{s:List UInt8}{c:UInt8}(h:q6n c=true):v9p (wdD (c::s)):=fun r hr a ha=>by
 rw[z7d hr]at ha;simp at ha;subst ha;exact h
theorem v3b:y8u blD:=fun _ hr=>(j9p (q8l rfl (.inl rfl) hr)).1
theorem y5n:y8u sfD:=fun _ hr=>(j9p (q8l rfl (.inr rfl) hr)).1
theorem v2i(b:Tr):v9p (twD blD b):=fun r hr a ha=>by
 obtain⟨ra,rb,h1,h2,rfl⟩:=z7c hr;have h3:=q8l rfl (.inl rfl) h1
 have hne:ra≠[]:=by
  rcases h1 with h|⟨A,D,B,h⟩
  ·cases h;simp
  ·cases h;simp
 obtain⟨c,C,rfl⟩:=List.exists_cons_of_ne_nil hne;simp at ha;subst ha;rcases h3 c (by simp)with rfl|rfl<;>decide
theorem y9u{b:Tr}(h:v9p b):v9p (twD sfD b):=fun r hr a ha=>by
 obtain⟨ra,rb,h1,h2,rfl⟩:=z7c hr;have h3:=q8l rfl (.inr rfl) h1;cases ra with
 | nil=>exact h rb h2 a (by simpa using ha)
 | cons c ra'=>
  simp at ha;subst ha;rcases h3 c (by simp)with rfl|rfl<;>decide
theorem y0k{a:Tr}(h:v9p a):v9p (dpD a):=fun r hr=>h r (k9l hr)
theorem v4j{x:Td}{d:Tr}{t:Tn}(hx:x=t.x)(h:LxD d t.tk)(l:Nat):LxD (inD l x d) (brk l t):=by
 unfold inD brk;rw[hx]
 split
 ·have A:LxD (wdD [41]) [[41]]:=z4g (Lx.mark (by decide));have B:LxD (wdD [40]) [[40]]:=z4g (Lx.mark (by decide));exact q7b B (q7b h A (.inr (v2k (by decide)))) (.inl (v3c (s:=[]) (by decide)))
 ·exact h
inductive Mks:List (Td × Tr)->List Tn->Prop where
 | nil:Mks [] []
 | cons {p t ps ts}:p.1=t.x->LxD p.2 t.tk->Mks ps ts->Mks (p::ps) (t::ts)
theorem y6t:∀{ps:List (Td × Tr)}{ts:List Tn},Mks ps ts->ps≠[]->LxD (kdD ps) (cmk ts)
 | _,_,.cons _ h .nil,_=>by simp only[kdD,cmk,List.append_nil];exact h
 | _,_,.cons (ps:=p::ps) (ts:=t::ts) _ h (.cons e2 h2 h3),_=>by
  have ih:=y6t (Mks.cons e2 h2 h3) (by simp);have h44:LxD (wdD [44]) [[44]]:=z4g (Lx.mark (by decide));have h5:=q7b (q7b h h44 (.inr (v2k (by decide)))) (q7b v4g ih (.inl v3b)) (.inr (v2i _));show LxD (twD (twD _ (wdD [44])) (twD blD (kdD (p::ps)))) _;rw[show ∀z:Tn,cmk (z::t::ts)=(z.tk++[[44]])++([]++cmk (t::ts))from fun z=>by simp[cmk]];exact h5
theorem j6o{ps:List (Td × Tr)}{ts:List Tn}(h:Mks ps ts){op:List UInt8}{o:UInt8}{cl:UInt8}{ws:List Wd}(ho:q6n o=true)(A:Lx (op++[o]) ws)(hc:y4o cl=true)(C:q6n cl=true):LxD (q1g (op++[o]) [cl] ps) (ws++cmk ts++[[cl]]):=by
 have B:LxD (wdD [cl]) [[cl]]:=z4g (Lx.mark hc);unfold q1g
 split
 ·rename_i h0;cases h with
  | nil=>
   refine z4g ?_
   have:=Lx.app A (Lx.mark hc) (q8b ho op [cl])
   simpa[cmk]using this
  | cons=>simp at h0
 ·rename_i h0;have D:ps≠[]:=fun e=>h0 (by rw[e];rfl)
  have E:=q7b (z4g A) (q7b (v4h (q7b y6u (y6t h D) (.inl y5n))) (q7b y6u B (.inl y5n)) (.inr (y9u (v2k C)))) (.inl (v3c ho));refine v4i ?_;have e:ws++cmk ts++[[cl]]=ws++([]++cmk ts++([]++[[cl]])):=by simp
  rw[e];exact E
theorem g0o{x:Td}{ps:List (Td × Tr)}{ts:List Tn}(h:Mks ps ts)(hx:exN x)(hk:ps.length=kdT x):LxD (q0g x ps) (q3t x ts):=by
 have G:kdT x=2->∃a b c d,ps=[a,b]/\ts=[c,d]/\(a.1=c.x/\LxD a.2 c.tk)/\(b.1=d.x/\LxD b.2 d.tk):=fun e=>by
  rw[e]at hk;cases h with
  | nil=>simp at hk
  | cons h1 h1' E=>cases E with
   | nil=>simp at hk
   | cons B h3' C=>cases C with
    | nil=>exact⟨_,_,_,_,rfl,rfl,⟨h1,h1'⟩,⟨B,h3'⟩⟩
    | cons=>simp at hk
 have H:q0o x.tx=true->Lx (btL x.tx) [btL x.tx]:=fun D=>by
  have J:=q1q D;simp only[q0o,Bool.and_eq_true,decide_eq_true_eq,List.all_eq_true]at D;refine Lx.name D.2 ?_ J;intro e
  have:=q0c x.tx
  rw[e]at this;simp at this;omega
 have I:∀c:UInt8,y4o c=true->q6n c=true->LxD (wdD [c,32]) [[c]]:=fun c hc hs=>by
  refine z4g ?_
  have:=Lx.app (Lx.mark hc) (Lx.blank (c:=32) (by decide)) (z5w (by decide) [])
  simpa using this
 rcases q1l hx with⟨A,_,K,L,_⟩|⟨A,D,_⟩|⟨A,D,_⟩|⟨A,_⟩|⟨A,_,_,E⟩|⟨A,_,_,E⟩
 ·rw[show q0g x ps=wdD (q2n x.n.toNat) by simp[q0g,A],show q3t x ts=[q2n x.n.toNat] by simp[q3t,A]];exact z4g (Lx.num _ (by omega))
 ·rw[show q0g x ps=wdD (btL x.tx) by simp[q0g,A],show q3t x ts=[btL x.tx] by simp[q3t,A]];exact z4g (H D)
 ·rw[show q0g x ps=q1g (btL x.tx++[40]) [41] ps by simp[q0g,A],show q3t x ts=[btL x.tx,[40]]++cmk ts++[[41]] by simp[q3t,A]];refine j6o h (by decide) ?_ (by decide) (by decide);exact Lx.post (H D) (by decide) (Lx.mark (by decide))
 ·rw[show q0g x ps=q1g ([]++[91]) [93] ps by simp[q0g,A],show q3t x ts=[[91]]++cmk ts++[[93]] by simp[q3t,A]];exact j6o h (by decide) (Lx.mark (by decide)) (by decide) (by decide)
 ·obtain⟨a,b,c,d,rfl,rfl,B,C⟩:=G E;rw[show q0g x [a,b]=grD (twD (inD 0 a.1 a.2) (dpD (twD blD (twD (wdD [43,32]) (inD 1 b.1 b.2))))) by simp[q0g,tw2,A],show q3t x [c,d]=brk 0 c++([]++([[43]]++brk 1 d)) by simp[q3t,two2,A]];exact v4i (q7b (v4j B.1 B.2 0) (v4h (q7b v4g (q7b (I 43 (by decide) (by decide)) (v4j C.1 C.2 1) (.inl (v3c (s:=[43]) (by decide)))) (.inl v3b))) (.inr (y0k (v2i _))))
 ·obtain⟨a,b,c,d,rfl,rfl,B,C⟩:=G E;rw[show q0g x [a,b]=grD (twD (inD 1 a.1 a.2) (dpD (twD blD (twD (wdD [42,32]) (inD 2 b.1 b.2))))) by simp[q0g,tw2,A],show q3t x [c,d]=brk 1 c++([]++([[42]]++brk 2 d)) by simp[q3t,two2,A]];exact v4i (q7b (v4j B.1 B.2 1) (v4h (q7b v4g (q7b (I 42 (by decide) (by decide)) (v4j C.1 C.2 2) (.inl (v3c (s:=[42]) (by decide)))) (.inl v3b))) (.inr (y0k (v2i _))))
theorem j4b:∀F:Fo,F.ok->F.exs->Mks F.D F.R
 | .nil,_,_=>.nil
 | .cons x k n,hok,hex=>by
  have h1:=j4b k hok.2.1 fun y hy=>hex y (by simp[Fo.N,hy])
  have h2:=j4b n hok.2.2 fun y hy=>hex y (by simp[Fo.N,hy])
  exact .cons rfl (g0o h1 (hex x (by simp[Fo.N])) (by rw[q3i];exact hok.1)) h2
theorem y5k{t:List Td}(h:q0b t=0)(h9:opT t≠9){r:List UInt8}(hr:Txt (q0j t) r):Lx r (q8p t):=by
 obtain⟨x,y,k,rfl,B,K,P,X⟩:=q5a h h9;have W:=j4b _ B K
 have O:LxD (q0g y k.D) (q0x y k.R).tk:=by
  cases W with
  | cons _ h1 _=>exact h1
 have Q:q0j (x::(Fo.cons y k .nil).N)=stD x (q0g y k.D):=q6p B P;have S:q8p (x::(Fo.cons y k .nil).N)=stK x (Fo.cons y k .nil).R:=(z0l B P).2;have I:LxD (wdD [59]) [[59]]:=z4g (Lx.mark (by decide));rw[Q]at hr;rw[S];generalize q0g y k.D=D at O hr;have M:LxD (twD D (wdD [59])) ((q0x y k.R).tk++[[59]]):=q7b O I (.inr (v2k (by decide)));rcases X with⟨H,E,_⟩|⟨H,_,_⟩
 ·rw[stD,if_pos H]at hr;have V:=q1q E;have A:=E;simp only[q0o,Bool.and_eq_true,decide_eq_true_eq,List.all_eq_true]at A;have L:Lx (btL x.tx) [btL x.tx]:=Lx.name A.2 (by intro e;have:=q0c x.tx;rw[e]at this;simp at this;omega) V;have C:Lx [108,101,116] [[108,101,116]]:=Lx.name (by decide) (by decide) (by decide)
  have G:Lx ([108,101,116,32]++btL x.tx++[32,61]) [[108,101,116],btL x.tx,[61]]:=by
   have Y:Lx ([108,101,116]++[32]) ([[108,101,116]]++[]):=Lx.post C (by decide) (Lx.blank (by decide));have Z:=Lx.app Y L (q8b (by decide) _ _);have a:=Lx.post Z (c:=32) (by decide) (Lx.blank (by decide));have b:=Lx.post a (c:=61) (by decide) (Lx.mark (by decide));have e:[108,101,116,32]++btL x.tx++[32,61]=[108,101,116]++[32]++btL x.tx++[32]++[61]:=by simp
   rw[e];simpa using b
  have U:=v4i (q7b (z4g G) (v4h (q7b v4g M (.inl v3b))) (.inr (y0k (v2i _))));have J:=U r hr;simpa[stK,H,hdK,Fo.R]using J
 ·rw[stD,if_neg (by omega)]at hr;have J:=M r hr;simpa[stK,H,hdK,Fo.R]using J
def k3v(B b:Nat)(d:Value)(v:Value)(s:ByteArray)(e:Int)(w:World):Prop:=
 B<=b/\b<w.heap.size/\w.cell? ⟨b,0,none⟩=some d/\w.cell? ⟨b,1,none⟩=some v/\w.cell? ⟨b,2,none⟩=some (.string s)/\w.cell? ⟨b,3,none⟩=some (.int .i64 e)
  /\w.frozen? ⟨b,1,none⟩=false/\w.frozen? ⟨b,2,none⟩=false/\w.frozen? ⟨b,3,none⟩=false
theorem k3v.W{B b:Nat}{d v:Value}{s:ByteArray}{e:Int}{w w':World}(h:k3v B b d v s e w)(hb:Below w w w'):k3v B b d v s e w':=by
 obtain⟨M,A,E,G,H,I,J,K,L⟩:=h;obtain⟨C,D⟩:=q1o hb
 have:=hb.size
 exact⟨M,by omega,(C _ _ A).trans E,(C _ _ A).trans G,(C _ _ A).trans H,(C _ _ A).trans I,(D _ _ A).trans J,(D _ _ A).trans K,(D _ _ A).trans L⟩
theorem k3v.alloc{B b:Nat}{d v:Value}{s:ByteArray}{e:Int}{w:World}(h:k3v B b d v s e w)(O:Obj):k3v B b d v s e (w.alloc O):=h.W (Zb.alloc Zl _)
theorem k3v.drew{B b:Nat}{d v:Value}{s:ByteArray}{e:Int}{w:World}(h:k3v B b d v s e w):k3v B b d v s e w.drew:=h
theorem v5s(w:World)(p:Addr)(v:Value):(w.setCell p v).heap.size=w.heap.size:=by simp[World.setCell]
theorem k3v.ways{B b:Nat}{d v:Value}{s:ByteArray}{e:Int}{w:World}(h:k3v B b d v s e w)(v':Value):k3v B b d v' s e (w.setCell ⟨b,1,none⟩ v'):=by
 obtain⟨J,K,A,C,D,E,G,H,I⟩:=h;exact⟨J,by rw[v5s];exact K,(cso (by omega)).trans A,css C,(cso (by omega)).trans D,(cso (by omega)).trans E,csf.trans G,csf.trans H,csf.trans I⟩
def LnD(D:Tr)(b h:Nat):Prop:=(∀r,D.flat=some r->r.length<=b)/\∀deep cs cs' r,D.lay deep cs=.ok (r,cs')->deep+h<=80->r.length<=b
theorem LnD.mono{D:Tr}{b b' h h':Nat}(hd:LnD D b h)(hb:b<=b')(hh:h<=h'):LnD D b' h':=
 ⟨fun r hr=>Nat.le_trans (hd.1 r hr) hb,fun deep cs cs' r hr h1=>Nat.le_trans (hd.2 deep cs cs' r hr (by omega)) hb⟩
theorem z8w(s:List UInt8):LnD (wdD s) s.length 0:=
 ⟨fun r hr=>by cases hr;exact Nat.le_refl _,fun deep cs cs' r hr _=>by cases hr;exact Nat.le_refl _⟩
theorem y2m:LnD blD 81 0:=
 ⟨fun r hr=>by cases hr;decide,fun deep cs cs' r hr h=>by cases hr;simp;omega⟩
theorem y6p:LnD sfD 81 0:=
 ⟨fun r hr=>by cases hr;decide,fun deep cs cs' r hr h=>by cases hr;simp;omega⟩
theorem q9c{a b:Tr}{x y h:Nat}(ha:LnD a x h)(hb:LnD b y h):LnD (twD a b) (x+y) h:=by
 refine⟨fun r hr=>?_,fun deep cs cs' r hr hh=>?_⟩
 ·simp only[Tr.flat,if_true]at hr;cases A:a.flat with
  | none=>rw[A]at hr;cases hr
  | some s=>
   cases B:b.flat with
   | none=>rw[A,B]at hr;cases hr
   | some t=>
    rw[A,B]at hr;cases hr;have G:=ha.1 s A;have H:=hb.1 t B;rw[List.length_append];omega
 ·simp only[Tr.lay,if_true]at hr;cases C:a.lay deep cs with
  | error e=>rw[C]at hr;cases hr
  | ok p=>
   obtain⟨J,E⟩:=p;rw[C]at hr;simp only at hr;cases D:b.lay deep E with
   | error e=>rw[D]at hr;cases hr
   | ok p2=>
    obtain⟨K,I⟩:=p2;rw[D]at hr;cases hr;have G:=ha.2 _ _ _ _ C hh;have H:=hb.2 _ _ _ _ D hh;rw[List.length_append];omega
theorem y2n{a:Tr}{x h:Nat}(ha:LnD a x h):LnD (dpD a) x (h+2):=
 ⟨fun r hr=>ha.1 r hr,fun deep cs cs' r hr hh=>ha.2 (deep+(2:Int).toNat) cs cs' r hr (by have:(2:Int).toNat=2:=rfl;omega)⟩
theorem y2o{a:Tr}{x h:Nat}(ha:LnD a x h):LnD (grD a) x h:=by
 refine⟨fun r hr=>ha.1 r hr,fun deep cs cs' r hr hh=>?_⟩;simp only[Tr.lay]at hr;rw[if_neg (by decide)]at hr;cases cs with
 | nil=>cases hr
 | cons c cs=>
  simp only at hr
  split at hr
  ·exact ha.2 _ _ _ _ hr hh
  ·cases A:a.flat with
   | none=>rw[A]at hr;cases hr
   | some s=>rw[A]at hr;cases hr;exact ha.1 _ A
theorem y6n{x:Td}{d:Tr}{t:Tn}{h:Nat}(hx:x=t.x)(hd:LnD d (90*t.tk.length) h)(l:Nat):LnD (inD l x d) (90*(brk l t).length) h:=by
 unfold inD brk;rw[hx]
 split
 ·refine(q9c ((z8w [40]).mono Zl (Nat.zero_le h)) (q9c hd ((z8w [41]).mono Zl (Nat.zero_le h)))).mono ?_ Zl;simp only[List.length_cons,List.length_append,List.length_nil];omega
 ·exact hd
inductive Mls (h:Nat):List (Td × Tr)->List Tn->Prop where
 | nil:Mls h [] []
 | cons {p t ps ts}:p.1=t.x->LnD p.2 (90*t.tk.length) h->Mls h ps ts->Mls h (p::ps) (t::ts)
theorem Mls.up{h h':Nat}(hh:h<=h'){ps:List (Td × Tr)}{ts:List Tn}(m:Mls h ps ts):Mls h' ps ts:=by
 induction m with
 | nil=>exact .nil
 | cons e hd _ ih=>exact .cons e (hd.mono Zl hh) ih
theorem y6o{h:Nat}:∀{ps:List (Td × Tr)}{ts:List Tn},Mls h ps ts->ps≠[]->LnD (kdD ps) (90*(cmk ts).length) h
 | _,_,.cons _ hd .nil,_=>by simp only[kdD,cmk,List.append_nil];exact hd
 | _,_,.cons (p:=p0) (t:=t0) (ps:=p::ps) (ts:=t::ts) _ hd (.cons e2 h2 h3),_=>by
  have ih:=y6o (Mls.cons e2 h2 h3) (by simp);show LnD (twD (twD p0.2 (wdD [44])) (twD blD (kdD (p::ps)))) _ h;refine(q9c (q9c hd ((z8w [44]).mono Zl (Nat.zero_le h))) (q9c (y2m.mono Zl (Nat.zero_le h)) ih)).mono ?_ Zl;have e:(cmk (t0::t::ts)).length=t0.tk.length+1+(cmk (t::ts)).length:=by simp[cmk];omega
  rw[e];simp only[List.length_cons,List.length_nil];omega
theorem j6l{h:Nat}{ps:List (Td × Tr)}{ts:List Tn}(m:Mls h ps ts){op cl:List UInt8}(ho:op.length+cl.length<=18):LnD (q1g op cl ps) (90*((cmk ts).length+2)) (h+2):=by
 unfold q1g
 split
 ·refine(z8w _).mono ?_ (Nat.zero_le _);rw[List.length_append];omega
 ·rename_i h0;have A:=y6o m fun e=>h0 (by rw[e];rfl)
  have z:∀s:List UInt8,LnD (wdD s) s.length (h+2):=fun s=>(z8w s).mono Zl (Nat.zero_le _)
  have B:LnD sfD 81 (h+2):=y6p.mono Zl (Nat.zero_le _);refine y2o ((q9c (z op) (q9c (y2n (q9c (y6p.mono Zl (Nat.zero_le h)) A)) (q9c B (z cl)))).mono ?_ Zl);omega
theorem g0n{h:Nat}{x:Td}{ps:List (Td × Tr)}{ts:List Tn}(m:Mls h ps ts)(hx:exN x)(hk:ps.length=kdT x):LnD (q0g x ps) (90*(q3t x ts).length) (h+2):=by
 have G:kdT x=2->∃a b c d,ps=[a,b]/\ts=[c,d]/\(a.1=c.x/\LnD a.2 (90*c.tk.length) h)/\(b.1=d.x/\LnD b.2 (90*d.tk.length) h):=fun e=>by
  rw[e]at hk;cases m with
  | nil=>simp at hk
  | cons H h1' B=>cases B with
   | nil=>simp at hk
   | cons C h3' D=>cases D with
    | nil=>exact⟨_,_,_,_,rfl,rfl,⟨H,h1'⟩,⟨C,h3'⟩⟩
    | cons=>simp at hk
 have E:∀(l q:Nat)(c:UInt8)(a b:Td × Tr)(s t:Tn),(a.1=s.x/\LnD a.2 (90*s.tk.length) h)->(b.1=t.x/\LnD b.2 (90*t.tk.length) h)->LnD (grD (twD (inD l a.1 a.2) (dpD (twD blD (twD (wdD [c,32]) (inD q b.1 b.2)))))) (90*((brk l s).length+1+(brk q t).length)) (h+2):=fun l q c a b s t ha hb=>by
  refine y2o ((q9c ((y6n ha.1 ha.2 l).mono Zl (Nat.le_add_right h 2)) (y2n (q9c (y2m.mono Zl (Nat.zero_le h)) (q9c ((z8w [c,32]).mono Zl (Nat.zero_le h)) (y6n hb.1 hb.2 q))))).mono ?_ Zl);simp only[List.length_cons,List.length_nil];omega
 rcases q1l hx with⟨A,_,J,K,_⟩|⟨A,I,_⟩|⟨A,I,_⟩|⟨A,_⟩|⟨A,_,_,B⟩|⟨A,_,_,B⟩
 ·rw[show q0g x ps=wdD (q2n x.n.toNat) by simp[q0g,A],show q3t x ts=[q2n x.n.toNat] by simp[q3t,A]];have H:=q8a 5 x.n.toNat (by omega);exact(z8w _).mono (by simp only[List.length_cons,List.length_nil];omega) (Nat.zero_le _)
 ·rw[show q0g x ps=wdD (btL x.tx) by simp[q0g,A],show q3t x ts=[btL x.tx] by simp[q3t,A]];have H:=q1q I;exact(z8w _).mono (by simp only[List.length_cons,List.length_nil];omega) (Nat.zero_le _)
 ·rw[show q0g x ps=q1g (btL x.tx++[40]) [41] ps by simp[q0g,A],show q3t x ts=btL x.tx::[40]::(cmk ts++[[41]]) by simp[q3t,A]];have H:=q1q I;refine(j6l m (by simp only[List.length_append,List.length_cons,List.length_nil];omega)).mono ?_ Zl;simp only[List.length_append,List.length_cons,List.length_nil];omega
 ·rw[show q0g x ps=q1g [91] [93] ps by simp[q0g,A],show q3t x ts=[91]::(cmk ts++[[93]]) by simp[q3t,A]];refine(j6l m (by decide)).mono ?_ Zl;simp only[List.length_append,List.length_cons,List.length_nil];omega
 ·obtain⟨a,b,c,d,rfl,rfl,C,D⟩:=G B;rw[show q0g x [a,b]=grD (twD (inD 0 a.1 a.2) (dpD (twD blD (twD (wdD [43,32]) (inD 1 b.1 b.2))))) by simp[q0g,tw2,A],show q3t x [c,d]=brk 0 c++[43]::brk 1 d by simp[q3t,two2,A]];refine(E 0 1 43 a b c d C D).mono ?_ Zl;simp only[List.length_append,List.length_cons];omega
 ·obtain⟨a,b,c,d,rfl,rfl,C,D⟩:=G B;rw[show q0g x [a,b]=grD (twD (inD 1 a.1 a.2) (dpD (twD blD (twD (wdD [42,32]) (inD 2 b.1 b.2))))) by simp[q0g,tw2,A],show q3t x [c,d]=brk 1 c++[42]::brk 2 d by simp[q3t,two2,A]];refine(E 1 2 42 a b c d C D).mono ?_ Zl;simp only[List.length_append,List.length_cons];omega
theorem j4a:∀F:Fo,F.ok->F.exs->Mls (2*F.N.length) F.D F.R
 | .nil,_,_=>.nil
 | .cons x k n,hok,hex=>by
  have h1:=j4a k hok.2.1 fun y hy=>hex y (by simp[Fo.N,hy])
  have h2:=j4a n hok.2.2 fun y hy=>hex y (by simp[Fo.N,hy])
  have h3:=g0n h1 (hex x (by simp[Fo.N])) (by rw[q3i];exact hok.1);have e:(Fo.cons x k n).N.length=1+k.N.length+n.N.length:=by simp only[Fo.N,List.length_cons,List.length_append];omega
  exact .cons rfl (h3.mono Zl (by omega)) (h2.up (by omega))
theorem y5j{t:List Td}(h:q0b t=0)(h9:opT t≠9){cs A:List Int}{r:List UInt8}(hr:(q0j t).lay 0 cs=.ok (r,A)):r.length<=90*(q8p t).length:=by
 have C:=(q2j h).1;obtain⟨x,y,k,rfl,B,K,O,W⟩:=q5a h h9;have V:=j4a _ B K
 have J:LnD (q0g y k.D) (90*(q0x y k.R).tk.length) (2*(Fo.cons y k .nil).N.length):=by
  cases V with
  | cons _ h1 _=>exact h1
 have P:q0j (x::(Fo.cons y k .nil).N)=stD x (q0g y k.D):=q6p B O;have Q:q8p (x::(Fo.cons y k .nil).N)=stK x (Fo.cons y k .nil).R:=(z0l B O).2;rw[P]at hr;rw[Q];simp only[List.length_cons]at C;generalize q0g y k.D=D at J hr;have U:2*(Fo.cons y k .nil).N.length<=78:=by omega
 generalize 2*(Fo.cons y k .nil).N.length=H at J U;have z:∀s:List UInt8,∀q,LnD (wdD s) s.length q:=fun s q=>(z8w s).mono Zl (Nat.zero_le _)
 have M:=q9c J (z [59] _);rcases W with⟨E,L,_⟩|⟨E,_,_⟩
 ·have X:=q1q L;rw[stD,if_pos E]at hr;have S:=y2o (q9c (z ([108,101,116,32]++btL x.tx++[32,61]) _) (y2n (q9c (y2m.mono Zl (Nat.zero_le _)) M)));have I:=S.2 0 cs A r hr (by omega);have G:(stK x (Fo.cons y k .nil).R).length=(q0x y k.R).tk.length+4:=by simp[stK,E,hdK,Fo.R]
  rw[G];simp only[List.length_append,List.length_cons,List.length_nil]at I;omega
 ·rw[stD,if_neg (by omega)]at hr;have I:=M.2 0 cs A r hr (by omega);have G:(stK x (Fo.cons y k .nil).R).length=(q0x y k.R).tk.length+1:=by simp[stK,E,hdK,Fo.R]
  rw[G];simp only[List.length_cons,List.length_nil]at I;omega
theorem q1s.nil(B:Nat)(w:World):q1s B (.slice Option.none 0 0) [] w:=⟨rfl,.inl ⟨rfl,rfl⟩⟩
def q7f(t:List Td):Int:=if q0b t≠0 then q0b t else if opT t=9 then 2 else if 400<(q0j t).N.length then 3 else 0
def q4v(t:List Td):List Nd:=if q7f t=0 then(q0j t).N else []
def k3w(t:List Td):Int:=if q0b t≠0 then q0b t else if opT t=9 then 0 else 2
def txT(t:List Td):ByteArray:=match t with
 | []=>⟨#[]⟩
 | x::_=>x.tx
def j0t(t:List Td):List ByteArray:=if k3w t=0 then(q0e (btL (txT t))).map wbS else []
def z3a(t:List Td)(e:Ending)(w':World):Prop:=∃A c,e=.returned (.tuple #[.slice A (q4v t).length c,q1m (q7f t)])/\q2e w' A (q4v t)/\(q4v t).length<=c
def z7l(t:List Td)(e:Ending)(w':World):Prop:=∃A c,e=.returned (.tuple #[.slice A (j0t t).length c,q1m (k3w t)])/\Wds w' A (j0t t)/\(j0t t).length<=c
theorem j5v{t:List Td}(h:q0b t≠0):q7f t=q0b t/\q4v t=[]/\k3w t=q0b t/\j0t t=[]:=by
 have A:q7f t=q0b t:=by rw[q7f,if_pos h]
 have B:k3w t=q0b t:=by rw[k3w,if_pos h]
 exact⟨A,by rw[q4v,if_neg (by rw[A];exact h)],B,by rw[j0t,if_neg (by rw[B];exact h)]⟩
theorem z8s{t:List Td}(h:q0b t=0)(h9:opT t=9):q7f t=2/\q4v t=[]/\k3w t=0/\j0t t=(q0e (btL (txT t))).map wbS:=by
 have A:q7f t=2:=by rw[q7f,if_neg (by simp[h]),if_pos h9]
 have B:k3w t=0:=by rw[k3w,if_neg (by simp[h]),if_pos h9]
 exact⟨A,by rw[q4v,if_neg (by rw[A];decide)],B,by rw[j0t,if_pos B]⟩
theorem v3w{t:List Td}(h:q0b t=0)(h9:opT t≠9)(hn:400<(q0j t).N.length):q7f t=3/\q4v t=[]/\k3w t=2/\j0t t=[]:=by
 have A:q7f t=3:=by rw[q7f,if_neg (by simp[h]),if_neg h9,if_pos hn]
 have B:k3w t=2:=by rw[k3w,if_neg (by simp[h]),if_neg h9]
 exact⟨A,by rw[q4v,if_neg (by rw[A];decide)],B,by rw[j0t,if_neg (by rw[B];decide)]⟩
theorem y2e{t:List Td}(h:q0b t=0)(h9:opT t≠9)(hn:¬400<(q0j t).N.length):q7f t=0/\q4v t=(q0j t).N/\k3w t=2/\j0t t=[]:=by
 have A:q7f t=0:=by rw[q7f,if_neg (by simp[h]),if_neg h9,if_neg hn]
 have B:k3w t=2:=by rw[k3w,if_neg (by simp[h]),if_neg h9]
 exact⟨A,by rw[q4v,if_pos A],B,by rw[j0t,if_neg (by rw[B];decide)]⟩
theorem k3v.bsize{B b:Nat}{d v:Value}{s:ByteArray}{e:Int}{w:World}(h:k3v B b d v s e w):B<=w.heap.size:=by
 obtain⟨A,C,_⟩:=h;omega
theorem k3v.grown{B b:Nat}{d v:Value}{s:ByteArray}{e:Int}{w w':World}(_h:k3v B b d v s e w)(hb:Below w w w'):Below B w w':=by
 have:=_h.bsize
 exact hb.mono this
end Go.Proofs.YtfdppahhbpfnoaaGreatDoor
