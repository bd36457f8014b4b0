import Derived.Test.YtfdppahhbpfnoaaGreatDoorPb07
import Derived.Test.YtfdppahhbpfnoaaGreatDoorPb08
import Derived.Test.YtfdppahhbpfnoaaGreatDoorPb04
open Go.Proofs.Tryz
namespace Go.Proofs.YtfdppahhbpfnoaaGreatDoor
open Go Go.RowKit
set_option maxRecDepth 100000
set_option maxHeartbeats 8000000
theorem k8e(oq:Int)(ho:oq=7\/oq=8)(bp be bf s o n cap i:Nat)(x1:Int)(f1:Bool)(w:World)(hn:n<=400)(hi:(i:Int)<n)(A:(i:Int)+1<n)(h1:bp≠be)(h2:bp≠bf)(h3:be≠bf)(h4:s≠be)(h5:s≠bf)
  (c0:w.cell? ⟨bp,0,none⟩=some (.slice (some ⟨s,o,none⟩) n cap)) (c1:w.cell? ⟨bp,1,none⟩=some (.slice (some ⟨be,0,none⟩) n n)) (c2:w.cell? ⟨bp,2,none⟩=some (.slice (some ⟨bf,0,none⟩) n n))
  (d1:w.cell? ⟨s,o+i*3,none⟩=some (.int .i64 oq))
  (e1:w.cell? ⟨be,i+1,none⟩=some (.int .i64 x1))
  (e3:w.cell? ⟨bf,i+1,none⟩=some (.bool f1))
  (y1 y2:Value) (e5:w.cell? ⟨be,i,none⟩=some y1) (e6:w.cell? ⟨bf,i,none⟩=some y2) (z1:w.frozen? ⟨be,i,none⟩=false) (z2:w.frozen? ⟨bf,i,none⟩=false):
  Calls prog 90 #[.pointer (some ⟨bp,0,none⟩),.int .i64 i] w fun e w'=>e=.returned (.tuple #[])/\z2l be bf i (.int .i64 x1) (.bool f1) w w':=by
 have G:y4v oq:=.mk;rcases ho with rfl|rfl
 all_goals
  have E:=j1z hn hi;have C:(0:Int)<=(i:Int)+1:=by omega
  have B:(0:Int)<=(i:Int):=by omega
  have D:((i:Int)+1).toNat=i+1:=by omega
  go_in;go_wp2_with fail
  go_region_held3 (fun w'=>w'.cell? ⟨bp,0,none⟩=some (.slice (some ⟨s,o,none⟩) n cap)/\w'.cell? ⟨bp,1,none⟩=some (.slice (some ⟨be,0,none⟩) n n)/\w'.cell? ⟨bp,2,none⟩=some (.slice (some ⟨bf,0,none⟩) n n)/\w'.cell? ⟨s,o+i*3,none⟩=some (.int .i64 ↑G)/\w'.cell? ⟨be,i+1,none⟩=some (.int .i64 x1)/\w'.cell? ⟨bf,i+1,none⟩=some (.bool f1))
   (first|exact⟨c0,c1,c2,d1,e1,e3⟩|exact⟨(cso (by omega)).trans c0,(cso (by omega)).trans c1,(cso (by omega)).trans c2,(cso (by omega)).trans d1,(cso (by omega)).trans e1,(cso (by omega)).trans e3⟩|exact⟨(cso (by omega)).trans ((cso (by omega)).trans c0),(cso (by omega)).trans ((cso (by omega)).trans c1),(cso (by omega)).trans ((cso (by omega)).trans c2),(cso (by omega)).trans ((cso (by omega)).trans d1),(cso (by omega)).trans ((cso (by omega)).trans e1),(cso (by omega)).trans ((cso (by omega)).trans e3)⟩) (fail)
  all_goals
   go_wp2
   go_end0
   exact⟨rfl,rfl,rfl,rfl,rfl⟩
theorem j1k(x:Td)(w:World):Calls prog 54 #[tdV x] w fun e w'=>e=.returned (.int .i64 (kdZ x))/\Below w w w':=by
 obtain⟨A,J,n⟩:=x;have B:∀O:Obj,Below w w (w.alloc O):=fun O=>(Below.refl _ w).alloc Zl O
 by_cases C:A=3
 ·subst C;go_in;go_wp2;go_ret;exact⟨by simp[kdZ],B _⟩
 by_cases D:A=4
 ·subst D;go_in;go_wp2;go_ret;exact⟨by simp[kdZ],B _⟩
 by_cases E:A=5
 ·subst E;go_in;go_wp2;go_ret;exact⟨by simp[kdZ,kdT],B _⟩
 by_cases G:A=6
 ·subst G;go_in;go_wp2;go_ret;exact⟨by simp[kdZ,kdT],B _⟩
 by_cases H:A=7
 ·subst H;go_in;go_wp2;go_ret;exact⟨by simp[kdZ,kdT],B _⟩
 by_cases I:A=8
 ·subst I;go_in;go_wp2;go_ret;exact⟨by simp[kdZ,kdT],B _⟩
 have K:Hid (kdZ ⟨A,J,n⟩=0):=by show kdZ ⟨A,J,n⟩=0;simp[kdZ,kdT,C,D,E,G,H,I]
 have L:(A==3)=false:=by simp[C]
 have M:(A==4)=false:=by simp[D]
 have N:(A==5)=false:=by simp[E]
 have P:(A==6)=false:=by simp[G]
 have Q:(A==7)=false:=by simp[H]
 have R:(A==8)=false:=by simp[I]
 clear C D E G H I;go_in;go_wp2;go_ret;exact⟨by rw[K.o];rfl,B _⟩
theorem z4l(ds:List Td)(a:Option Addr)(cap:Nat)(hl:ds.length<=400)(hk:∀x∈ds,q0m x=0):∀(f i:Nat)(w:World),Tds w a ds->ds.length-i<f->i<=1000->
  Calls prog 24 #[.slice a ds.length cap,.int .i64 i] w fun e w'=>e=.returned (.int .i64 (z8b (q3d ds i 1)))/\Below w w w':=by
 have S:Hid (∀x∈ds,q0m x=0):=hk;clear hk;intro f
 induction f with
 | zero=>intro i w _ h;omega
 | succ f ih=>
  intro i w X hf hi;have U:Hid (Tds w a ds):=X
  have d:Hid (∀(i:Nat)(w:World),Tds w a ds->ds.length-i<f->i<=1000->
   Calls prog 24 #[.slice a ds.length cap,.int .i64 i] w fun e w'=>e=.returned (.int .i64 (z8b (q3d ds i 1)))/\Below w w w'):=ih
  clear X ih;by_cases C:i<ds.length
  ·obtain⟨b,o,s,hb,l,n,r⟩:=U.o i C;have M:Hid (q3d ds i 1=q3d ds (i+1) (kdT ds[i])):=z3p _ _ 0 C;have P:=v7y (S.o _ (List.getElem_mem C));have H:Hid (kdZ ds[i]=(kdT ds[i]:Int)):=v7z (S.o _ (List.getElem_mem C));have t:(i:Int)<(ds.length:Int):=by omega
   have N:¬(ds.length:Int)<=(i:Int):=by omega
   subst s;generalize ds[i]=x at l n r M P H;generalize Q:kdT x=p at M P H;clear Q;obtain⟨Z,c,Y⟩:=x
   have L:Hid (∀W:World,Calls prog 54 #[.agg #[.int .i64 Z,.string c,.int .i64 Y]] W fun e w'=>e=.returned (.int .i64 (p:Int))/\Below W W w'):=fun W=>by
    have:=j1k ⟨Z,c,Y⟩ W
    rw[H.o]at this;exact this
   clear H;go_in;go_wp2_with fail;refine(L.o _).mono ?_;rintro e w1⟨rfl,g⟩;go_wp2_with fail
   go_loopw [1,5] (fun z m wr=>Below w w wr/\∃q:Nat,q<=6/\m=.int .i64 q/\((∃k:Nat,i<k/\k<=ds.length/\z=.int .i64 k/\q3d ds i 1=q3d ds k q)\/(z=.int .i64 (-1)/\q3d ds i 1=none))) (fun _ m _=>(intOf m).toNat)
   case atStart=>exact⟨g,p,P,rfl,.inl ⟨i+1,by omega,by omega,by go_num,M.o⟩⟩
   case round=>
    obtain⟨B,q,hq,rfl,⟨k,v,y,rfl,E⟩|⟨rfl,E⟩⟩:=hrel
    ·have D:Hid (q3d ds i 1=q3d ds k q):=E;have A:Hid (Below w w wr):=B;clear E B;by_cases I:q=0
     ·subst I;have K:Hid (q3d ds i 1=some k):=D.o.trans (k1d _ _);go_wp2;go_ret;exact⟨by rw[K.o];rfl,A.o⟩
     ·obtain⟨G,rfl⟩:∃G,q=G+1:=⟨q-1,by omega⟩;have R:Hid (q3d ds i 1=(q3d ds k 1).bind fun j=>q3d ds j G):=D.o.trans (by rw[Nat.add_comm G 1,v3a]);clear I;go_wp2_with fail;refine(d.o k _ (U.o.W A.o) (by omega) (by omega)).mono ?_;rintro e w2⟨rfl,V⟩;have J:Hid (Below w w w2):=q0d A.o Zl V;clear V;go_wp2
      go_roundw
      case rel=>
       refine⟨J.o,G,by omega,by go_num,?_⟩;cases O:q3d ds k 1 with
       | none=>exact .inr ⟨rfl,by rw[R.o,O];rfl⟩
       | some j=>
        have u:=y1i O;exact .inl ⟨j,by omega,by omega,rfl,by rw[R.o,O];rfl⟩
      case measure=>simp[intOf]
    ·have D:Hid (q3d ds i 1=none):=E;have A:Hid (Below w w wr):=B;clear E B;by_cases I:q=0
     ·subst I;go_wp2;go_ret;exact⟨by rw[D.o];rfl,A.o⟩
     ·go_wp2;go_ret;exact⟨by rw[D.o];rfl,A.o⟩
  ·have D:Hid (q3d ds i 1=none):=q8c _ _ _ (by omega);have N:(ds.length:Int)<=(i:Int):=by omega
   go_in;go_wp2;go_ret;exact⟨by rw[D.o];rfl,Below.refl _ _⟩
theorem z6r(ws:List ByteArray)(a:Option Addr)(cap:Nat)(w:World)(hW:Wds w a ws):
  Calls prog 21 #[.slice a ws.length cap] w fun e w'=>e=.returned (.int .i64 (q0s ws))/\w=w':=by
 have P:Hid (Wds w a ws):=hW;clear hW;by_cases b:60<(ws.length:Int)
 ·have A:Hid (q0s ws=3):=q6v (by omega);go_in;go_wp2;go_ret;exact⟨by rw[A.o];rfl,rfl⟩
 go_in;go_wp2
 go_loopw [3] (fun i wr=>wr=w/\∃k:Nat,k<=ws.length/\i=.int .i64 k/\∀j(h:j<ws.length),j<k->okW ws[j]=true) (fun i _=>ws.length-(intOf i).toNat)
 case atStart=>exact⟨rfl,0,Nat.zero_le _,rfl,fun j _ M=>by omega⟩
 case round=>
  obtain⟨rfl,k,c,rfl,E⟩:=hrel;have N:Hid (∀j(h:j<ws.length),j<k->okW ws[j]=true):=E;clear E;by_cases J:k<ws.length
  ·obtain⟨X,f,R,S,Q⟩:=P.o k J;subst R;have V:(k:Int)<(ws.length:Int):=by omega
   have I:Hid (okW ws[k]=true->∀j(h:j<ws.length),j<k+1->okW ws[j]=true):=fun C j h M=>by
    by_cases G:j=k
    ·subst G;exact C
    ·exact N.o j h (by omega)
   have D:Hid (okW ws[k]=false->q0s ws=5):=fun C=>z7g (by omega) J C
   generalize ws[k]=s at Q I D;by_cases Y:(s.size:Int)<1
   ·have A:Hid (q0s ws=5):=D.o (by simp[okW];omega);go_wp2;go_ret;exact⟨by rw[A.o];rfl,rfl⟩
   by_cases Z:20<(s.size:Int)
   ·have A:Hid (q0s ws=5):=D.o (by simp[okW];omega);go_wp2;go_ret;exact⟨by rw[A.o];rfl,rfl⟩
   go_wp2
   go_loopw [4] (fun i wx=>wx=wr/\∃m:Nat,m<=s.size/\i=.int .i64 m/\∀j(h:j<s.size),j<m->q5g s[j]=true) (fun i _=>s.size-(intOf i).toNat)
   case atStart=>exact⟨rfl,0,Nat.zero_le _,rfl,fun j _ M=>by omega⟩
   case round=>
    obtain⟨rfl,m,d,rfl,B⟩:=hrel;have H:Hid (∀j(h:j<s.size),j<m->q5g s[j]=true):=B;clear B;by_cases K:m<s.size
    ·have W:(m:Int)<(s.size:Int):=by omega
     cases C:q5g s[m]with
     | false=>
      have A:Hid (q0s ws=5):=D.o (j8f K C);have L:=z4y C;clear C;rcases L with L|⟨L,U⟩
      ·go_wp2;go_ret;exact⟨by rw[A.o];rfl,rfl⟩
      ·go_wp2;go_ret;exact⟨by rw[A.o];rfl,rfl⟩
     | true=>
      have O:Hid (q5g s[m]=true):=C;obtain⟨L,U⟩:=z7e C;clear C;go_wp2
      go_roundw
      case rel=>
       refine⟨by trivial,m+1,by omega,by go_num,?_⟩;intro j h M;by_cases G:j=m
       ·subst G;exact O.o
       ·exact H.o j h (by omega)
      case measure=>simp[intOf];omega
    ·have A:Hid (∀j(h:j<ws.length),j<k+1->okW ws[j]=true):=I.o (k8q (by omega) (by omega) fun j h=>H.o j h (by omega));go_wp2
     go_roundw
     case rel=>exact⟨by trivial,k+1,by omega,by go_num,A.o⟩
     case measure=>simp[intOf];omega
  ·have A:Hid (q0s ws=0):=z7f (by omega) fun j h=>N.o j h (by omega)
   go_wp2;go_ret;exact⟨by rw[A.o];rfl,rfl⟩
theorem q3k(s:ByteArray)(w:World):Calls prog 23 #[.string s] w fun e w'=>e=.returned (.bool (q0o s))/\w=w':=by
 by_cases P:(s.size:Int)<1
 ·have B:Hid (q0o s=false):=z4i (by omega);go_in;go_wp2;go_ret;exact⟨by rw[B.o];rfl,rfl⟩
 by_cases Q:8<(s.size:Int)
 ·have B:Hid (q0o s=false):=z6n (by omega);go_in;go_wp2;go_ret;exact⟨by rw[B.o];rfl,rfl⟩
 by_cases D:s=⟨#[108,101,116]⟩
 ·subst D;go_in;go_wp2;go_ret;exact⟨by rfl,rfl⟩
 have N:Hid (¬s=⟨#[108,101,116]⟩):=D
 have J:¬s.toList=[108,101,116]:=by
  rw[ByteArray.toList_eq];intro e;exact D (j5y.1 e)
 have L:(s.toList==[108,101,116])=false:=beq_false_of_ne J;have M:(⟨#[108,101,116]⟩:ByteArray).toList=[108,101,116]:=by rw[ByteArray.toList_eq]
 clear D;go_in;go_wp2
 go_loopw [3] (fun i wr=>wr=w/\∃k:Nat,k<=s.size/\i=.int .i64 k/\∀j(h:j<s.size),j<k->q2f s[j]=true) (fun i _=>s.size-(intOf i).toNat)
 case atStart=>exact⟨rfl,0,Nat.zero_le _,rfl,fun j _ hj=>by omega⟩
 case round=>
  obtain⟨rfl,k,R,rfl,A⟩:=hrel;have K:Hid (∀j(h:j<s.size),j<k->q2f s[j]=true):=A;clear A;by_cases I:k<s.size
  ·cases C:q2f s[k]with
   | false=>
    have B:Hid (q0o s=false):=k2p I C;have G:Hid (q2f s[k]=false):=C;clear C;go_wp2_with(go_at_call 53;refine(z6s _ _).mono ?_;rintro e O⟨rfl,rfl⟩;rw[G.o]);go_ret;exact⟨by rw[B.o];rfl,rfl⟩
   | true=>
    have G:Hid (q2f s[k]=true):=C
    have E:Hid (∀j(h:j<s.size),j<k+1->q2f s[j]=true):=fun j h hj=>by
     by_cases H:j=k
     ·subst H;exact C
     ·exact K.o j h (by omega)
    clear C;go_wp2_with(go_at_call 53;refine(z6s _ _).mono ?_;rintro e O⟨rfl,rfl⟩;rw[G.o])
    go_roundw
    case rel=>exact⟨by trivial,k+1,by omega,by go_num,E.o⟩
    case measure=>simp[intOf];omega
  ·have B:Hid (q0o s=true):=k2o (by omega) (by omega) N.o fun j h=>K.o j h (by omega)
   go_wp2;go_ret;exact⟨by rw[B.o];rfl,rfl⟩
theorem v0k(s:ByteArray)(i e:Nat)(h1:i<=e)(h2:e<=s.size)(W:World):(Instr.slice 9 (.string s) (some (.int .i64 (i:Int))) (some (.int .i64 ((e:Nat):Int))) none).run prog W=.ok (.string (wbS (((btL s).drop i).take (e-i)))) W:=by
 have h:=run_slice_string (P:=prog) (w:=W) 9 s .i64 .i64 (i:Int) (e:Int) Tryz.underlying9 (by omega) (by omega) (by omega);rw[Int.toNat_natCast,Int.toNat_natCast,z5a]at h;exact h
structure y8x(s:ByteArray)(w:World)(fr i:Nat)(dn:List (List UInt8))(A:Option Addr)(c:Nat)(wr:World):Prop where
 b:Below w w wr
 le:fr<=i
 li:i<=s.size
 ln:dn.length<=fr
 no:∀j(h:j<s.size),fr<=j->j<i->s[j]≠32
 eq:q4h (btL s)=dn++q4h ((btL s).drop fr)
 ro:wr.ownsRow w.heap.size 9 1 (.slice A dn.length c) dn.length (strCells (dn.map wbS))
theorem k8o{s:ByteArray}{fr i:Nat}(h:fr<=i)(hi:i<=s.size)(no:∀j(h:j<s.size),fr<=j->j<i->s[j]≠32):∀b∈((btL s).drop fr).take (i-fr),b≠32:=by
 intro b A;obtain⟨j,B,rfl⟩:=List.getElem_of_mem A;rw[List.length_take,List.length_drop,q0c]at B;rw[List.getElem_take,List.getElem_drop];exact no (fr+j) (by omega) (by omega) (by omega)
theorem v4u{s:ByteArray}{fr i:Nat}(h:fr<=i)(hi:i<s.size):(btL s).drop fr=((btL s).drop fr).take (i-fr)++s[i]::(btL s).drop (i+1):=by
 have A:=(List.take_append_drop (i-fr) ((btL s).drop fr)).symm;rw[List.drop_drop,show fr+(i-fr)=i by omega,q1j hi]at A;exact A
theorem j8d{s:ByteArray}{fr:Nat}:((btL s).drop fr).take (s.size-fr)=(btL s).drop fr:=by
 rw[List.take_of_length_le (by rw[List.length_drop,q0c];exact Nat.le_refl _)]
theorem q8s(s:ByteArray)(w:World)(Aa:s.size<=1000000000000):Calls prog 22 #[.string s] w fun e w'=>(∃A c,e=.returned (.slice A (q0e (btL s)).length c)/\q2r w (.slice A (q0e (btL s)).length c) ((q0e (btL s)).map wbS) w')/\Below w w w':=by
 by_cases l:s.size=0
 ·have o:Hid (q0e (btL s)=[]):=by
   show q0e (btL s)=[];rw[q0e,if_pos (List.eq_nil_of_length_eq_zero (by rw[q0c];exact l))]
  have q:((s.size:Int)==0)=true:=beq_iff_eq.2 (by omega);clear l;go_in;go_wp2;go_ret;rw[o.o];exact⟨⟨none,0,rfl,World.ownsRow_nil _ _ _ _⟩,Below.refl _ _⟩
 ·have o:Hid (q0e (btL s)=q4h (btL s)):=by
   show q0e (btL s)=_;rw[q0e,if_neg];intro e
   have:=congrArg List.length e
   rw[q0c,List.length_nil]at this;exact l this
  have q:((s.size:Int)==0)=false:=beq_false_of_ne (by omega);clear l;obtain⟨i0,X,a,d,g⟩:=info_parts z4p;go_in;go_wp2
  go_loopw [3,4,5] (fun x f i wr=>∃(E k:Nat)(H:List (List UInt8))(A:Option Addr)(c:Nat),x=.slice A H.length c/\f=.int .i64 (E:Int)/\i=.int .i64 (k:Int)/\y8x s w E k H A c wr) (fun _ _ i _=>s.size-(intOf i).toNat)
  case atStart=>exact⟨0,0,[],none,0,rfl,rfl,rfl,{b:=Below.refl _ _,le:=Nat.le_refl _,li:=Nat.zero_le _,ln:=Nat.le_refl _,no:=fun j _ _ h=>by omega,eq:=rfl,ro:=World.ownsRow_nil _ _ _ _}⟩
  case round=>
   obtain⟨E,k,H,A,c,rfl,rfl,rfl,R⟩:=hrel;have G:Hid (y8x s w E k H A c wr):=R;have L:=R.le;have N:=R.li;have y:=R.ln;have Y:=R.b.size;clear R;by_cases O:k<s.size
   ·have v:(k:Int)<(s.size:Int):=by omega
    cases S:(s[k]==32)with
    | true=>
     have r:((s[k].toNat:Int)==32)=true:=by rw[show(32:Int)=((32:Nat):Int)from rfl,k3l _ 32 (by decide)];exact S
     have Q:=v0k s E k L N
     have I:Hid (q4h (btL s)=(H++[((btL s).drop E).take (k-E)])++q4h ((btL s).drop (k+1))):=by
      show _=_;have M:=v4u L O;rw[beq_iff_eq.1 S]at M;rw[G.o.eq,List.append_assoc]
      congr 1
      conv=>lhs;rw[M]
      rw[z9x _ _ (k8o L N G.o.no)];rfl
     generalize((btL s).drop E).take (k-E)=W at Q I
     clear S;go_wp2_with(at_builtin;refine wpList_append_lies _ rfl _ _ 58 rfl w.heap.size 9 i0 _ 1 16 Tryz.underlying58 X a d g rfl (by decide) _ _ _ rfl (World.ownsRow.alloc G.o.ro _) ⟨wr,0,none⟩ 1 1 [.string (wbS W)] rfl rfl (cell_one_new wr _ _) (by intro u Z;simp at Z;subst Z;rfl) (by decide) (by unfold maxLen;omega) (by omega) (by simp;omega) (wr.heap.size+1) (by simp) ?_);intro U D m C B J K
     have p:Hid (y8x s w (k+1) (k+1) (H++[W]) (some ⟨U,0,none⟩) D m):=by
      refine{b:=(G.o.b.alloc Y (.cells #[.string (wbS W)] 9)).grown B (by simp;omega) (fun j hj=>(World.ownsRow.lt G.o.ro j hj).1),le:=Nat.le_refl _,li:=O,ln:=by simp;omega,no:=fun j _ _ h=>by omega,eq:=I.o,ro:=?_};rw[List.length_append,List.map_append,q2h];exact C
     clear C B J K;go_wp2
     go_roundw
     case rel=>exact⟨k+1,k+1,H++[W],some ⟨U,0,none⟩,D,by rw[List.length_append];rfl,by go_num,by go_num,p.o⟩
     case measure=>simp[intOf];omega
    | false=>
     have r:((s[k].toNat:Int)==32)=false:=by rw[show(32:Int)=((32:Nat):Int)from rfl,k3l _ 32 (by decide)];exact S
     have p:Hid (y8x s w E (k+1) H A c wr):=by
      refine{b:=G.o.b,le:=by omega,li:=O,ln:=y,no:=fun j h M h2=>?_,eq:=G.o.eq,ro:=G.o.ro};by_cases t:j=k
      ·subst t;simpa using S
      ·exact G.o.no j h M (by omega)
     clear S;go_wp2
     go_roundw
     case rel=>exact⟨E,k+1,H,A,c,rfl,rfl,by go_num,p.o⟩
     case measure=>simp[intOf];omega
   ·obtain rfl:k=s.size:=by omega
    have v:¬(s.size:Int)<(s.size:Int):=by omega
    have Q:∀W:World,(Instr.slice 9 (.string s) (some (.int .i64 (E:Int))) none none).run prog W=.ok (.string (wbS ((btL s).drop E))) W:=fun W=>by
     have h:=run_slice_string_l (P:=prog) W 9 s Tryz.underlying9 .i64 (E:Int) (by omega) (by omega);rw[Int.toNat_natCast,z5a,j8d]at h;exact h
    have I:Hid (q0e (btL s)=H++[(btL s).drop E]):=by
     show _=_;rw[o.o,G.o.eq,z9y];have M:=k8o L N G.o.no;rw[j8d]at M;exact M
    generalize(btL s).drop E=W at Q I
    go_wp2_with(at_builtin;refine wpList_append_lies _ rfl _ _ 58 rfl w.heap.size 9 i0 _ 1 16 Tryz.underlying58 X a d g rfl (by decide) _ _ _ rfl (World.ownsRow.alloc G.o.ro _) ⟨wr,0,none⟩ 1 1 [.string (wbS W)] rfl rfl (cell_one_new wr _ _) (by intro u Z;simp at Z;subst Z;rfl) (by decide) (by unfold maxLen;omega) (by omega) (by simp;omega) (wr.heap.size+1) (by simp) ?_);intro U D m C B J K;have V:=(G.o.b.alloc Y (.cells #[.string (wbS W)] 9)).grown B (by simp;omega) (fun j hj=>(World.ownsRow.lt G.o.ro j hj).1)
    have z:q2r w (.slice (some ⟨U,0,none⟩) (H.length+1) D) ((H++[W]).map wbS) m:=by
     show m.ownsRow _ _ _ _ _ _;rw[List.length_map,List.length_append,List.map_append,q2h];exact C
    have HO:=hid z;have n:=hid V;clear C B J K z V;go_wp2;go_ret;rw[I.o,List.length_append];exact⟨⟨some ⟨U,0,none⟩,D,rfl,HO.o⟩,n.o⟩
end Go.Proofs.YtfdppahhbpfnoaaGreatDoor
