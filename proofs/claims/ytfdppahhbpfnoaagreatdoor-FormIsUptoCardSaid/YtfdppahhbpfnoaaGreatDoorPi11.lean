import Derived.Test.YtfdppahhbpfnoaaGreatDoorPi05
import Derived.Deep.CutBlock
import Derived.Deep.DeepCutAuto
import Derived.Laws.AppendOwn
import Derived.Laws.AppendOwnNone
open Go.Proofs.Tryz
namespace Go.Proofs.YtfdppahhbpfnoaaGreatDoor
open Go Go.RowKit
set_option maxRecDepth 100000
theorem q2i(c:UInt8)(w:World):Calls prog 73 #[.int .u8 (c.toNat:Int)] w fun e w'=>e=.returned (.bool (q1w c))/\w=w':=by
 by_cases B:(48:Int)<=(c.toNat:Int)
 ·by_cases C:(c.toNat:Int)<=57
  ·have A:Hid (q1w c=true):=by show q1w c=true;simp[q1w];omega
   go_in;go_wp2;go_ret;exact⟨by rw[A.o];rfl,rfl⟩
  ·have A:Hid (q1w c=false):=by show q1w c=false;simp[q1w];omega
   go_in;go_wp2;go_ret;exact⟨by rw[A.o];rfl,rfl⟩
 ·have A:Hid (q1w c=false):=by show q1w c=false;simp[q1w];omega
  go_in;go_wp2;go_ret;exact⟨by rw[A.o];rfl,rfl⟩
set_option maxHeartbeats 8000000
structure q3m(s:ByteArray)(w:World)(i:Nat)(dn:List (Nat × List UInt8))(A P:Option Addr)(ac pc:Nat)(wr:World):Prop where
 b:Below w w wr
 le:i<=s.size
 ln:dn.length<=i
 eq:lx (btL s) 0=(dn++lxW ((btL s).drop i) i,lxF ((btL s).drop i) i)
 ws:wr.ownsRow w.heap.size 9 1 (.slice A dn.length ac) dn.length (strCells (dn.map fun x=>wbS x.2))
 ps:wr.ownsRow w.heap.size 3 1 (.slice P dn.length pc) dn.length (q2h (dn.map (·.1)))
theorem q3m.space{s:ByteArray}{w:World}{i:Nat}{dn:List (Nat × List UInt8)}{A P:Option Addr}{ac pc:Nat}{wr:World}(h:q3m s w i dn A P ac pc wr)(hi:i<s.size)(hs:spB s[i]=true):q3m s w (i+1) dn A P ac pc wr:=by
 have e:=h.eq;rw[q1g hi,lxW,lxF,j6g _ _ hs]at e;exact{b:=h.b,le:=hi,ln:=by have:=h.ln;omega,eq:=e,ws:=h.ws,ps:=h.ps}
theorem k1i{s:ByteArray}{w:World}{i:Nat}{dn:List (Nat × List UInt8)}{A P:Option Addr}{ac pc:Nat}{wr:World}(h:q3m s w i dn A P ac pc wr)(hi:i<s.size)(hs:spB s[i]=false)(ho:tOk s i=false):lxF (btL s) 0=some i:=by
 have e:=h.eq;rw[tOk,q1g hi]at ho;rw[q1g hi,lxW,lxF,k6x _ hs ho]at e;rw[lxF,e]
theorem q3m.word{s:ByteArray}{w:World}{i:Nat}{dn:List (Nat × List UInt8)}{A P:Option Addr}{ac pc:Nat}{wr:World}(h:q3m s w i dn A P ac pc wr)(hi:i<s.size)(hs:spB s[i]=false)(ho:tOk s i=true){A' P':Option Addr}{B C:Nat}{w':World}(hb:Below w w w')
  (h1:w'.ownsRow w.heap.size 9 1 (.slice A' (dn.length+1) B) (dn.length+1) (strCells (dn.map fun x=>wbS x.2)++[.string (wbS (tkW ((btL s).drop i)))])) (h2:w'.ownsRow w.heap.size 3 1 (.slice P' (dn.length+1) C) (dn.length+1) (q2h (dn.map (·.1))++[.int .i64 (i:Int)])):
  q3m s w (i+z2h s i) (dn++[(i,tkW ((btL s).drop i))]) A' P' B C w':=by
 have e:=h.eq;have D:=y8s hi;have H:((btL s).drop i).drop (z2h s i)=(btL s).drop (i+z2h s i):=by rw[List.drop_drop]
 have E:q6q (s[i]::(btL s).drop (i+1))=true:=by rw[<-q1g hi];exact ho
 have G:lx ((btL s).drop i) i=((i,tkW ((btL s).drop i))::lxW ((btL s).drop (i+z2h s i)) (i+z2h s i),lxF ((btL s).drop (i+z2h s i)) (i+z2h s i)):=by
  rw[<-H,z2h,q1g hi];exact k6y i hs E
 rw[lxW,lxF,G]at e;refine{b:=hb,le:=D.2,ln:=by have:=h.ln;simp;omega,eq:=by rw[e];simp,ws:=?_,ps:=?_}
 ·rw[List.length_append,List.map_append,q2f];exact h1
 ·rw[List.length_append,List.map_append,z2p];exact h2
theorem v5a{c:UInt8}(h:spB c=true):((c.toNat:Int)==32)=true\/(((c.toNat:Int)==32)=false/\((c.toNat:Int)==10)=true):=by
 have B:=q5z c 32 (by decide);have C:=q5z c 10 (by decide);simp only[spB,Bool.or_eq_true]at h;by_cases A:c=32
 ·exact .inl (by rw[show(32:Int)=((32:Nat):Int)from rfl,B];simp[A])
 ·refine .inr ⟨by rw[show(32:Int)=((32:Nat):Int)from rfl,B];simpa using A,?_⟩;rw[show(10:Int)=((10:Nat):Int)from rfl,C];rcases h with h|h
  ·exact absurd (beq_iff_eq.1 h) A
  ·exact h
theorem y5e{c:UInt8}(h:spB c=false):((c.toNat:Int)==32)=false/\((c.toNat:Int)==10)=false:=by
 have A:=q5z c 32 (by decide);have B:=q5z c 10 (by decide);simp only[spB,Bool.or_eq_false_iff]at h;exact⟨by rw[show(32:Int)=((32:Nat):Int)from rfl,A];exact h.1,by rw[show(10:Int)=((10:Nat):Int)from rfl,B];exact h.2⟩
theorem k6k{s:ByteArray}{k kk q:Nat}{B:k<s.size}(A:kk=k+z2h s k)(ht:z2h s k=twN q1w s (k+1)+1/\tOk s k=(decide (twN q1w s (k+1)+1<=6)&&(s[k] != 48||twN q1w s (k+1)==0)))(hq:twN q1w s (k+1)+1=q-k):kk=q/\tOk s k=(decide (q-k<=6)&&(s[k] != 48||q-k==1)):=by
 refine⟨by omega,?_⟩;rw[ht.2,hq]
 congr 2
 rw[Bool.eq_iff_iff,beq_iff_eq,beq_iff_eq];omega
theorem v4m(c:UInt8):((c.toNat:Int)<32/\Hid (prB c=false))\/(¬(c.toNat:Int)<32/\126<(c.toNat:Int)/\Hid (prB c=false))\/(¬(c.toNat:Int)<32/\¬126<(c.toNat:Int)/\Hid (prB c=true)):=by
 by_cases A:(c.toNat:Int)<32
 ·exact .inl ⟨A,by show prB c=false;simp[prB];omega⟩
 ·by_cases B:126<(c.toNat:Int)
  ·exact .inr (.inl ⟨A,B,by show prB c=false;simp[prB];omega⟩)
  ·exact .inr (.inr ⟨A,B,by show prB c=true;simp[prB];omega⟩)
theorem v8m(a b:UInt8):((a.toNat:Int)==(b.toNat:Int))=(a==b):=by
 rw[Bool.eq_iff_iff,beq_iff_eq,beq_iff_eq];constructor
 ·intro h;exact UInt8.toNat_inj.1 (by omega)
 ·intro h;rw[h]
theorem k9w(c:UInt8){q:Nat}(h:q<9):(k4e.take (q+1)).any (·==c)=((k4e.take q).any (·==c)||((⟨#[40,41,91,93,44,43,42,61,59]⟩:ByteArray)[q]'h==c)):=by
 have A:q<k4e.length:=h;rw[List.take_succ_eq_append_getElem A,List.any_append];simp only[List.any_cons,List.any_nil,Bool.or_false];rfl
theorem k6j{t:Bool}{k q:Nat}{c:UInt8}(h:k+1<=q)(ht:t=(decide (q-k<=6)&&(c != 48||q-k==1))):(¬(q:Int)-(k:Int)<=6/\Hid (t=false))\/(((q:Int)-(k:Int)<=6)/\((c.toNat:Int) != 48)=true/\Hid (t=true))
  \/(((q:Int)-(k:Int)<=6)/\((c.toNat:Int) != 48)=false/\((q:Int)==(k:Int)+1)=true/\Hid (t=true))\/(((q:Int)-(k:Int)<=6)/\((c.toNat:Int) != 48)=false/\((q:Int)==(k:Int)+1)=false/\Hid (t=false)):=by
 have G:=q5z c 48 (by decide)
 have A:((c.toNat:Int) != 48)=(c != 48):=by
  show(!((c.toNat:Int)==48))=(!(c==48))
  rw[show(48:Int)=((48:Nat):Int)from rfl,G];rfl
 by_cases E:q-k<=6
 ·have C:decide (q-k<=6)=true:=decide_eq_true E;cases B:(c != 48)with
  | true=>exact .inr (.inl ⟨by omega,by rw[A];exact B,by show t=true;rw[ht,C,B];rfl⟩)
  | false=>
   by_cases H:q=k+1
   ·have D:(q-k==1)=true:=by rw[beq_iff_eq];omega
    exact .inr (.inr (.inl ⟨by omega,by rw[A];exact B,by rw[beq_iff_eq];omega,by show t=true;rw[ht,C,B,D];rfl⟩))
   ·have D:(q-k==1)=false:=by rw[beq_eq_false_iff_ne];omega
    exact .inr (.inr (.inr ⟨by omega,by rw[A];exact B,by rw[beq_eq_false_iff_ne];omega,by show t=false;rw[ht,C,B,D];rfl⟩))
 ·exact .inl ⟨by omega,by show t=false;rw[ht,decide_eq_false E];rfl⟩
theorem k6t{L:List UInt8}{k:Nat}(h:L.length<=60000)(hf:lxF L 0=some k):q5u L=5/\z3f L=k:=by
 have e:q5u L=5:=by rw[q5u,if_neg (by omega),hf];rfl
 exact⟨e,by rw[z3f,if_pos e,hf];rfl⟩
theorem k1g{L:List UInt8}(h:L.length<=60000)(hf:lxF L 0=none)(hm:300<many (q2c L)):q5u L=3/\z3f L=0:=by
 have e:q5u L=3:=by rw[q5u,if_neg (by omega),hf,if_neg (by simp),if_pos hm]
 exact⟨e,by rw[z3f,e];rfl⟩
theorem k1h{L:List UInt8}(h:L.length<=60000)(hf:lxF L 0=none)(hm:¬300<many (q2c L)):q5u L=0/\z3f L=0:=by
 have e:q5u L=0:=by rw[q5u,if_neg (by omega),hf,if_neg (by simp),if_neg hm]
 exact⟨e,by rw[z3f,e];rfl⟩
theorem k1f{L:List UInt8}(h:60000<L.length):q5u L=3/\z3f L=0:=by
 have e:q5u L=3:=by rw[q5u,if_pos h]
 exact⟨e,by rw[z3f,e];rfl⟩
theorem k1j{s:ByteArray}{w:World}{i:Nat}{dn:List (Nat × List UInt8)}{A P:Option Addr}{ac pc:Nat}{wr:World}(h:q3m s w i dn A P ac pc wr)(hi:¬i<s.size):lxF (btL s) 0=none/\lxW (btL s) 0=dn:=by
 have e:=h.eq;rw[List.drop_eq_nil_of_le (by rw[q0c];omega),lxW,lxF,z4k,List.append_nil]at e;rw[lxF,lxW,e];exact⟨rfl,rfl⟩
theorem k7a{s:ByteArray}{k:Nat}(h:k<s.size)(hs:spB s[k]=false):many [tkW ((btL s).drop k)]=if s[k] != 35 then 1 else 0:=by
 have C:∃z,tkW ((btL s).drop k)=s[k]::z:=by
  rw[tkW,q1g h];have E:=q5j s[k] ((btL s).drop (k+1));obtain⟨m,D⟩:∃m,q1c (s[k]::(btL s).drop (k+1))=m+1:=⟨_,(Nat.sub_add_cancel E).symm⟩;rw[D,List.take_succ_cons];exact z2k (k5d hs) _
 obtain⟨z,G⟩:=C;rw[G];have B:y8q (s[k]::z)=(s[k] != 35):=rfl;cases A:(s[k] != 35)with
 | true=>rw[many,List.filter_cons_of_pos (by rw[B];exact A)];rfl
 | false=>rw[many,List.filter_cons_of_neg (by rw[B,A];decide)];rfl
theorem j1b{s:ByteArray}{k j:Nat}(h:k<=j)(hj:j<s.size):((btL s).drop k).take (j+1-k)=((btL s).drop k).take (j-k)++[s[j]]:=by
 have e:j+1-k=(j-k)+1:=by omega
 have B:j-k<((btL s).drop k).length:=by rw[List.length_drop,q0c];omega
 rw[e,List.take_succ_eq_append_getElem B]
 congr 2
 rw[List.getElem_drop];have A:k+(j-k)=j:=by omega
 simp only[A];rfl
theorem v4y(s:ByteArray)(i e:Nat)(h1:i<=e)(h2:e<=s.size)(W:World):(Instr.slice 9 (.string s) (some (.int .i64 (i:Int))) (some (.int .i64 ((e:Nat):Int))) none).run prog W=.ok (.string (wbS (((btL s).drop i).take (e-i)))) W:=by
 have h:=run_slice_string (P:=prog) (w:=W) 9 s .i64 .i64 (i:Int) (e:Int) Tryz.underlying9 (by omega) (by omega) (by omega);rw[Int.toNat_natCast,Int.toNat_natCast,q9s]at h;exact h
def j1t(s:ByteArray)(w:World)(e:Ending)(w':World):Prop:=
 (q5u (btL s)≠0/\e=.returned (.tuple #[.slice none 0 0,.slice none 0 0,.int .i64 ((z3f (btL s):Nat):Int),.int .i64 (q5u (btL s))]))\/
 (q5u (btL s)=0/\∃A P ac pc,e=.returned (.tuple #[.slice A (q2c (btL s)).length ac,.slice P (q2c (btL s)).length pc,.int .i64 0,.int .i64 0])/\q2g w (.slice A (q2c (btL s)).length ac) ((q2c (btL s)).map wbS) w'/\z1j w.heap.size (.slice P (q2c (btL s)).length pc) (z1h (btL s)) w')
theorem j5s(s:ByteArray)(w:World)(hl:(btL s).length<=60000):
  Calls prog 33 #[.string s] w fun e w'=>j1t s w e w'/\Below w w w':=by
 have Ai:s.size<=60000:=by rw[<-q0c];exact hl
 clear hl;have Bh:¬60000<(s.size:Int):=by omega
 go_in;go_wp2
 go_loopw [6,7,8,9] (fun x p m i wr=>∃(k:Nat)(D:List (Nat × List UInt8))(A P:Option Addr)(ac y:Nat),x=.slice A D.length ac/\p=.slice P D.length y/\m=.int .i64 ((many (D.map (·.2)):Nat):Int)/\i=.int .i64 (k:Int)/\q3m s w k D A P ac y wr) (fun _ _ _ i _=>s.size-(intOf i).toNat)
 case atStart=>exact⟨0,[],none,none,0,0,rfl,rfl,rfl,rfl,{b:=Below.refl _ _,le:=Nat.zero_le _,ln:=Nat.le_refl _,eq:=rfl,ws:=World.ownsRow_nil _ _ _ _,ps:=World.ownsRow_nil _ _ _ _}⟩
 case round=>
  obtain⟨k,D,A,P,ac,y,rfl,rfl,rfl,rfl,hR⟩:=hrel;have O:Hid (q3m s w k D A P ac y wr):=hR;have Bn:=hR.le;have Bo:=hR.ln
  have A7:many (D.map (·.2))<=60000:=by
   have h1:many (D.map (·.2))<=(D.map (·.2)).length:=List.length_filter_le _ _;rw[List.length_map]at h1;omega
  clear hR;generalize Av:many (D.map (·.2))=mm at A7;have Ab:Hid (many (D.map (·.2))=mm):=Av;clear Av;by_cases G:k<s.size
  ·have A6:(k:Int)<(s.size:Int):=by omega
   cases hs:spB s[k]with
   | true=>
    have HN:Hid (q3m s w (k+1) D A P ac y wr):=O.o.space G hs;rcases v5a hs with h1|⟨h1,h2⟩
    ·clear hs;go_wp2
     go_roundw
     case rel=>exact⟨k+1,D,A,P,ac,y,rfl,rfl,by rw[Ab.o],by go_num,HN.o⟩
     case measure=>simp[intOf];omega
    ·clear hs;go_wp2
     go_roundw
     case rel=>exact⟨k+1,D,A,P,ac,y,rfl,rfl,by rw[Ab.o],by go_num,HN.o⟩
     case measure=>simp[intOf];omega
   | false=>
    obtain⟨h1,h2⟩:=y5e hs;have HS:Hid (spB s[k]=false):=hs;obtain⟨A9,Ba⟩:=y8s G;obtain⟨I,As⟩:∃I,I=k+z2h s k:=⟨_,rfl⟩;have J:Hid (I=k+z2h s k):=As;have A5:k+1<=I:=by omega
    have Bm:I<=s.size:=by omega
    clear hs As A9 Ba
    go_upto_block 2 with(first|(go_at_call 53;refine(q6j _ _).mono ?_;rintro e r⟨rfl,rfl⟩)|(go_at_call 73;refine(q2i _ _).mono ?_;rintro e r⟨rfl,rfl⟩))
    go_cut [11,12,13,14] (fun x ok _ _ wx=>x=.int .i64 (I:Int)/\ok=.bool (tOk s k)/\wx=wr)
    case first=>
     cases M:q2b s[k]with
     | true=>
      obtain⟨c,d⟩:=y8e G M;have R:Hid (z2h s k=twN q2b s (k+1)+1/\tOk s k=decide (twN q2b s (k+1)+1<=8)):=⟨c,d⟩;clear c d M;go_wp2
      go_loopw [11] (fun x wx=>∃q:Nat,k+1<=q/\q<=s.size/\x=.int .i64 (q:Int)/\wx=wr/\(k+1)+twN q2b s (k+1)=q+twN q2b s q) (fun x _=>s.size-(intOf x).toNat)
      case atStart=>exact⟨k+1,Nat.le_refl _,by omega,by go_num,rfl,rfl⟩
      case round=>
       obtain⟨q,n,Aw,rfl,rfl,hq⟩:=hrel;have a:Hid ((k+1)+twN q2b s (k+1)=q+twN q2b s q):=hq;clear hq;by_cases C:q<s.size
       ·have Q:(q:Int)<(s.size:Int):=by omega
        cases E:q2b s[q]with
        | true=>
         have Z:Hid (q2b s[q]=true):=E
         have B:Hid ((k+1)+twN q2b s (k+1)=(q+1)+twN q2b s (q+1)):=by
          have h3:=z9r C E;have h4:=a.o;show _=_;omega
         clear E;go_wp2_with(go_at_call 53;refine(q6j _ _).mono ?_;rintro e r⟨rfl,rfl⟩;rw[Z.o])
         go_roundw
         case rel=>exact⟨q+1,by omega,by omega,by go_num,by trivial,B.o⟩
         case measure=>simp[intOf];omega
        | false=>
         have Z:Hid (q2b s[q]=false):=E
         have B:Hid (I=q/\tOk s k=decide ((q:Int)-(k:Int)<=8)):=by
          have h3:=k7z C E;have h4:=a.o;have h5:=J.o;have h6:=R.o.1;refine⟨by omega,?_⟩;rw[R.o.2]
          congr 1
          apply propext;omega
         clear E;go_wp2_with(go_at_call 53;refine(q6j _ _).mono ?_;rintro e r⟨rfl,rfl⟩;rw[Z.o])
         go_meet
         exact⟨by rw[B.o.1],by rw[B.o.2],rfl⟩
       ·have Q:¬(q:Int)<(s.size:Int):=by omega
        have B:Hid (I=q/\tOk s k=decide ((q:Int)-(k:Int)<=8)):=by
         have h3:=z9q (p:=q2b) C;have h4:=a.o;have h5:=J.o;have h6:=R.o.1;refine⟨by omega,?_⟩;rw[R.o.2]
         congr 1
         apply propext;omega
        go_wp2
        go_meet
        exact⟨by rw[B.o.1],by rw[B.o.2],rfl⟩
     | false=>
      cases V:q1w s[k]with
      | true=>
       obtain⟨c,d⟩:=y8d G M V;have R:Hid (z2h s k=twN q1w s (k+1)+1/\tOk s k=(decide (twN q1w s (k+1)+1<=6)&&(s[k] != 48||twN q1w s (k+1)==0))):=⟨c,d⟩;clear c d M V;go_wp2
       go_loopw [11] (fun x wx=>∃q:Nat,k+1<=q/\q<=s.size/\x=.int .i64 (q:Int)/\wx=wr/\(k+1)+twN q1w s (k+1)=q+twN q1w s q) (fun x _=>s.size-(intOf x).toNat)
       case atStart=>exact⟨k+1,Nat.le_refl _,by omega,by go_num,rfl,rfl⟩
       case round=>
        obtain⟨q,n,Aw,rfl,rfl,hq⟩:=hrel;have a:Hid ((k+1)+twN q1w s (k+1)=q+twN q1w s q):=hq;clear hq;by_cases C:q<s.size
        ·have Q:(q:Int)<(s.size:Int):=by omega
         cases E:q1w s[q]with
         | true=>
          have Z:Hid (q1w s[q]=true):=E
          have B:Hid ((k+1)+twN q1w s (k+1)=(q+1)+twN q1w s (q+1)):=by
           have h3:=z9r C E;have h4:=a.o;show _=_;omega
          clear E;go_wp2_with(go_at_call 73;refine(q2i _ _).mono ?_;rintro e r⟨rfl,rfl⟩;rw[Z.o])
          go_roundw
          case rel=>exact⟨q+1,by omega,by omega,by go_num,by trivial,B.o⟩
          case measure=>simp[intOf];omega
         | false=>
          have Z:Hid (q1w s[q]=false):=E
          have o:twN q1w s (k+1)+1=q-k:=by
           have h3:=k7z C E;have h4:=a.o;omega
          have B:Hid (I=q/\tOk s k=(decide (q-k<=6)&&(s[k] != 48||q-k==1))):=k6k J.o R.o o;clear E o;rcases k6j n B.o.2 with⟨t,H⟩|⟨t,Y,H⟩|⟨t,Y,g3,H⟩|⟨t,Y,g3,H⟩
          all_goals
           go_wp2_with(go_at_call 73;refine(q2i _ _).mono ?_;rintro e r⟨rfl,rfl⟩;rw[Z.o])
           go_meet
           exact⟨by rw[B.o.1],by rw[H.o],rfl⟩
        ·have Q:¬(q:Int)<(s.size:Int):=by omega
         have o:twN q1w s (k+1)+1=q-k:=by
          have h3:=z9q (p:=q1w) C;have h4:=a.o;omega
         have B:Hid (I=q/\tOk s k=(decide (q-k<=6)&&(s[k] != 48||q-k==1))):=k6k J.o R.o o;clear o;rcases k6j n B.o.2 with⟨t,H⟩|⟨t,Y,H⟩|⟨t,Y,g3,H⟩|⟨t,Y,g3,H⟩
         all_goals
          go_wp2
          go_meet
          exact⟨by rw[B.o.1],by rw[H.o],rfl⟩
      | false=>
       cases X:(s[k]==35)with
       | true=>
        obtain⟨c,d⟩:=y5k G M V X;have R:Hid (z2h s k=twN nlB s (k+1)+1/\tOk s k=prN s (k+1)):=⟨c,d⟩;have A0:((s[k].toNat:Int)==35)=true:=by rw[show(35:Int)=((35:Nat):Int)from rfl,q5z _ 35 (by decide)];exact X
        clear c d M V X;go_wp2
        go_loopw [11,12] (fun x ok wx=>∃(q:Nat)(b:Bool),k+1<=q/\q<=s.size/\x=.int .i64 (q:Int)/\ok=.bool b/\wx=wr/\(k+1)+twN nlB s (k+1)=q+twN nlB s q/\tOk s k=(b&&prN s q)) (fun x _ _=>s.size-(intOf x).toNat)
        case atStart=>exact⟨k+1,true,Nat.le_refl _,by omega,by go_num,rfl,rfl,rfl,by rw[R.o.2];rfl⟩
        case round=>
         obtain⟨q,b,n,Aw,rfl,rfl,rfl,hq,E⟩:=hrel;have a:Hid ((k+1)+twN nlB s (k+1)=q+twN nlB s q):=hq;have Z:Hid (tOk s k=(b&&prN s q)):=E;clear hq E;by_cases C:q<s.size
         ·have Q:(q:Int)<(s.size:Int):=by omega
          cases N:nlB s[q]with
          | true=>
           have Az:((s[q].toNat:Int) != 10)=true:=by
            show(!((s[q].toNat:Int)==10))=true
            rw[show(10:Int)=((10:Nat):Int)from rfl,q5z _ 10 (by decide)];exact N
           have B:Hid ((k+1)+twN nlB s (k+1)=(q+1)+twN nlB s (q+1)):=by
            have h3:=z9r C N;have h4:=a.o;show _=_;omega
           have z:Hid (tOk s k=(b&&(prB s[q]&&prN s (q+1)))):=by
            show _=_;rw[Z.o,y1m C N]
           clear N;rcases v4m s[q]with⟨t,H⟩|⟨t,Y,H⟩|⟨t,Y,H⟩
           all_goals
            go_wp2
            go_roundw
            case rel=>
             first
              | exact⟨q+1,false,by omega,by omega,by go_num,rfl,by trivial,B.o,by rw[z.o,H.o];simp⟩
              | exact⟨q+1,b,by omega,by omega,by go_num,rfl,by trivial,B.o,by rw[z.o,H.o];simp⟩
            case measure=>simp[intOf];omega
          | false=>
           have Az:((s[q].toNat:Int) != 10)=false:=by
            show(!((s[q].toNat:Int)==10))=false
            rw[show(10:Int)=((10:Nat):Int)from rfl,q5z _ 10 (by decide)];exact N
           have B:Hid (I=q/\tOk s k=b):=by
            have h3:=k7z C N;have h4:=a.o;have h5:=J.o;have h6:=R.o.1;exact⟨by omega,by rw[Z.o,y4v C N,Bool.and_true]⟩
           clear N;go_wp2
           go_meet
           exact⟨by rw[B.o.1],by rw[B.o.2],rfl⟩
         ·have Q:¬(q:Int)<(s.size:Int):=by omega
          have B:Hid (I=q/\tOk s k=b):=by
           have h3:=z9q (p:=nlB) C;have h4:=a.o;have h5:=J.o;have h6:=R.o.1;exact⟨by omega,by rw[Z.o,y1l C,Bool.and_true]⟩
          go_wp2
          go_meet
          exact⟨by rw[B.o.1],by rw[B.o.2],rfl⟩
       | false=>
        obtain⟨c,d⟩:=y5j G M V X;have R:Hid (I=k+1/\tOk s k=y6p s[k]):=⟨by rw[J.o,c],d⟩;have A0:((s[k].toNat:Int)==35)=false:=by rw[show(35:Int)=((35:Nat):Int)from rfl,q5z _ 35 (by decide)];exact X
        clear c d M V X;go_wp2
        go_loopw [12,15] (fun ok j wx=>∃q:Nat,q<=9/\j=.int .i64 (q:Int)/\ok=.bool ((k4e.take q).any (·==s[k]))/\wx=wr) (fun _ j _=>9-(intOf j).toNat)
        case atStart=>exact⟨0,by omega,by go_num,rfl,rfl⟩
        case round=>
         obtain⟨q,n,rfl,rfl,rfl⟩:=hrel;by_cases C:q<9
         ·have Q:(q:Int)<9:=by omega
          have Bp:q<(⟨#[40,41,91,93,44,43,42,61,59]⟩:ByteArray).size:=C;have Bq:(q:Int)<((⟨#[40,41,91,93,44,43,42,61,59]⟩:ByteArray).size:Int):=by omega
          have HM:=hid (k9w s[k] C);cases hm:((⟨#[40,41,91,93,44,43,42,61,59]⟩:ByteArray)[q]==s[k])with
          | true=>
           have Ah:((((⟨#[40,41,91,93,44,43,42,61,59]⟩:ByteArray)[q]).toNat:Int)==(s[k].toNat:Int))=true:=by rw[v8m];exact hm
           rw[hm]at HM;clear hm;go_wp2
           go_roundw
           case rel=>exact⟨q+1,by omega,by go_num,by rw[HM.o];simp,by trivial⟩
           case measure=>simp[intOf];omega
          | false=>
           have Ah:((((⟨#[40,41,91,93,44,43,42,61,59]⟩:ByteArray)[q]).toNat:Int)==(s[k].toNat:Int))=false:=by rw[v8m];exact hm
           rw[hm]at HM;clear hm;go_wp2
           go_roundw
           case rel=>exact⟨q+1,by omega,by go_num,by rw[HM.o];simp,by trivial⟩
           case measure=>simp[intOf];omega
         ·have Q:¬(q:Int)<9:=by omega
          have H:Hid (tOk s k=(k4e.take q).any (·==s[k])):=by
           show _=_;rw[R.o.2,List.take_of_length_le (by show 9<=q;omega)];rfl
          generalize(k4e.take q).any (·==s[k])=b at H
          go_wp2
          go_meet
          exact⟨by rw[R.o.1];go_num,by rw[H.o],rfl⟩
    case rest=>
     obtain⟨rfl,rfl,rfl⟩:=hcut;cases Ac:tOk s k with
     | false=>
      have HF:Hid (q5u (btL s)=5/\z3f (btL s)=k):=k6t (by rw[q0c];exact Ai) (k1i O.o G HS.o Ac);clear Ac;go_wp2;refine bodyPost_ret (v:=.tuple #[.slice none 0 0,.slice none 0 0,.int .i64 (k:Int),.int .i64 5]) (by simp[results,Tryz.results33,go_sem]) rfl ?_;exact⟨.inl ⟨by rw[HF.o.1];decide,by rw[HF.o.1,HF.o.2]⟩,O.o.b⟩
     | true=>
      have Ax:Hid (tOk s k=true):=Ac
      have Am:Hid (q1k (((btL s).drop k).take (I-k))=tkW ((btL s).drop k)):=by
       show _=_;rw[tkW,J.o]
       congr 2
       rw[z2h];omega
      have Ak:Hid (many (D.map (·.2)++[tkW ((btL s).drop k)])=mm+(if s[k] != 35 then 1 else 0)):=by
       show _=_;rw[k6z,Ab.o,k7a G HS.o]
      generalize hW:tkW ((btL s).drop k)=W at Am Ak;have HW:Hid (tkW ((btL s).drop k)=W):=hW;clear Ac hW;go_wp2
      go_loopw [16] (fun x wx=>∃e:Nat,k+1<=e/\e<=I/\x=.int .i64 (e:Int)/\wx=wc/\q1k (((btL s).drop k).take (e-k))=W) (fun x _=>(intOf x).toNat)
      case atStart=>exact⟨I,A5,Nat.le_refl _,rfl,rfl,Am.o⟩
      case round=>
       obtain⟨e,Bi,Bj,rfl,rfl,he⟩:=hrel;have H:Hid (q1k (((btL s).drop k).take (e-k))=W):=he;clear he;obtain⟨j,rfl⟩:∃j,e=j+1:=⟨e-1,by omega⟩;have f:((j+1:Nat):Int)=(j:Int)+1:=by omega
       rw[f];have A4:j<s.size:=by omega
       have Bk:(j:Int)<(s.size:Int):=by omega
       have Bl:(k:Int)<(j:Int)+1:=by omega
       have Al:Hid (((btL s).drop k).take (j+1-k)=((btL s).drop k).take (j-k)++[s[j]]):=j1b (by omega) A4;clear f;cases E:(s[j]==32)with
       | true=>
        have A1:((s[j].toNat:Int)==32)=true:=by rw[show(32:Int)=((32:Nat):Int)from rfl,q5z _ 32 (by decide)];exact E
        have Aa:Hid (k+1<=j/\q1k (((btL s).drop k).take (j-k))=W):=by
         have Aq:=beq_iff_eq.1 E;refine⟨?_,by rw[<-H.o,Al.o,Aq,q9r]⟩;rcases Nat.eq_or_lt_of_le (show k<=j by omega)with h|h
         ·subst h;exact absurd Aq (k5d HS.o)
         ·exact h
        clear E;go_wp2
        go_roundw
        case rel=>exact⟨j,Aa.o.1,by omega,by go_num,by trivial,Aa.o.2⟩
        case measure=>simp[intOf]
       | false=>
        have A1:((s[j].toNat:Int)==32)=false:=by rw[show(32:Int)=((32:Nat):Int)from rfl,q5z _ 32 (by decide)];exact E
        have Aa:Hid (((btL s).drop k).take (j+1-k)=W):=by
         show _=_;rw[<-H.o,Al.o,q2r _ (by simpa using E)]
        have Bs:∀WW:World,(Instr.slice 9 (.string s) (some (.int .i64 (k:Int))) (some (.int .i64 ((j:Int)+1))) none).run prog WW=.ok (.string (wbS W)) WW:=fun WW=>by
         have h9:=v4y s k (j+1) (by omega) (by omega) WW;rw[Aa.o,show((j+1:Nat):Int)=(j:Int)+1 by omega]at h9;exact h9
        clear E;obtain⟨i0,A2,Be,Bf,Bg⟩:=info_parts z0t;have Bt:=O.o.b.size;go_wp2_with(at_builtin;refine wpList_append_lies _ rfl _ _ 58 rfl w.heap.size 9 i0 _ 1 16 Tryz.underlying58 A2 Be Bf Bg rfl (by decide) _ _ _ rfl (World.ownsRow.alloc O.o.ws _) ⟨wr,0,none⟩ 1 1 [.string (wbS W)] rfl rfl (cell_one_new wr _ _) (by intro u hu;simp at hu;subst hu;rfl) (by decide) (by unfold maxLen;omega) (by omega) (by simp;omega) (wr.heap.size+1) (by simp) ?_);intro Y S r g K Ao At;have Ag:=(O.o.b.alloc (by omega) (.cells #[.string (wbS W)] 9)).grown K (by simp;omega) (fun j hj=>(World.ownsRow.lt O.o.ws j hj).1);have z:=(show Hid (Below _ _ _)from Ag);have Af:Hid (r.ownsRow w.heap.size 3 1 (.slice P D.length y) D.length (q2h (D.map (·.1)))):=z2c (World.ownsRow.alloc O.o.ps _) (World.ownsRow.alloc O.o.ws _) (by decide) K;have Ay:=(show Hid (r.ownsRow _ _ _ _ _ _)from g);have Br:=Ag.size;clear g K Ag Ao At;obtain⟨i1,A3,Bb,Bc,Bd⟩:=info_parts z2n;go_wp2_with(at_builtin;refine wpList_append_lies _ rfl _ _ 45 rfl w.heap.size 3 i1 _ 1 8 Tryz.underlying45 A3 Bb Bc Bd rfl (by decide) _ _ _ rfl (World.ownsRow.alloc Af.o _) ⟨r,0,none⟩ 1 1 [.int .i64 (k:Int)] rfl rfl (cell_one_new r _ _) (by intro u hu;simp at hu;subst hu;rfl) (by decide) (by unfold maxLen;omega) (by omega) (by simp;omega) (r.heap.size+1) (by simp) ?_);intro g3 U w3 l L Ap Au;have Ar:=(z.o.alloc (by omega) (.cells #[.int .i64 (k:Int)] 3)).grown L (by simp;omega) (fun j hj=>(World.ownsRow.lt Af.o j hj).1);have An:=z2c (World.ownsRow.alloc Ay.o _) (World.ownsRow.alloc Af.o _) (by decide) L
        have hN:q3m s w I (D++[(k,W)]) (some ⟨Y,0,none⟩) (some ⟨g3,0,none⟩) S U w3:=by
         rw[J.o,<-HW.o];refine O.o.word G HS.o Ax.o Ar ?_ ?_
         ·rw[HW.o];exact An
         ·exact l
        have HN:Hid (q3m s w I (D++[(k,W)]) (some ⟨Y,0,none⟩) (some ⟨g3,0,none⟩) S U w3):=hN
        have Aj:Hid (many ((D++[(k,W)]).map (·.2))=mm+(if s[k] != 35 then 1 else 0)):=by
         show _=_;rw[List.map_append];exact Ak.o
        clear l L Ap Au Ar An hN;cases hn:(s[k] != 35)with
        | true=>
         have A8:((s[k].toNat:Int) != 35)=true:=by
          show(!((s[k].toNat:Int)==35))=true
          rw[show(35:Int)=((35:Nat):Int)from rfl,q5z _ 35 (by decide)];exact hn
         have Ae:Hid (many ((D++[(k,W)]).map (·.2))=mm+1):=by show _=_;rw[Aj.o,hn];rfl
         clear hn;go_wp2
         go_roundw
         case rel=>exact⟨I,D++[(k,W)],some ⟨Y,0,none⟩,some ⟨g3,0,none⟩,S,U,by rw[List.length_append];rfl,by rw[List.length_append];rfl,by rw[Ae.o];go_num,by go_num,HN.o⟩
         case measure=>simp[intOf];omega
        | false=>
         have A8:((s[k].toNat:Int) != 35)=false:=by
          show(!((s[k].toNat:Int)==35))=false
          rw[show(35:Int)=((35:Nat):Int)from rfl,q5z _ 35 (by decide)];exact hn
         have Ae:Hid (many ((D++[(k,W)]).map (·.2))=mm):=by show _=_;rw[Aj.o,hn];rfl
         clear hn;go_wp2
         go_roundw
         case rel=>exact⟨I,D++[(k,W)],some ⟨Y,0,none⟩,some ⟨g3,0,none⟩,S,U,by rw[List.length_append];rfl,by rw[List.length_append];rfl,by rw[Ae.o],by go_num,HN.o⟩
         case measure=>simp[intOf];omega
  ·have A6:¬(k:Int)<(s.size:Int):=by omega
   have HX:Hid (lxF (btL s) 0=none/\lxW (btL s) 0=D):=k1j O.o G
   have HL:Hid ((q2c (btL s)).length=D.length/\many (q2c (btL s))=mm):=by
    refine⟨?_,?_⟩
    ·rw[q2c,HX.o.2,List.length_map]
    ·rw[q2c,HX.o.2];exact Ab.o
   by_cases Ad:300<mm
   ·have Ah:(300:Int)<(mm:Int):=by omega
    have HF:Hid (q5u (btL s)=3/\z3f (btL s)=0):=k1g (by rw[q0c];exact Ai) HX.o.1 (by rw[HL.o.2];exact Ad);go_wp2;refine bodyPost_ret (v:=.tuple #[.slice none 0 0,.slice none 0 0,.int .i64 0,.int .i64 3]) (by simp[results,Tryz.results33,go_sem]) rfl ?_;exact⟨.inl ⟨by rw[HF.o.1];decide,by rw[HF.o.1,HF.o.2];rfl⟩,O.o.b⟩
   ·have Ah:¬(300:Int)<(mm:Int):=by omega
    have HF:Hid (q5u (btL s)=0/\z3f (btL s)=0):=k1h (by rw[q0c];exact Ai) HX.o.1 (by rw[HL.o.2];exact Ad);go_wp2;refine bodyPost_ret (v:=.tuple #[.slice A D.length ac,.slice P D.length y,.int .i64 0,.int .i64 0]) (by simp[results,Tryz.results33,go_sem]) rfl ?_;refine⟨.inr ⟨HF.o.1,A,P,ac,y,by rw[HL.o.1],?_,?_⟩,O.o.b⟩
    ·show wr.ownsRow _ _ _ _ _ _;rw[List.length_map,HL.o.1,q2c,HX.o.2,List.map_map];exact O.o.ws
    ·show wr.ownsRow _ _ _ _ _ _;rw[<-z2r,HL.o.1,z1h,HX.o.2];exact O.o.ps
theorem z2y(b o k:Nat):(⟨b,o,none⟩:Addr).add k=⟨b,o+k,none⟩:=by
 unfold Addr.add
 split
 ·rename_i h;subst h;rfl
 ·rfl
theorem k5s{w:World}{E:Array Oper}{C:List Oper}{o:Oper}{a:Act}{Q:Exit->Act->World->Prop}(I:o.guard=none)(s x:Operand)
  (ho:o.op=.call {callee:=.builtin .append,args:=#[s,x],argTypes:=#[58,58]})
  (base:Nat) (v:Value) (xs:List ByteArray) (hs:a.eval s=v) (B:q2g base v xs w)
  (wa:Option Addr) (n:Nat) (ws:List ByteArray) (hn:ws.length=n) (wc:Nat) (hx:a.eval x=.slice wa n wc) (hW:Wds w wa ws) (K:wa=none->n=0/\wc=0)
  (m:Nat) (hm:xs.length+n=m) (hb:m<=1000000) (D:base<=w.heap.size)
  (h:∀A c w',q2g base (.slice A m c) (xs++ws) w'->w.grownBy w' v.ownBlock->wpList prog E Q C (a.put o.dst (.slice A m c)) w'):wpList prog E Q (o::C) a w:=by
 subst hn hm;obtain⟨W,V,P,R,S⟩:=info_parts z0t
 have U:∀G w',q2g base G (xs++ws) w'->w.grownBy w' v.ownBlock->wpList prog E Q C (a.put o.dst G) w':=by
  intro G w' H N
  obtain⟨A,c,rfl⟩:∃A c,G=.slice A (xs.length+ws.length) c:=by
   rcases H.2 with⟨M,L⟩|⟨g,c,X,M,_⟩
   ·rw[List.length_append]at L;exact⟨none,0,by rw[M,L]⟩
   ·rw[List.length_append]at M;exact⟨_,c,M⟩
  exact h A c w' H N
 cases wa with
 | none=>
  obtain⟨L,rfl⟩:=K rfl;obtain rfl:ws=[]:=List.eq_nil_of_length_eq_zero L;refine wpList_append_own_none I s x 58 ho base 9 W 1 Tryz.underlying58 V v xs.length (strCells xs) hs B hx ?_;refine U v w ?_ ⟨rfl,rfl,rfl,Nat.le_refl _,fun _ _ _=>rfl⟩;rw[List.append_nil];exact B
 | some ad=>
  refine wpList_append_own w I s x 58 ho base 9 W _ 1 16 Tryz.underlying58 V P R S rfl (by decide) v xs.length (strCells xs) hs B ad ws.length wc (strCells ws) hx (by simp[strCells]) ?_ ?_ (by unfold maxLen;omega) (by omega) D ?_
  ·intro j u O;have J:j<ws.length:=by have:=(List.getElem?_eq_some_iff.1 O).1;simpa[strCells]using this
   obtain⟨b,o,e,_,c⟩:=hW j J;simp only[Option.some.injEq]at e;subst e;rw[z2y]
   have:u=.string ws[j]:=by simp[strCells,J]at O;exact O.symm
   rw[this];exact c
  ·intro u Y;obtain⟨x,_,rfl⟩:=List.mem_map.1 Y;rfl
  ·intro G w' H N _;rw[<-q2f]at H;refine U G w' ?_ N;show w'.ownsRow _ _ _ _ _ _;rw[List.length_append];exact H
def q2p(ks:List Int):List Value:=ks.map fun k=>.int .i64 k
theorem q9a(a b:List Int):q2p (a++b)=q2p a++q2p b:=by simp[q2p]
def z5p(B:Nat)(v:Value)(ks:List Int)(w:World):Prop:=w.ownsRow B 3 1 v ks.length (q2p ks)
theorem k9o{B:Nat}{w:World}{A:Option Addr}{n c:Nat}{xs:List Int}(h:z5p B (.slice A n c) xs w):q7r w A xs:=by
 intro j I;rcases h.2 with⟨E,L⟩|⟨g,c,H,E,_,G,J,_,K,C⟩
 ·omega
 ·simp only[Value.slice.injEq]at E;obtain⟨rfl,rfl,rfl⟩:=E;refine⟨g,0,rfl,(Array.getElem?_eq_some_iff.1 G).1,?_⟩;have D:(q2p xs)[j]?=some (.int .i64 xs[j]):=by simp[q2p,I]
  rw[<-C]at D;rw[List.getElem?_take_of_lt (by omega)]at D;rw[Nat.zero_add];simp only[World.cell?,G];simpa using D
theorem v1i{w:World}{E:Array Oper}{C:List Oper}{o:Oper}{a:Act}{Q:Exit->Act->World->Prop}(I:o.guard=none)(s x:Operand)
  (ho:o.op=.call {callee:=.builtin .append,args:=#[s,x],argTypes:=#[45,45]})
  (base:Nat) (v:Value) (xs:List Int) (hs:a.eval s=v) (B:z5p base v xs w)
  (wa:Option Addr) (n:Nat) (ws:List Int) (hn:ws.length=n) (wc:Nat) (hx:a.eval x=.slice wa n wc) (hW:q7r w wa ws) (K:wa=none->n=0/\wc=0)
  (m:Nat) (hm:xs.length+n=m) (hb:m<=1000000) (D:base<=w.heap.size)
  (h:∀A c w',z5p base (.slice A m c) (xs++ws) w'->w.grownBy w' v.ownBlock->wpList prog E Q C (a.put o.dst (.slice A m c)) w'):wpList prog E Q (o::C) a w:=by
 subst hn hm;obtain⟨W,V,P,R,S⟩:=info_parts z2n
 have U:∀G w',z5p base G (xs++ws) w'->w.grownBy w' v.ownBlock->wpList prog E Q C (a.put o.dst G) w':=by
  intro G w' H N
  obtain⟨A,c,rfl⟩:∃A c,G=.slice A (xs.length+ws.length) c:=by
   rcases H.2 with⟨M,L⟩|⟨g,c,X,M,_⟩
   ·rw[List.length_append]at L;exact⟨none,0,by rw[M,L]⟩
   ·rw[List.length_append]at M;exact⟨_,c,M⟩
  exact h A c w' H N
 cases wa with
 | none=>
  obtain⟨L,rfl⟩:=K rfl;obtain rfl:ws=[]:=List.eq_nil_of_length_eq_zero L;refine wpList_append_own_none I s x 45 ho base 3 W 1 Tryz.underlying45 V v xs.length (q2p xs) hs B hx ?_;refine U v w ?_ ⟨rfl,rfl,rfl,Nat.le_refl _,fun _ _ _=>rfl⟩;rw[List.append_nil];exact B
 | some ad=>
  refine wpList_append_own w I s x 45 ho base 3 W _ 1 8 Tryz.underlying45 V P R S rfl (by decide) v xs.length (q2p xs) hs B ad ws.length wc (q2p ws) hx (by simp[q2p]) ?_ ?_ (by unfold maxLen;omega) (by omega) D ?_
  ·intro j u O;have J:j<ws.length:=by have:=(List.getElem?_eq_some_iff.1 O).1;simpa[q2p]using this
   obtain⟨b,o,e,_,c⟩:=hW j J;simp only[Option.some.injEq]at e;subst e;rw[z2y]
   have:u=.int .i64 ws[j]:=by simp[q2p,J]at O;exact O.symm
   rw[this];exact c
  ·intro u Y;obtain⟨x,_,rfl⟩:=List.mem_map.1 Y;rfl
  ·intro G w' H N _;rw[<-q9a]at H;refine U G w' ?_ N;show w'.ownsRow _ _ _ _ _ _;rw[List.length_append];exact H
def q1f(ds:List Td):List Value:=ds.flatMap fun x=>[.int .i64 x.op,.string x.tx,.int .i64 x.n]
theorem q7i:∀ds:List Td,(q1f ds).length=ds.length*3
 | []=>rfl
 | x::r=>by
  have:=q7i r
  unfold q1f at this⊢;rw[List.flatMap_cons,List.length_append,this,List.length_cons];simp;omega
theorem z4z(a b:List Td):q1f (a++b)=q1f a++q1f b:=by simp[q1f,List.flatMap_append]
theorem z2i:∀(ds:List Td)(i:Nat)(h:i<ds.length),(q1f ds)[i*3]?=some (.int .i64 ds[i].op)/\(q1f ds)[i*3+1]?=some (.string ds[i].tx)/\(q1f ds)[i*3+2]?=some (.int .i64 ds[i].n)
 | x::r,0,_=>by simp[q1f]
 | x::r,i+1,h=>by
  have h1:=z2i r i (by simpa using h);have e:q1f (x::r)=.int .i64 x.op::.string x.tx::.int .i64 x.n::q1f r:=by simp[q1f]
  rw[e,show(i+1)*3=i*3+1+1+1 by omega];exact h1
theorem z5a(ds:List Td):∀u∈q1f ds,u.oneCell'=true:=by
 intro u B;obtain⟨x,_,A⟩:=List.mem_flatMap.1 B;simp at A;rcases A with rfl|rfl|rfl<;>rfl
theorem k5g(ds:List Td)(j:Nat)(u:Value)(h:(q1f ds)[j]?=some u):∃i,∃hi:i<ds.length,(j=i*3/\u=.int .i64 ds[i].op)\/(j=i*3+1/\u=.string ds[i].tx)\/(j=i*3+2/\u=.int .i64 ds[i].n):=by
 have E:j<ds.length*3:=by rw[<-q7i];exact(List.getElem?_eq_some_iff.1 h).1
 have hi:j / 3<ds.length:=by omega
 obtain⟨A,B,C⟩:=z2i ds (j / 3) hi;refine⟨j / 3,hi,?_⟩;have D:j=j / 3*3\/j=j / 3*3+1\/j=j / 3*3+2:=by omega
 rcases D with e|e|e
 ·rw[<-e,h]at A;exact .inl ⟨e,Option.some.inj A⟩
 ·rw[<-e,h]at B;exact .inr (.inl ⟨e,Option.some.inj B⟩)
 ·rw[<-e,h]at C;exact .inr (.inr ⟨e,Option.some.inj C⟩)
theorem j9r:(prog.info? 47).map (fun i=>(i.zero,i.size,i.bytes))=some (some (.agg #[.int .i64 0,.string ⟨#[]⟩,.int .i64 0]),3,32):=by kernel_rfl
theorem k4w{B:Nat}{w:World}{a:Option Addr}{n cap:Nat}{ds:List Td}(h:w.ownsRow B 47 3 (.slice a n cap) ds.length (q1f ds)):n=ds.length/\ds.length<=cap/\Tds w a ds:=by
 rcases h.2 with⟨D,H⟩|⟨g,c,M,D,_,L,K,_,P,C⟩
 ·simp only[Value.slice.injEq]at D;obtain⟨rfl,rfl,rfl⟩:=D;refine⟨H.symm,by omega,fun i hi=>?_⟩;omega
 ·simp only[Value.slice.injEq]at D;obtain⟨rfl,rfl,rfl⟩:=D;refine⟨rfl,K,fun i hi=>?_⟩
  have J:g<w.heap.size:=by
   rcases Nat.lt_or_ge g w.heap.size with G|G
   ·exact G
   ·simp[Array.getElem?_eq_none G]at L
  have A:∀k u,(q1f ds)[k]?=some u->w.cell? ⟨g,k,none⟩=some u:=by
   intro k u E;rw[<-C]at E
   have I:k<ds.length*3:=by
    have:=(List.getElem?_eq_some_iff.1 E).1
    simp at this;omega
   rw[List.getElem?_take_of_lt I]at E;simp only[World.cell?,L];simpa using E
  obtain⟨H,N,O⟩:=z2i ds i hi;refine⟨g,0,rfl,J,?_,?_,?_⟩
  ·rw[Nat.zero_add];exact A _ _ H
  ·rw[Nat.zero_add];exact A _ _ N
  ·rw[Nat.zero_add];exact A _ _ O
theorem k7w{w:World}{b o:Nat}{ds:List Td}(h:Tds w (some ⟨b,o,none⟩) ds):∀j u,(q1f ds)[j]?=some u->w.cell? ((⟨b,o,none⟩:Addr).add j)=some u:=by
 intro j u H;obtain⟨i,G,E⟩:=k5g ds j u H;obtain⟨I,J,e,_,A,B,C⟩:=h i G;simp only[Option.some.injEq,Addr.mk.injEq,and_true]at e;obtain⟨rfl,rfl⟩:=e
 have D:∀k,(⟨b,o,none⟩:Addr).add k=⟨b,o+k,none⟩:=by
  intro k;unfold Addr.add
  split
  ·rename_i h;subst h;rfl
  ·rfl
 rw[D];rcases E with⟨rfl,rfl⟩|⟨rfl,rfl⟩|⟨rfl,rfl⟩
 ·exact A
 ·rw[show o+(i*3+1)=o+i*3+1 by omega];exact B
 ·rw[show o+(i*3+2)=o+i*3+2 by omega];exact C
def q0w(B:Nat)(v:Value)(xs:List Td)(w:World):Prop:=w.ownsRow B 47 3 v xs.length (q1f xs)
theorem q0w.tds{B:Nat}{w:World}{A:Option Addr}{n c:Nat}{xs:List Td}(h:q0w B (.slice A n c) xs w):Tds w A xs:=(k4w h).2.2
theorem q0w.none{B:Nat}{w:World}{A:Option Addr}{n c:Nat}{xs:List Td}(h:q0w B (.slice A n c) xs w):n=xs.length/\(A=none->n=0/\c=0):=by
 rcases h.2 with⟨C,E⟩|⟨g,G,D,C,_⟩
 ·simp only[Value.slice.injEq]at C;obtain⟨rfl,rfl,rfl⟩:=C;exact⟨E.symm,fun _=>⟨rfl,rfl⟩⟩
 ·simp only[Value.slice.injEq]at C;obtain⟨rfl,rfl,rfl⟩:=C;exact⟨rfl,fun e=>by cases e⟩
theorem q4k{w:World}{G:Array Oper}{C:List Oper}{o:Oper}{a:Act}{Q:Exit->Act->World->Prop}(J:o.guard=none)(s x:Operand)
  (ho:o.op=.call {callee:=.builtin .append,args:=#[s,x],argTypes:=#[22,22]})
  (base:Nat) (v:Value) (xs:List Td) (hs:a.eval s=v) (B:q0w base v xs w)
  (wa:Option Addr) (n:Nat) (ws:List Td) (hn:ws.length=n) (wc:Nat) (hx:a.eval x=.slice wa n wc) (hW:Tds w wa ws) (K:wa=none->n=0/\wc=0)
  (m:Nat) (hm:xs.length+n=m) (hb:m<=1000000) (E:base<=w.heap.size)
  (h:∀A c w',q0w base (.slice A m c) (xs++ws) w'->w.grownBy w' v.ownBlock->wpList prog G Q C (a.put o.dst (.slice A m c)) w'):wpList prog G Q (o::C) a w:=by
 subst hn hm;obtain⟨V,U,O,P,R⟩:=info_parts j9r
 have S:∀H w',q0w base H (xs++ws) w'->w.grownBy w' v.ownBlock->wpList prog G Q C (a.put o.dst H) w':=by
  intro H w' I M
  obtain⟨A,c,rfl⟩:∃A c,H=.slice A (xs.length+ws.length) c:=by
   rcases I.2 with⟨L,D⟩|⟨g,c,W,L,_⟩
   ·rw[List.length_append]at D;exact⟨.none,0,by rw[L,D]⟩
   ·rw[List.length_append]at L;exact⟨_,c,L⟩
  exact h A c w' I M
 cases wa with
 | none=>
  obtain⟨D,rfl⟩:=K rfl;obtain rfl:ws=[]:=List.eq_nil_of_length_eq_zero D;refine wpList_append_own_none J s x 22 ho base 47 V 3 Tryz.underlying22 U v xs.length (q1f xs) hs B hx ?_;refine S v w ?_ ⟨rfl,rfl,rfl,Nat.le_refl _,fun _ _ _=>rfl⟩;rw[List.append_nil];exact B
 | some ad=>
  have N:ws=[]\/∃b o,ad=⟨b,o,Option.none⟩:=by
   rcases Nat.eq_zero_or_pos ws.length with D|D
   ·exact .inl (List.eq_nil_of_length_eq_zero D)
   ·obtain⟨b,o,e,_⟩:=hW 0 D;exact .inr ⟨b,o,by simpa using e⟩
  refine wpList_append_own w J s x 22 ho base 47 V _ 3 32 Tryz.underlying22 U O P R rfl (by decide) v xs.length (q1f xs) hs B ad ws.length wc (q1f ws) hx (q7i ws) ?_ (z5a ws) (by unfold maxLen;omega) (by omega) E ?_
  ·rcases N with rfl|⟨b,o,rfl⟩
   ·intro j u X;simp[q1f]at X
   ·exact k7w hW
  ·intro H w' I M _;rw[<-z4z]at I;refine S H w' ?_ M;show w'.ownsRow _ _ _ _ _ _;rw[List.length_append];exact I
theorem q0w.down{B B':Nat}{v:Value}{xs:List Td}{w:World}(h:q0w B v xs w)(hB:B'<=B):q0w B' v xs w:=by
 refine⟨h.1,?_⟩;rcases h.2 with D|⟨g,c,C,E,G,A⟩
 ·exact .inl D
 ·exact .inr ⟨g,c,C,E,by omega,A⟩
theorem q0w.kept{B:Nat}{v:Value}{xs:List Td}{w w':World}(h:q0w B v xs w)(hk:∀g,B<=g->g<w.heap.size->w'.heap[g]?=w.heap[g]?):q0w B v xs w':=by
 refine⟨h.1,?_⟩;rcases h.2 with G|⟨g,c,C,H,D,E,A⟩
 ·exact .inl G
 ·exact .inr ⟨g,c,C,H,D,(hk g D (Array.getElem?_eq_some_iff.1 E).1).trans E,A⟩
theorem q0w.one(w:World)(x:Td):q0w w (.slice (some ⟨w.heap.size,0,Option.none⟩) 1 1) [x] (w.alloc (.cells #[.int .i64 x.op,.string x.tx,.int .i64 x.n] 47)):=by
 have A:(w.alloc (.cells #[.int .i64 x.op,.string x.tx,.int .i64 x.n] 47)).heap[w.heap.size]?=some (.cells #[.int .i64 x.op,.string x.tx,.int .i64 x.n] 47 (0,0)):=by
  show(w.heap.push _)[w.heap.size]?=_
  simp
 exact⟨rfl,.inr ⟨w.heap.size,1,_,rfl,Nat.le_refl _,A,Nat.le_refl _,by unfold maxLen;decide,rfl,rfl⟩⟩
def Prg(w:World)(a:Option Addr)(ps:List (List Td)):Prop:=
 ∀i(h:i<ps.length),∃b o a' c',a=some ⟨b,o,none⟩/\b<w.heap.size/\w.cell? ⟨b,o+i,none⟩=some (.slice a' ps[i].length c')/\ps[i].length<=c'/\Tds w a' ps[i]
theorem Prg.W{w w':World}{a:Option Addr}{ps:List (List Td)}(h:Prg w a ps)(hb:Below w w w'):Prg w' a ps:=by
 intro i H;obtain⟨b,o,B,C,e,A,D,E,G⟩:=h i H
 have:=hb.size
 exact⟨b,o,B,C,e,by omega,((q1y hb).1 _ _ A).trans D,E,G.W hb⟩
theorem Prg.nil(w:World)(a:Option Addr):Prg w a []:=fun i hi=>by simp at hi
end Go.Proofs.YtfdppahhbpfnoaaGreatDoor
