import Derived.Test.YthcpdohdppkmkaaGreatDoorPl19
import Derived.Deep.CutBlock
import Derived.Lib.Bytealg
import Derived.Lib.IndexLaws
import Derived.OwnWalkIn
import Derived.TacticsInMore
import Derived.Lib.IndexBytes
import Derived.Shelf.RegionOpen
open Go.Proofs.Tryz
namespace Go.Proofs.YthcpdohdppkmkaaGreatDoor
open Go Go.RowKit
set_option maxRecDepth 100000
set_option maxHeartbeats 8000000
structure q3j(s:ByteArray)(w:World)(i:Nat)(dn:List (Nat × List UInt8))(A P:Option Addr)(ac pc:Nat)(wr:World):Prop where
 b:Below w w wr
 le:i<=s.size
 ln:dn.length<=i
 eq:lx (btL s) 0=(dn++lxW ((btL s).drop i) i,lxF ((btL s).drop i) i)
 ws:wr.ownsRow w.heap.size 9 1 (.slice A dn.length ac) dn.length (strCells (dn.map fun x=>wbS x.2))
 ps:wr.ownsRow w.heap.size 3 1 (.slice P dn.length pc) dn.length (q2g (dn.map (·.1)))
theorem q3j.space{s:ByteArray}{w:World}{i:Nat}{dn:List (Nat × List UInt8)}{A P:Option Addr}{ac pc:Nat}{wr:World}(h:q3j s w i dn A P ac pc wr)(hi:i<s.size)(hs:spB s[i]=true):q3j s w (i+1) dn A P ac pc wr:=by
 have e:=h.eq;rw[q1i hi,lxW,lxF,j6p _ _ hs]at e;exact{b:=h.b,le:=hi,ln:=by have:=h.ln;omega,eq:=e,ws:=h.ws,ps:=h.ps}
theorem k1h{s:ByteArray}{w:World}{i:Nat}{dn:List (Nat × List UInt8)}{A P:Option Addr}{ac pc:Nat}{wr:World}(h:q3j s w i dn A P ac pc wr)(hi:i<s.size)(hs:spB s[i]=false)(ho:tOk s i=false):lxF (btL s) 0=some i:=by
 have e:=h.eq;rw[tOk,q1i hi]at ho;rw[q1i hi,lxW,lxF,k7b _ hs ho]at e;rw[lxF,e]
theorem q3j.word{s:ByteArray}{w:World}{i:Nat}{dn:List (Nat × List UInt8)}{A P:Option Addr}{ac pc:Nat}{wr:World}(h:q3j s w i dn A P ac pc wr)(hi:i<s.size)(hs:spB s[i]=false)(ho:tOk s i=true){A' P':Option Addr}{B C:Nat}{w':World}(hb:Below w w w')
  (h1:w'.ownsRow w.heap.size 9 1 (.slice A' (dn.length+1) B) (dn.length+1) (strCells (dn.map fun x=>wbS x.2)++[.string (wbS (tkW ((btL s).drop i)))])) (h2:w'.ownsRow w.heap.size 3 1 (.slice P' (dn.length+1) C) (dn.length+1) (q2g (dn.map (·.1))++[.int .i64 (i:Int)])):
  q3j s w (i+z2e s i) (dn++[(i,tkW ((btL s).drop i))]) A' P' B C w':=by
 have e:=h.eq;have D:=y9w hi;have H:((btL s).drop i).drop (z2e s i)=(btL s).drop (i+z2e s i):=by rw[List.drop_drop]
 have E:q6o (s[i]::(btL s).drop (i+1))=true:=by rw[<-q1i hi];exact ho
 have G:lx ((btL s).drop i) i=((i,tkW ((btL s).drop i))::lxW ((btL s).drop (i+z2e s i)) (i+z2e s i),lxF ((btL s).drop (i+z2e s i)) (i+z2e s i)):=by
  rw[<-H,z2e,q1i hi];exact k7c i hs E
 rw[lxW,lxF,G]at e;refine{b:=hb,le:=D.2,ln:=by have:=h.ln;simp;omega,eq:=by rw[e];simp,ws:=?_,ps:=?_}
 ·rw[List.length_append,List.map_append,q2f];exact h1
 ·rw[List.length_append,List.map_append,z2n];exact h2
theorem v5y{c:UInt8}(h:spB c=true):((c.toNat:Int)==32)=true\/(((c.toNat:Int)==32)=false/\((c.toNat:Int)==10)=true):=by
 have B:=q5w c 32 (by decide);have C:=q5w c 10 (by decide);simp only[spB,Bool.or_eq_true]at h;by_cases A:c=32
 ·exact .inl (by rw[show(32:Int)=((32:Nat):Int)from rfl,B];simp[A])
 ·refine .inr ⟨by rw[show(32:Int)=((32:Nat):Int)from rfl,B];simpa using A,?_⟩;rw[show(10:Int)=((10:Nat):Int)from rfl,C];rcases h with h|h
  ·exact absurd (beq_iff_eq.1 h) A
  ·exact h
theorem y6h{c:UInt8}(h:spB c=false):((c.toNat:Int)==32)=false/\((c.toNat:Int)==10)=false:=by
 have A:=q5w c 32 (by decide);have B:=q5w c 10 (by decide);simp only[spB,Bool.or_eq_false_iff]at h;exact⟨by rw[show(32:Int)=((32:Nat):Int)from rfl,A];exact h.1,by rw[show(10:Int)=((10:Nat):Int)from rfl,B];exact h.2⟩
theorem k6n{s:ByteArray}{k kk q:Nat}{B:k<s.size}(A:kk=k+z2e s k)(ht:z2e s k=twN q2a s (k+1)+1/\tOk s k=(decide (twN q2a s (k+1)+1<=6)&&(s[k] != 48||twN q2a s (k+1)==0)))(hq:twN q2a s (k+1)+1=q-k):kk=q/\tOk s k=(decide (q-k<=6)&&(s[k] != 48||q-k==1)):=by
 refine⟨by omega,?_⟩;rw[ht.2,hq]
 congr 2
 rw[Bool.eq_iff_iff,beq_iff_eq,beq_iff_eq];omega
theorem v5k(c:UInt8):((c.toNat:Int)<32/\Hid (prB c=false))\/(¬(c.toNat:Int)<32/\126<(c.toNat:Int)/\Hid (prB c=false))\/(¬(c.toNat:Int)<32/\¬126<(c.toNat:Int)/\Hid (prB c=true)):=by
 by_cases A:(c.toNat:Int)<32
 ·exact .inl ⟨A,by show prB c=false;simp[prB];omega⟩
 ·by_cases B:126<(c.toNat:Int)
  ·exact .inr (.inl ⟨A,B,by show prB c=false;simp[prB];omega⟩)
  ·exact .inr (.inr ⟨A,B,by show prB c=true;simp[prB];omega⟩)
theorem v9m(a b:UInt8):((a.toNat:Int)==(b.toNat:Int))=(a==b):=by
 rw[Bool.eq_iff_iff,beq_iff_eq,beq_iff_eq];constructor
 ·intro h;exact UInt8.toNat_inj.1 (by omega)
 ·intro h;rw[h]
theorem k9u(c:UInt8){q:Nat}(h:q<9):(k4i.take (q+1)).any (·==c)=((k4i.take q).any (·==c)||((⟨#[40,41,91,93,44,43,42,61,59]⟩:ByteArray)[q]'h==c)):=by
 have A:q<k4i.length:=h;rw[List.take_succ_eq_append_getElem A,List.any_append];simp only[List.any_cons,List.any_nil,Bool.or_false];rfl
theorem k6m{t:Bool}{k q:Nat}{c:UInt8}(h:k+1<=q)(ht:t=(decide (q-k<=6)&&(c != 48||q-k==1))):(¬(q:Int)-(k:Int)<=6/\Hid (t=false))\/(((q:Int)-(k:Int)<=6)/\((c.toNat:Int) != 48)=true/\Hid (t=true))
  \/(((q:Int)-(k:Int)<=6)/\((c.toNat:Int) != 48)=false/\((q:Int)==(k:Int)+1)=true/\Hid (t=true))\/(((q:Int)-(k:Int)<=6)/\((c.toNat:Int) != 48)=false/\((q:Int)==(k:Int)+1)=false/\Hid (t=false)):=by
 have G:=q5w c 48 (by decide)
 have A:((c.toNat:Int) != 48)=(c != 48):=by
  show(!((c.toNat:Int)==48))=(!(c==48))
  rw[show(48:Int)=((48:Nat):Int)from rfl,G];rfl
 by_cases E:q-k<=6
 ·have C:decide (q-k<=6)=true:=decide_eq_true E;cases B:(c != 48)with
  | true=>exact .inr (.inl ⟨by omega,by rw[A];exact B,by show t=true;rw[ht,C,B];rfl⟩)
  | false=>
   by_cases H:q=k+1
   ·have D:(q-k==1)=true:=by rw[beq_iff_eq];omega
    exact .inr (.inr (.inl ⟨by omega,by rw[A];exact B,by rw[beq_iff_eq];omega,by show t=true;rw[ht,C,B,D];rfl⟩))
   ·have D:(q-k==1)=false:=by rw[beq_eq_false_iff_ne];omega
    exact .inr (.inr (.inr ⟨by omega,by rw[A];exact B,by rw[beq_eq_false_iff_ne];omega,by show t=false;rw[ht,C,B,D];rfl⟩))
 ·exact .inl ⟨by omega,by show t=false;rw[ht,decide_eq_false E];rfl⟩
theorem k6v{L:List UInt8}{k:Nat}(h:L.length<=60000)(hf:lxF L 0=some k):q5o L=5/\z3c L=k:=by
 have e:q5o L=5:=by rw[q5o,if_neg (by omega),hf];rfl
 exact⟨e,by rw[z3c,if_pos e,hf];rfl⟩
theorem k1f{L:List UInt8}(h:L.length<=60000)(hf:lxF L 0=none)(hm:300<many (q2m L)):q5o L=3/\z3c L=0:=by
 have e:q5o L=3:=by rw[q5o,if_neg (by omega),hf,if_neg (by simp),if_pos hm]
 exact⟨e,by rw[z3c,e];rfl⟩
theorem k1g{L:List UInt8}(h:L.length<=60000)(hf:lxF L 0=none)(hm:¬300<many (q2m L)):q5o L=0/\z3c L=0:=by
 have e:q5o L=0:=by rw[q5o,if_neg (by omega),hf,if_neg (by simp),if_neg hm]
 exact⟨e,by rw[z3c,e];rfl⟩
theorem k1e{L:List UInt8}(h:60000<L.length):q5o L=3/\z3c L=0:=by
 have e:q5o L=3:=by rw[q5o,if_pos h]
 exact⟨e,by rw[z3c,e];rfl⟩
theorem k1i{s:ByteArray}{w:World}{i:Nat}{dn:List (Nat × List UInt8)}{A P:Option Addr}{ac pc:Nat}{wr:World}(h:q3j s w i dn A P ac pc wr)(hi:¬i<s.size):lxF (btL s) 0=none/\lxW (btL s) 0=dn:=by
 have e:=h.eq;rw[List.drop_eq_nil_of_le (by rw[q0b];omega),lxW,lxF,z4i,List.append_nil]at e;rw[lxF,lxW,e];exact⟨rfl,rfl⟩
theorem k7e{s:ByteArray}{k:Nat}(h:k<s.size)(hs:spB s[k]=false):many [tkW ((btL s).drop k)]=if s[k] != 35 then 1 else 0:=by
 have C:∃z,tkW ((btL s).drop k)=s[k]::z:=by
  rw[tkW,q1i h];have E:=q5i s[k] ((btL s).drop (k+1));obtain⟨m,D⟩:∃m,q1d (s[k]::(btL s).drop (k+1))=m+1:=⟨_,(Nat.sub_add_cancel E).symm⟩;rw[D,List.take_succ_cons];exact z2h (k5e hs) _
 obtain⟨z,G⟩:=C;rw[G];have B:y9u (s[k]::z)=(s[k] != 35):=rfl;cases A:(s[k] != 35)with
 | true=>rw[many,List.filter_cons_of_pos (by rw[B];exact A)];rfl
 | false=>rw[many,List.filter_cons_of_neg (by rw[B,A];decide)];rfl
theorem j1a{s:ByteArray}{k j:Nat}(h:k<=j)(hj:j<s.size):((btL s).drop k).take (j+1-k)=((btL s).drop k).take (j-k)++[s[j]]:=by
 have e:j+1-k=(j-k)+1:=by omega
 have B:j-k<((btL s).drop k).length:=by rw[List.length_drop,q0b];omega
 rw[e,List.take_succ_eq_append_getElem B]
 congr 2
 rw[List.getElem_drop];have A:k+(j-k)=j:=by omega
 simp only[A];rfl
theorem v5x(s:ByteArray)(i e:Nat)(h1:i<=e)(h2:e<=s.size)(W:World):(Instr.slice 9 (.string s) (some (.int .i64 (i:Int))) (some (.int .i64 ((e:Nat):Int))) none).run prog W=.ok (.string (wbS (((btL s).drop i).take (e-i)))) W:=by
 have h:=run_slice_string (P:=prog) (w:=W) 9 s .i64 .i64 (i:Int) (e:Int) Tryz.underlying9 (by omega) (by omega) (by omega);rw[Int.toNat_natCast,Int.toNat_natCast,q9p]at h;exact h
def j1s(s:ByteArray)(w:World)(e:Ending)(w':World):Prop:=
 (q5o (btL s)≠0/\e=.returned (.tuple #[.slice none 0 0,.slice none 0 0,.int .i64 ((z3c (btL s):Nat):Int),.int .i64 (q5o (btL s))]))\/
 (q5o (btL s)=0/\∃A P ac pc,e=.returned (.tuple #[.slice A (q2m (btL s)).length ac,.slice P (q2m (btL s)).length pc,.int .i64 0,.int .i64 0])/\q1x w (.slice A (q2m (btL s)).length ac) ((q2m (btL s)).map wbS) w'/\z1g w.heap.size (.slice P (q2m (btL s)).length pc) (z1z (btL s)) w')
theorem j5n(s:ByteArray)(w:World)(hl:(btL s).length<=60000):
  Calls prog 33 #[.string s] w fun e w'=>j1s s w e w'/\Below w w w':=by
 have Ai:s.size<=60000:=by rw[<-q0b];exact hl
 clear hl;have Bh:¬60000<(s.size:Int):=by omega
 go_in;go_wp2
 go_loopw [6,7,8,9] (fun x p m i wr=>∃(k:Nat)(D:List (Nat × List UInt8))(A P:Option Addr)(ac y:Nat),x=.slice A D.length ac/\p=.slice P D.length y/\m=.int .i64 ((many (D.map (·.2)):Nat):Int)/\i=.int .i64 (k:Int)/\q3j s w k D A P ac y wr) (fun _ _ _ i _=>s.size-(intOf i).toNat)
 case atStart=>exact⟨0,[],none,none,0,0,rfl,rfl,rfl,rfl,{b:=Below.refl _ _,le:=Nat.zero_le _,ln:=Nat.le_refl _,eq:=rfl,ws:=World.ownsRow_nil _ _ _ _,ps:=World.ownsRow_nil _ _ _ _}⟩
 case round=>
  obtain⟨k,D,A,P,ac,y,rfl,rfl,rfl,rfl,hR⟩:=hrel;have O:Hid (q3j s w k D A P ac y wr):=hR;have Bn:=hR.le;have Bo:=hR.ln
  have A7:many (D.map (·.2))<=60000:=by
   have h1:many (D.map (·.2))<=(D.map (·.2)).length:=List.length_filter_le _ _;rw[List.length_map]at h1;omega
  clear hR;generalize Av:many (D.map (·.2))=mm at A7;have Ab:Hid (many (D.map (·.2))=mm):=Av;clear Av;by_cases G:k<s.size
  ·have A6:(k:Int)<(s.size:Int):=by omega
   cases hs:spB s[k]with
   | true=>
    have HN:Hid (q3j s w (k+1) D A P ac y wr):=O.o.space G hs;rcases v5y hs with h1|⟨h1,h2⟩
    ·clear hs;go_wp2
     go_roundw
     case rel=>exact⟨k+1,D,A,P,ac,y,rfl,rfl,by rw[Ab.o],by go_num,HN.o⟩
     case measure=>simp[intOf];omega
    ·clear hs;go_wp2
     go_roundw
     case rel=>exact⟨k+1,D,A,P,ac,y,rfl,rfl,by rw[Ab.o],by go_num,HN.o⟩
     case measure=>simp[intOf];omega
   | false=>
    obtain⟨h1,h2⟩:=y6h hs;have HS:Hid (spB s[k]=false):=hs;obtain⟨A9,Ba⟩:=y9w G;obtain⟨I,As⟩:∃I,I=k+z2e s k:=⟨_,rfl⟩;have J:Hid (I=k+z2e s k):=As;have A5:k+1<=I:=by omega
    have Bm:I<=s.size:=by omega
    clear hs As A9 Ba
    go_upto_block 2 with(first|(go_at_call 74;refine(q6h _ _).mono ?_;rintro e r⟨rfl,rfl⟩)|(go_at_call 75;refine(q2h _ _).mono ?_;rintro e r⟨rfl,rfl⟩))
    go_cut [11,12,13,14] (fun x ok _ _ wx=>x=.int .i64 (I:Int)/\ok=.bool (tOk s k)/\wx=wr)
    case first=>
     cases M:q2j s[k]with
     | true=>
      obtain⟨c,d⟩:=y9h G M;have R:Hid (z2e s k=twN q2j s (k+1)+1/\tOk s k=decide (twN q2j s (k+1)+1<=8)):=⟨c,d⟩;clear c d M;go_wp2
      go_loopw [11] (fun x wx=>∃q:Nat,k+1<=q/\q<=s.size/\x=.int .i64 (q:Int)/\wx=wr/\(k+1)+twN q2j s (k+1)=q+twN q2j s q) (fun x _=>s.size-(intOf x).toNat)
      case atStart=>exact⟨k+1,Nat.le_refl _,by omega,by go_num,rfl,rfl⟩
      case round=>
       obtain⟨q,n,Aw,rfl,rfl,hq⟩:=hrel;have a:Hid ((k+1)+twN q2j s (k+1)=q+twN q2j s q):=hq;clear hq;by_cases C:q<s.size
       ·have Q:(q:Int)<(s.size:Int):=by omega
        cases E:q2j s[q]with
        | true=>
         have Z:Hid (q2j s[q]=true):=E
         have B:Hid ((k+1)+twN q2j s (k+1)=(q+1)+twN q2j s (q+1)):=by
          have h3:=z9q C E;have h4:=a.o;show _=_;omega
         clear E;go_wp2_with(go_at_call 74;refine(q6h _ _).mono ?_;rintro e r⟨rfl,rfl⟩;rw[Z.o])
         go_roundw
         case rel=>exact⟨q+1,by omega,by omega,by go_num,by trivial,B.o⟩
         case measure=>simp[intOf];omega
        | false=>
         have Z:Hid (q2j s[q]=false):=E
         have B:Hid (I=q/\tOk s k=decide ((q:Int)-(k:Int)<=8)):=by
          have h3:=k8f C E;have h4:=a.o;have h5:=J.o;have h6:=R.o.1;refine⟨by omega,?_⟩;rw[R.o.2]
          congr 1
          apply propext;omega
         clear E;go_wp2_with(go_at_call 74;refine(q6h _ _).mono ?_;rintro e r⟨rfl,rfl⟩;rw[Z.o])
         go_meet
         exact⟨by rw[B.o.1],by rw[B.o.2],rfl⟩
       ·have Q:¬(q:Int)<(s.size:Int):=by omega
        have B:Hid (I=q/\tOk s k=decide ((q:Int)-(k:Int)<=8)):=by
         have h3:=z9p (p:=q2j) C;have h4:=a.o;have h5:=J.o;have h6:=R.o.1;refine⟨by omega,?_⟩;rw[R.o.2]
         congr 1
         apply propext;omega
        go_wp2
        go_meet
        exact⟨by rw[B.o.1],by rw[B.o.2],rfl⟩
     | false=>
      cases V:q2a s[k]with
      | true=>
       obtain⟨c,d⟩:=y9g G M V;have R:Hid (z2e s k=twN q2a s (k+1)+1/\tOk s k=(decide (twN q2a s (k+1)+1<=6)&&(s[k] != 48||twN q2a s (k+1)==0))):=⟨c,d⟩;clear c d M V;go_wp2
       go_loopw [11] (fun x wx=>∃q:Nat,k+1<=q/\q<=s.size/\x=.int .i64 (q:Int)/\wx=wr/\(k+1)+twN q2a s (k+1)=q+twN q2a s q) (fun x _=>s.size-(intOf x).toNat)
       case atStart=>exact⟨k+1,Nat.le_refl _,by omega,by go_num,rfl,rfl⟩
       case round=>
        obtain⟨q,n,Aw,rfl,rfl,hq⟩:=hrel;have a:Hid ((k+1)+twN q2a s (k+1)=q+twN q2a s q):=hq;clear hq;by_cases C:q<s.size
        ·have Q:(q:Int)<(s.size:Int):=by omega
         cases E:q2a s[q]with
         | true=>
          have Z:Hid (q2a s[q]=true):=E
          have B:Hid ((k+1)+twN q2a s (k+1)=(q+1)+twN q2a s (q+1)):=by
           have h3:=z9q C E;have h4:=a.o;show _=_;omega
          clear E;go_wp2_with(go_at_call 75;refine(q2h _ _).mono ?_;rintro e r⟨rfl,rfl⟩;rw[Z.o])
          go_roundw
          case rel=>exact⟨q+1,by omega,by omega,by go_num,by trivial,B.o⟩
          case measure=>simp[intOf];omega
         | false=>
          have Z:Hid (q2a s[q]=false):=E
          have o:twN q2a s (k+1)+1=q-k:=by
           have h3:=k8f C E;have h4:=a.o;omega
          have B:Hid (I=q/\tOk s k=(decide (q-k<=6)&&(s[k] != 48||q-k==1))):=k6n J.o R.o o;clear E o;rcases k6m n B.o.2 with⟨t,H⟩|⟨t,Y,H⟩|⟨t,Y,g3,H⟩|⟨t,Y,g3,H⟩
          all_goals
           go_wp2_with(go_at_call 75;refine(q2h _ _).mono ?_;rintro e r⟨rfl,rfl⟩;rw[Z.o])
           go_meet
           exact⟨by rw[B.o.1],by rw[H.o],rfl⟩
        ·have Q:¬(q:Int)<(s.size:Int):=by omega
         have o:twN q2a s (k+1)+1=q-k:=by
          have h3:=z9p (p:=q2a) C;have h4:=a.o;omega
         have B:Hid (I=q/\tOk s k=(decide (q-k<=6)&&(s[k] != 48||q-k==1))):=k6n J.o R.o o;clear o;rcases k6m n B.o.2 with⟨t,H⟩|⟨t,Y,H⟩|⟨t,Y,g3,H⟩|⟨t,Y,g3,H⟩
         all_goals
          go_wp2
          go_meet
          exact⟨by rw[B.o.1],by rw[H.o],rfl⟩
      | false=>
       cases X:(s[k]==35)with
       | true=>
        obtain⟨c,d⟩:=y6n G M V X;have R:Hid (z2e s k=twN nlB s (k+1)+1/\tOk s k=prN s (k+1)):=⟨c,d⟩;have A0:((s[k].toNat:Int)==35)=true:=by rw[show(35:Int)=((35:Nat):Int)from rfl,q5w _ 35 (by decide)];exact X
        clear c d M V X;go_wp2
        go_loopw [11,12] (fun x ok wx=>∃(q:Nat)(b:Bool),k+1<=q/\q<=s.size/\x=.int .i64 (q:Int)/\ok=.bool b/\wx=wr/\(k+1)+twN nlB s (k+1)=q+twN nlB s q/\tOk s k=(b&&prN s q)) (fun x _ _=>s.size-(intOf x).toNat)
        case atStart=>exact⟨k+1,true,Nat.le_refl _,by omega,by go_num,rfl,rfl,rfl,by rw[R.o.2];rfl⟩
        case round=>
         obtain⟨q,b,n,Aw,rfl,rfl,rfl,hq,E⟩:=hrel;have a:Hid ((k+1)+twN nlB s (k+1)=q+twN nlB s q):=hq;have Z:Hid (tOk s k=(b&&prN s q)):=E;clear hq E;by_cases C:q<s.size
         ·have Q:(q:Int)<(s.size:Int):=by omega
          cases N:nlB s[q]with
          | true=>
           have Az:((s[q].toNat:Int) != 10)=true:=by
            show(!((s[q].toNat:Int)==10))=true
            rw[show(10:Int)=((10:Nat):Int)from rfl,q5w _ 10 (by decide)];exact N
           have B:Hid ((k+1)+twN nlB s (k+1)=(q+1)+twN nlB s (q+1)):=by
            have h3:=z9q C N;have h4:=a.o;show _=_;omega
           have z:Hid (tOk s k=(b&&(prB s[q]&&prN s (q+1)))):=by
            show _=_;rw[Z.o,y2o C N]
           clear N;rcases v5k s[q]with⟨t,H⟩|⟨t,Y,H⟩|⟨t,Y,H⟩
           all_goals
            go_wp2
            go_roundw
            case rel=>
             first
              | exact⟨q+1,false,by omega,by omega,by go_num,rfl,by trivial,B.o,by rw[z.o,H.o];simp⟩
              | exact⟨q+1,b,by omega,by omega,by go_num,rfl,by trivial,B.o,by rw[z.o,H.o];simp⟩
            case measure=>simp[intOf];omega
          | false=>
           have Az:((s[q].toNat:Int) != 10)=false:=by
            show(!((s[q].toNat:Int)==10))=false
            rw[show(10:Int)=((10:Nat):Int)from rfl,q5w _ 10 (by decide)];exact N
           have B:Hid (I=q/\tOk s k=b):=by
            have h3:=k8f C N;have h4:=a.o;have h5:=J.o;have h6:=R.o.1;exact⟨by omega,by rw[Z.o,y5y C N,Bool.and_true]⟩
           clear N;go_wp2
           go_meet
           exact⟨by rw[B.o.1],by rw[B.o.2],rfl⟩
         ·have Q:¬(q:Int)<(s.size:Int):=by omega
          have B:Hid (I=q/\tOk s k=b):=by
           have h3:=z9p (p:=nlB) C;have h4:=a.o;have h5:=J.o;have h6:=R.o.1;exact⟨by omega,by rw[Z.o,y2n C,Bool.and_true]⟩
          go_wp2
          go_meet
          exact⟨by rw[B.o.1],by rw[B.o.2],rfl⟩
       | false=>
        obtain⟨c,d⟩:=y6m G M V X;have R:Hid (I=k+1/\tOk s k=y7s s[k]):=⟨by rw[J.o,c],d⟩;have A0:((s[k].toNat:Int)==35)=false:=by rw[show(35:Int)=((35:Nat):Int)from rfl,q5w _ 35 (by decide)];exact X
        clear c d M V X;go_wp2
        go_loopw [12,15] (fun ok j wx=>∃q:Nat,q<=9/\j=.int .i64 (q:Int)/\ok=.bool ((k4i.take q).any (·==s[k]))/\wx=wr) (fun _ j _=>9-(intOf j).toNat)
        case atStart=>exact⟨0,by omega,by go_num,rfl,rfl⟩
        case round=>
         obtain⟨q,n,rfl,rfl,rfl⟩:=hrel;by_cases C:q<9
         ·have Q:(q:Int)<9:=by omega
          have Bp:q<(⟨#[40,41,91,93,44,43,42,61,59]⟩:ByteArray).size:=C;have Bq:(q:Int)<((⟨#[40,41,91,93,44,43,42,61,59]⟩:ByteArray).size:Int):=by omega
          have HM:=hid (k9u s[k] C);cases hm:((⟨#[40,41,91,93,44,43,42,61,59]⟩:ByteArray)[q]==s[k])with
          | true=>
           have Ah:((((⟨#[40,41,91,93,44,43,42,61,59]⟩:ByteArray)[q]).toNat:Int)==(s[k].toNat:Int))=true:=by rw[v9m];exact hm
           rw[hm]at HM;clear hm;go_wp2
           go_roundw
           case rel=>exact⟨q+1,by omega,by go_num,by rw[HM.o];simp,by trivial⟩
           case measure=>simp[intOf];omega
          | false=>
           have Ah:((((⟨#[40,41,91,93,44,43,42,61,59]⟩:ByteArray)[q]).toNat:Int)==(s[k].toNat:Int))=false:=by rw[v9m];exact hm
           rw[hm]at HM;clear hm;go_wp2
           go_roundw
           case rel=>exact⟨q+1,by omega,by go_num,by rw[HM.o];simp,by trivial⟩
           case measure=>simp[intOf];omega
         ·have Q:¬(q:Int)<9:=by omega
          have H:Hid (tOk s k=(k4i.take q).any (·==s[k])):=by
           show _=_;rw[R.o.2,List.take_of_length_le (by show 9<=q;omega)];rfl
          generalize(k4i.take q).any (·==s[k])=b at H
          go_wp2
          go_meet
          exact⟨by rw[R.o.1];go_num,by rw[H.o],rfl⟩
    case rest=>
     obtain⟨rfl,rfl,rfl⟩:=hcut;cases Ac:tOk s k with
     | false=>
      have HF:Hid (q5o (btL s)=5/\z3c (btL s)=k):=k6v (by rw[q0b];exact Ai) (k1h O.o G HS.o Ac);clear Ac;go_wp2;refine bodyPost_ret (v:=.tuple #[.slice none 0 0,.slice none 0 0,.int .i64 (k:Int),.int .i64 5]) (by simp[results,Tryz.results33,go_sem]) rfl ?_;exact⟨.inl ⟨by rw[HF.o.1];decide,by rw[HF.o.1,HF.o.2]⟩,O.o.b⟩
     | true=>
      have Ax:Hid (tOk s k=true):=Ac
      have Am:Hid (q1m (((btL s).drop k).take (I-k))=tkW ((btL s).drop k)):=by
       show _=_;rw[tkW,J.o]
       congr 2
       rw[z2e];omega
      have Ak:Hid (many (D.map (·.2)++[tkW ((btL s).drop k)])=mm+(if s[k] != 35 then 1 else 0)):=by
       show _=_;rw[k7d,Ab.o,k7e G HS.o]
      generalize hW:tkW ((btL s).drop k)=W at Am Ak;have HW:Hid (tkW ((btL s).drop k)=W):=hW;clear Ac hW;go_wp2
      go_loopw [16] (fun x wx=>∃e:Nat,k+1<=e/\e<=I/\x=.int .i64 (e:Int)/\wx=wc/\q1m (((btL s).drop k).take (e-k))=W) (fun x _=>(intOf x).toNat)
      case atStart=>exact⟨I,A5,Nat.le_refl _,rfl,rfl,Am.o⟩
      case round=>
       obtain⟨e,Bi,Bj,rfl,rfl,he⟩:=hrel;have H:Hid (q1m (((btL s).drop k).take (e-k))=W):=he;clear he;obtain⟨j,rfl⟩:∃j,e=j+1:=⟨e-1,by omega⟩;have f:((j+1:Nat):Int)=(j:Int)+1:=by omega
       rw[f];have A4:j<s.size:=by omega
       have Bk:(j:Int)<(s.size:Int):=by omega
       have Bl:(k:Int)<(j:Int)+1:=by omega
       have Al:Hid (((btL s).drop k).take (j+1-k)=((btL s).drop k).take (j-k)++[s[j]]):=j1a (by omega) A4;clear f;cases E:(s[j]==32)with
       | true=>
        have A1:((s[j].toNat:Int)==32)=true:=by rw[show(32:Int)=((32:Nat):Int)from rfl,q5w _ 32 (by decide)];exact E
        have Aa:Hid (k+1<=j/\q1m (((btL s).drop k).take (j-k))=W):=by
         have Aq:=beq_iff_eq.1 E;refine⟨?_,by rw[<-H.o,Al.o,Aq,q9o]⟩;rcases Nat.eq_or_lt_of_le (show k<=j by omega)with h|h
         ·subst h;exact absurd Aq (k5e HS.o)
         ·exact h
        clear E;go_wp2
        go_roundw
        case rel=>exact⟨j,Aa.o.1,by omega,by go_num,by trivial,Aa.o.2⟩
        case measure=>simp[intOf]
       | false=>
        have A1:((s[j].toNat:Int)==32)=false:=by rw[show(32:Int)=((32:Nat):Int)from rfl,q5w _ 32 (by decide)];exact E
        have Aa:Hid (((btL s).drop k).take (j+1-k)=W):=by
         show _=_;rw[<-H.o,Al.o,q2r _ (by simpa using E)]
        have Bs:∀WW:World,(Instr.slice 9 (.string s) (some (.int .i64 (k:Int))) (some (.int .i64 ((j:Int)+1))) none).run prog WW=.ok (.string (wbS W)) WW:=fun WW=>by
         have h9:=v5x s k (j+1) (by omega) (by omega) WW;rw[Aa.o,show((j+1:Nat):Int)=(j:Int)+1 by omega]at h9;exact h9
        clear E;obtain⟨i0,A2,Be,Bf,Bg⟩:=info_parts q9d;have Bt:=O.o.b.size;go_wp2_with(at_builtin;refine wpList_append_lies _ rfl _ _ 42 rfl w.heap.size 9 i0 _ 1 16 Tryz.underlying42 A2 Be Bf Bg rfl (by decide) _ _ _ rfl (World.ownsRow.alloc O.o.ws _) ⟨wr,0,none⟩ 1 1 [.string (wbS W)] rfl rfl (cell_one_new wr _ _) (by intro u hu;simp at hu;subst hu;rfl) (by decide) (by unfold maxLen;omega) (by omega) (by simp;omega) (wr.heap.size+1) (by simp) ?_);intro Y S r g K Ao At;have Ag:=(O.o.b.alloc (by omega) (.cells #[.string (wbS W)] 9)).grown K (by simp;omega) (fun j hj=>(World.ownsRow.lt O.o.ws j hj).1);have z:=(show Hid (Below _ _ _)from Ag);have Af:Hid (r.ownsRow w.heap.size 3 1 (.slice P D.length y) D.length (q2g (D.map (·.1)))):=z1y (World.ownsRow.alloc O.o.ps _) (World.ownsRow.alloc O.o.ws _) (by decide) K;have Ay:=(show Hid (r.ownsRow _ _ _ _ _ _)from g);have Br:=Ag.size;clear g K Ag Ao At;obtain⟨i1,A3,Bb,Bc,Bd⟩:=info_parts z2l;go_wp2_with(at_builtin;refine wpList_append_lies _ rfl _ _ 43 rfl w.heap.size 3 i1 _ 1 8 Tryz.underlying43 A3 Bb Bc Bd rfl (by decide) _ _ _ rfl (World.ownsRow.alloc Af.o _) ⟨r,0,none⟩ 1 1 [.int .i64 (k:Int)] rfl rfl (cell_one_new r _ _) (by intro u hu;simp at hu;subst hu;rfl) (by decide) (by unfold maxLen;omega) (by omega) (by simp;omega) (r.heap.size+1) (by simp) ?_);intro g3 U w3 l L Ap Au;have Ar:=(z.o.alloc (by omega) (.cells #[.int .i64 (k:Int)] 3)).grown L (by simp;omega) (fun j hj=>(World.ownsRow.lt Af.o j hj).1);have An:=z1y (World.ownsRow.alloc Ay.o _) (World.ownsRow.alloc Af.o _) (by decide) L
        have hN:q3j s w I (D++[(k,W)]) (some ⟨Y,0,none⟩) (some ⟨g3,0,none⟩) S U w3:=by
         rw[J.o,<-HW.o];refine O.o.word G HS.o Ax.o Ar ?_ ?_
         ·rw[HW.o];exact An
         ·exact l
        have HN:Hid (q3j s w I (D++[(k,W)]) (some ⟨Y,0,none⟩) (some ⟨g3,0,none⟩) S U w3):=hN
        have Aj:Hid (many ((D++[(k,W)]).map (·.2))=mm+(if s[k] != 35 then 1 else 0)):=by
         show _=_;rw[List.map_append];exact Ak.o
        clear l L Ap Au Ar An hN;cases hn:(s[k] != 35)with
        | true=>
         have A8:((s[k].toNat:Int) != 35)=true:=by
          show(!((s[k].toNat:Int)==35))=true
          rw[show(35:Int)=((35:Nat):Int)from rfl,q5w _ 35 (by decide)];exact hn
         have Ae:Hid (many ((D++[(k,W)]).map (·.2))=mm+1):=by show _=_;rw[Aj.o,hn];rfl
         clear hn;go_wp2
         go_roundw
         case rel=>exact⟨I,D++[(k,W)],some ⟨Y,0,none⟩,some ⟨g3,0,none⟩,S,U,by rw[List.length_append];rfl,by rw[List.length_append];rfl,by rw[Ae.o];go_num,by go_num,HN.o⟩
         case measure=>simp[intOf];omega
        | false=>
         have A8:((s[k].toNat:Int) != 35)=false:=by
          show(!((s[k].toNat:Int)==35))=false
          rw[show(35:Int)=((35:Nat):Int)from rfl,q5w _ 35 (by decide)];exact hn
         have Ae:Hid (many ((D++[(k,W)]).map (·.2))=mm):=by show _=_;rw[Aj.o,hn];rfl
         clear hn;go_wp2
         go_roundw
         case rel=>exact⟨I,D++[(k,W)],some ⟨Y,0,none⟩,some ⟨g3,0,none⟩,S,U,by rw[List.length_append];rfl,by rw[List.length_append];rfl,by rw[Ae.o],by go_num,HN.o⟩
         case measure=>simp[intOf];omega
  ·have A6:¬(k:Int)<(s.size:Int):=by omega
   have HX:Hid (lxF (btL s) 0=none/\lxW (btL s) 0=D):=k1i O.o G
   have HL:Hid ((q2m (btL s)).length=D.length/\many (q2m (btL s))=mm):=by
    refine⟨?_,?_⟩
    ·rw[q2m,HX.o.2,List.length_map]
    ·rw[q2m,HX.o.2];exact Ab.o
   by_cases Ad:300<mm
   ·have Ah:(300:Int)<(mm:Int):=by omega
    have HF:Hid (q5o (btL s)=3/\z3c (btL s)=0):=k1f (by rw[q0b];exact Ai) HX.o.1 (by rw[HL.o.2];exact Ad);go_wp2;refine bodyPost_ret (v:=.tuple #[.slice none 0 0,.slice none 0 0,.int .i64 0,.int .i64 3]) (by simp[results,Tryz.results33,go_sem]) rfl ?_;exact⟨.inl ⟨by rw[HF.o.1];decide,by rw[HF.o.1,HF.o.2];rfl⟩,O.o.b⟩
   ·have Ah:¬(300:Int)<(mm:Int):=by omega
    have HF:Hid (q5o (btL s)=0/\z3c (btL s)=0):=k1g (by rw[q0b];exact Ai) HX.o.1 (by rw[HL.o.2];exact Ad);go_wp2;refine bodyPost_ret (v:=.tuple #[.slice A D.length ac,.slice P D.length y,.int .i64 0,.int .i64 0]) (by simp[results,Tryz.results33,go_sem]) rfl ?_;refine⟨.inr ⟨HF.o.1,A,P,ac,y,by rw[HL.o.1],?_,?_⟩,O.o.b⟩
    ·show wr.ownsRow _ _ _ _ _ _;rw[List.length_map,HL.o.1,q2m,HX.o.2,List.map_map];exact O.o.ws
    ·show wr.ownsRow _ _ _ _ _ _;rw[<-z2p,HL.o.1,z1z,HX.o.2];exact O.o.ps
theorem j5m(s:ByteArray)(w:World):Calls prog 33 #[.string s] w fun e w'=>j1s s w e w'/\Below w w w':=by
 by_cases h:(btL s).length<=60000
 ·exact j5n s w h
 ·have A:Hid (q5o (btL s)=3/\z3c (btL s)=0):=k1e (by omega);have B:60000<(s.size:Int):=by rw[q0b]at h;omega
  clear h;go_in;go_wp2;refine bodyPost_ret (v:=.tuple #[.slice none 0 0,.slice none 0 0,.int .i64 0,.int .i64 3]) (by simp[results,Tryz.results33,go_sem]) rfl ?_;exact⟨.inl ⟨by rw[A.o.1];decide,by rw[A.o.1,A.o.2];rfl⟩,Below.refl _ _⟩
theorem k9z{B:Nat}{w:World}{A:Option Addr}{n c:Nat}{ks:List Nat}(h:z1g B (.slice A n c) ks w):q8x w A (ks.map fun(k:Nat)=>(k:Int)):=by
 intro j C;rw[List.length_map]at C;obtain⟨g,rfl,E,D⟩:=z6q h j C;exact⟨g,0,rfl,E,by rw[Nat.zero_add,List.getElem_map];exact D⟩
theorem j5o{L:List UInt8}(h:q5o L=0):(q2m L).length<=60000:=Nat.le_trans (v0u L) (q7v h).1
theorem k1p:∀(z r:List UInt8)(i:Nat),(∀x∈z,x=32)->lx (z++r) i=lx r (i+z.length)
 | [],r,i,_=>by simp
 | c::z,r,i,h=>by
  have hc:c=32:=h c (by simp);subst hc;rw[List.cons_append,j6p _ _ (by decide),k1p z r (i+1) (fun x hx=>h x (by simp[hx])),List.length_cons]
  congr 1;omega
theorem v9l{p:UInt8->Bool}:∀(l:List UInt8)x,x∈l.takeWhile p->p x=true
 | [],x,hx=>by cases hx
 | a::l,x,hx=>by
  rw[List.takeWhile_cons]at hx;by_cases ha:p a=true
  ·rw[if_pos ha]at hx;rcases List.mem_cons.1 hx with rfl|hx
   ·exact ha
   ·exact v9l l x hx
  ·rw[if_neg ha]at hx;cases hx
theorem z7b(w:List UInt8):∃z,w=q1m w++z/\∀x∈z,x=32:=by
 refine⟨(w.reverse.takeWhile (·==32)).reverse,?_,fun x hx=>?_⟩
 ·rw[q1m,<-List.reverse_append,List.takeWhile_append_dropWhile,List.reverse_reverse]
 ·have:=v9l _ _ (List.mem_reverse.1 hx)
  exact beq_iff_eq.1 this
theorem z2g(s:List UInt8):(tkW s).length<=s.length:=by
 have A:=z0z (s.take (q1d s));rw[List.length_take]at A;rw[tkW];omega
theorem v4q(s:List UInt8)(i:Nat):lx (s.drop (tkW s).length) (i+(tkW s).length)=lx (s.drop (q1d s)) (i+q1d s):=by
 obtain⟨z,D,B⟩:=z7b (s.take (q1d s));have C:=z0v s;have A:=congrArg List.length D;rw[List.length_append,List.length_take,Nat.min_eq_left C]at A
 have e:s.drop (tkW s).length=z++s.drop (q1d s):=by
  have E:s=q1m (s.take (q1d s))++(z++s.drop (q1d s)):=by
   rw[<-List.append_assoc,<-D,List.take_append_drop]
  have G:s.drop (tkW s).length=(q1m (s.take (q1d s))++(z++s.drop (q1d s))).drop (tkW s).length:=congrArg (List.drop _) E;rw[G,tkW,List.drop_left]
 rw[e,k1p z _ _ B]
 congr 1
 rw[tkW];omega
theorem y3d{c:UInt8}{r:List UInt8}(hs:spB c=false)(ho:q6o (c::r)=true):1<=(tkW (c::r)).length:=v0i (v9i hs ho)
theorem y8l{c:UInt8}{r:List UInt8}(hl:q2j c=true):tkW (c::r)=(c::r).takeWhile q2j/\q6o (c::r)=decide (((c::r).takeWhile q2j).length<=8):=by
 refine⟨?_,?_⟩
 ·simp only[tkW,q1d,hl,if_true,List.take_succ_cons,z5a,List.takeWhile_cons];exact q8u (fun _=>j6l) c hl r
 ·simp only[q6o,hl,if_true,List.takeWhile_cons,List.length_cons]
theorem y8k{c:UInt8}{r:List UInt8}(hl:q2j c=false)(hf:q2a c=true):tkW (c::r)=(c::r).takeWhile q2a/\q6o (c::r)=(decide (((c::r).takeWhile q2a).length<=6)&&(c != 48||(c::r).takeWhile q2a==[48])):=by
 refine⟨?_,?_⟩
 ·simp only[tkW,q1d,hl,hf,if_true,Bool.false_eq_true,if_false,List.take_succ_cons,z5a,List.takeWhile_cons];exact q8u (fun _=>j3z) c hf r
 ·simp only[q6o,hl,hf,if_true,Bool.false_eq_true,if_false,List.takeWhile_cons,List.length_cons]
  congr 1
  by_cases h:c=48
  ·subst h;cases A:r.takeWhile q2a with
   | nil=>rfl
   | cons a b=>
    simp
  ·have:(c != 48)=true:=by simp[h]
   rw[this];rfl
theorem v7n{p:UInt8->Bool}:∀l:List UInt8,(l.takeWhile p==l)=l.all p
 | []=>rfl
 | a::l=>by
  rw[List.takeWhile_cons,List.all_cons];cases h:p a with
  | true=>
   rw[if_pos rfl,<-v7n l];simp
  | false=>simp
theorem y4v{c:UInt8}{r:List UInt8}(hl:q2j c=false)(hf:q2a c=false)(hn:c=35):tkW (c::r)=q1m ((c::r).takeWhile nlB)/\q6o (c::r)=((q1m ((c::r).takeWhile nlB)).takeWhile prB==q1m ((c::r).takeWhile nlB)):=by
 subst hn;have B:(35::r:List UInt8).takeWhile nlB=35::r.takeWhile nlB:=by rw[List.takeWhile_cons];rfl
 refine⟨?_,?_⟩
 ·simp only[tkW,q1d,hl,hf,if_true,Bool.false_eq_true,if_false,List.take_succ_cons,z5a,beq_self_eq_true,B]
 ·rw[v7n,B];simp only[q6o,hl,hf,if_true,Bool.false_eq_true,if_false,beq_self_eq_true];obtain⟨z,G,A⟩:=z7b (35::r.takeWhile nlB)
  have C:(35::r.takeWhile nlB).all prB=((q1m (35::r.takeWhile nlB)).all prB&&z.all prB):=by
   rw[<-List.all_append,<-G]
  have D:z.all prB=true:=by
   rw[List.all_eq_true];intro x E;rw[A x E];decide
  rw[D,Bool.and_true,List.all_cons]at C;rw[<-C];rfl
theorem y4u{c:UInt8}{r:List UInt8}(hs:spB c=false)(hl:q2j c=false)(hf:q2a c=false)(hn:(c==35)=false):tkW (c::r)=[c]/\q6o (c::r)=y7s c:=by
 refine⟨?_,?_⟩
 ·simp only[tkW,q1d,hl,hf,hn,Bool.false_eq_true,if_false,List.take_succ_cons,List.take_zero];exact q2r [] (k5e hs)
 ·simp only[q6o,hl,hf,hn,Bool.false_eq_true,if_false]
theorem j6y:∀l:List UInt8,Lib.indexByte l 10=-1->l.takeWhile nlB=l
 | [],_=>rfl
 | b::l,h=>by
  unfold Lib.indexByte at h;have hge:=Lib.indexByte_ge l 10
  split at h
  ·cases h
  ·rename_i hb;have hb':nlB b=true:=by simpa[nlB]using hb
   split at h
   ·rename_i h1;rw[List.takeWhile_cons,if_pos hb',j6y l (by simpa using h1)]
   ·omega
theorem v8m:∀(l:List UInt8)(i:Nat),Lib.indexByte l 10=i->l.takeWhile nlB=l.take i/\i+1<=l.length
 | [],i,h=>by simp[Lib.indexByte]at h
 | b::l,i,h=>by
  unfold Lib.indexByte at h;have hge:=Lib.indexByte_ge l 10
  split at h
  ·rename_i hb
   have:i=0:=by omega
   subst this;have A:nlB b=false:=by simpa[nlB]using hb
   rw[List.takeWhile_cons,if_neg (by simp[A])];simp
  ·rename_i hb;have A:nlB b=true:=by simpa[nlB]using hb
   split at h
   ·omega
   ·rename_i h1;have C:Lib.indexByte l 10≠-1:=by simpa using h1
    obtain⟨j,rfl⟩:∃j,i=j+1:=⟨i-1,by omega⟩;obtain⟨B,D⟩:=v8m l j (by omega);rw[List.takeWhile_cons,if_pos A,B,List.take_succ_cons];exact⟨rfl,by simp;omega⟩
theorem v8b:∀(l:List UInt8)(c:UInt8),decide (0<=Lib.indexByte l c)=l.any (·==c)
 | [],c=>rfl
 | b::l,c=>by
  unfold Lib.indexByte;have hge:=Lib.indexByte_ge l c;have ih:=v8b l c;rw[List.any_cons,<-ih];cases hb:(b==c)with
  | true=>simp
  | false=>
   simp only[Bool.false_eq_true,if_false,Bool.false_or];by_cases h:Lib.indexByte l c=-1
   ·simp[h]
   ·have h2:(Lib.indexByte l c==-1)=false:=by simpa using h
    rw[h2];simp only[Bool.false_eq_true,if_false];rw[decide_eq_true (by omega),decide_eq_true (by omega)]
end Go.Proofs.YthcpdohdppkmkaaGreatDoor
namespace Go.Proofs.YthcpdohdppkmkaaGreatDoor
open Go Go.RowKit Go.Lib Go.Shelf
set_option maxRecDepth 100000
set_option maxHeartbeats 1000000
theorem q6u(s:ByteArray)(c:Int)(w:World):
  Calls prog 141 #[.string s,.int .u8 c] w fun e w'=>e=.returned (.int .i64 (Lib.indexByte s.data.toList c.toNat.toUInt8))/\w'=w:=by
 go_in;go_wp2;rw[run_callFunc_extern func193 (by kernel_rfl) (by kernel_rfl) (by kernel_rfl) (e:=Extern.BytealgIndexByte.indexByte) (by kernel_rfl),Lib.run_indexByteString];simp only[Result.andThen];rw[Oper.upon_value];go_wp2;go_ret;exact⟨rfl,rfl⟩
theorem z0d(s:ByteArray)(w:World):
  Calls prog 194 #[.string s,.string ⟨#[10]⟩] w fun e w'=>e=.returned (.int .i64 (Lib.indexByte s.data.toList 10))/\w'=w:=by
 go_in;go_wp2_with(go_at_call 141;refine(q6u _ _ _).mono ?_;rintro e w'⟨rfl,rfl⟩)
 ·have h:([10]==s.toList)=true:=by assumption
  go_ret;refine⟨?_,rfl⟩;have e:s.data.toList=[10]:=by rw[<-Lib.toList_data];exact(beq_iff_eq.1 h).symm
  rw[e];simp[Lib.indexByte]
 ·go_ret;exact⟨rfl,rfl⟩
theorem z5w(s:ByteArray)(w:World)(h:Lib.indexByte s.data.toList 10=-1):
  Calls prog 143 #[.string s,.string ⟨#[10]⟩] w fun e w'=>e=.returned (.tuple #[.string s,.string ⟨#[]⟩,.bool false])/\∃n,w'=w.drewN n:=by
 go_in;go_wp2_with(go_at_call 194;refine(z0d _ _).mono ?_;rintro e w'⟨rfl,rfl⟩;rw[h]);go_ret3;exact⟨rfl,0,rfl⟩
theorem k0n(s:ByteArray)(w:World)(i:Nat)(h:Lib.indexByte s.data.toList 10=i)(hi:i+1<=s.size)(hb:s.size<=100000000):
  Calls prog 143 #[.string s,.string ⟨#[10]⟩] w fun e w'=>e=.returned (.tuple #[.string (s.extract 0 i),.string (s.extract (i+1) s.size),.bool true])/\∃n,w'=w.drewN n:=by
 have A:(0:Int)<=↑i:=by omega
 have B:(↑i:Int)<=↑s.size:=by omega
 have C:(0:Int)<=↑i+1:=by omega
 have D:(↑i+1:Int)<=↑s.size:=by omega
 have E:(↑i:Int)<=100000000:=by omega
 go_in;go_wp2_with(go_at_call 194;refine(z0d _ _).mono ?_;rintro e w'⟨rfl,rfl⟩;rw[h])
 go_region
 go_wp2;go_ret3;exact⟨rfl,1,rfl⟩
end Go.Proofs.YthcpdohdppkmkaaGreatDoor
