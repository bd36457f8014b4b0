import Derived.Test.YtchdplceopegoaaGreatDoorPi12
import Derived.Deep.CutBlock
import Derived.Deep.DeepCutAuto
import Derived.Lib.IndexLaws
import Derived.Deep.RegionHeld3
import Derived.Deep.RegionLaw
open Go.Proofs.Tryz
open List (drop_drop drop_zero length_append length_cons length_drop length_map length_singleton map_append takeWhile_cons take_succ_cons)
open Nat (le_refl le_trans mul_one sub_self zero_add zero_le)
namespace Go.Proofs.YtchdplceopegoaaGreatDoor
open Go Go.RowKit
set_option maxRecDepth 100000
set_option maxHeartbeats 8000000
structure q6b(s:ByteArray)(w:World)(i:Nat)(dn:List (Nat × List UInt8))(A P:Option Addr)(ac pc:Nat)(wr:World):Prop where
 b:Below w w wr
 le:i<=s.size
 ln:dn.length<=i
 eq:lx (btL s) 0=(dn++lxW ((btL s).drop i) i,lxF ((btL s).drop i) i)
 ws:wr.ownsRow w.heap.size 9 1 (.slice A dn.length ac) dn.length (strCells (dn.map fun x=>wbS x.2))
 ps:wr.ownsRow w.heap.size 3 1 (.slice P dn.length pc) dn.length (q3b (dn.map (·.1)))
theorem q6b.space{s:ByteArray}{w:World}{i:Nat}{dn:List (Nat × List UInt8)}{A P:Option Addr}{ac pc:Nat}{wr:World}(h:q6b s w i dn A P ac pc wr)(hi:i<s.size)(hs:spB s[i]=true):q6b s w (i+1) dn A P ac pc wr:=by
 have e:=h.eq;rw[q1i hi,lxW,lxF,k3e _ _ hs]at e;exact{b:=h.b,le:=hi,ln:=by have:=h.ln;omega,eq:=e,ws:=h.ws,ps:=h.ps}
theorem k2v{s:ByteArray}{w:World}{i:Nat}{dn:List (Nat × List UInt8)}{A P:Option Addr}{ac pc:Nat}{wr:World}(h:q6b s w i dn A P ac pc wr)(hi:i<s.size)(hs:spB s[i]=false)(ho:tOk s i=false):lxF (btL s) 0=some i:=by
 have e:=h.eq;rw[tOk,q1i hi]at ho;rw[q1i hi,lxW,lxF,k9c _ hs ho]at e;rw[lxF,e]
theorem q6b.word{s:ByteArray}{w:World}{i:Nat}{dn:List (Nat × List UInt8)}{A P:Option Addr}{ac pc:Nat}{wr:World}(h:q6b s w i dn A P ac pc wr)(hi:i<s.size)(hs:spB s[i]=false)(ho:tOk s i=true){A' P':Option Addr}{B C:Nat}{w':World}(hb:Below w w w')
  (h1:w'.ownsRow w.heap.size 9 1 (.slice A' (dn.length+1) B) (dn.length+1) (strCells (dn.map fun x=>wbS x.2)++[.string (wbS (tkW ((btL s).drop i)))])) (h2:w'.ownsRow w.heap.size 3 1 (.slice P' (dn.length+1) C) (dn.length+1) (q3b (dn.map (·.1))++[.int .i64 (i:Int)])):
  q6b s w (i+z3k s i) (dn++[(i,tkW ((btL s).drop i))]) A' P' B C w':=by
 have e:=h.eq;have D:=g3d hi;have H:((btL s).drop i).drop (z3k s i)=(btL s).drop (i+z3k s i):=by rw[drop_drop]
 have E:q4y (s[i]::(btL s).drop (i+1))=true:=by rw[<-q1i hi];exact ho
 have G:lx ((btL s).drop i) i=((i,tkW ((btL s).drop i))::lxW ((btL s).drop (i+z3k s i)) (i+z3k s i),lxF ((btL s).drop (i+z3k s i)) (i+z3k s i)):=by
  rw[<-H,z3k,q1i hi];exact z7m i hs E
 rw[lxW,lxF,G]at e;refine{b:=hb,le:=D.2,ln:=by have:=h.ln;simp;omega,eq:=by rw[e];simp,ws:=?_,ps:=?_}
 ·rw[length_append,map_append,q2f];exact h1
 ·rw[length_append,map_append,z3i];exact h2
theorem v8c{c:UInt8}(h:spB c=true):((c.toNat:Int)==32)=true\/(((c.toNat:Int)==32)=false/\((c.toNat:Int)==10)=true):=by
 have B:=q6f c 32 (by decide);have C:=q6f c 10 (by decide);simp only[spB,Bool.or_eq_true]at h;by_cases A:c=32
 ·exact .inl (by rw[show(32:Int)=((32:Nat):Int)from rfl,B];simp[A])
 ·refine .inr ⟨by rw[show(32:Int)=((32:Nat):Int)from rfl,B];simpa using A,?_⟩;rw[show(10:Int)=((10:Nat):Int)from rfl,C];rcases h with h|h
  ·exact absurd (beq_iff_eq.1 h) A
  ·exact h
theorem y9j{c:UInt8}(h:spB c=false):((c.toNat:Int)==32)=false/\((c.toNat:Int)==10)=false:=by
 have A:=q6f c 32 (by decide);have B:=q6f c 10 (by decide);simp only[spB,Bool.or_eq_false_iff]at h;exact⟨by rw[show(32:Int)=((32:Nat):Int)from rfl,A];exact h.1,by rw[show(10:Int)=((10:Nat):Int)from rfl,B];exact h.2⟩
theorem k8p{s:ByteArray}{k kk q:Nat}{B:k<s.size}(A:kk=k+z3k s k)(ht:z3k s k=twN q1x s (k+1)+1/\tOk s k=(decide (twN q1x s (k+1)+1<=6)&&(s[k] != 48||twN q1x s (k+1)==0)))(hq:twN q1x s (k+1)+1=q-k):kk=q/\tOk s k=(decide (q-k<=6)&&(s[k] != 48||q-k==1)):=by
 refine⟨by omega,?_⟩;rw[ht.2,hq]
 congr 2
 rw[Bool.eq_iff_iff,beq_iff_eq,beq_iff_eq];omega
theorem v7p(c:UInt8):((c.toNat:Int)<32/\Hid (prB c=false))\/(¬(c.toNat:Int)<32/\126<(c.toNat:Int)/\Hid (prB c=false))\/(¬(c.toNat:Int)<32/\¬126<(c.toNat:Int)/\Hid (prB c=true)):=by
 by_cases A:(c.toNat:Int)<32
 ·exact .inl ⟨A,by show prB c=false;simp[prB];omega⟩
 ·by_cases B:126<(c.toNat:Int)
  ·exact .inr (.inl ⟨A,B,by show prB c=false;simp[prB];omega⟩)
  ·exact .inr (.inr ⟨A,B,by show prB c=true;simp[prB];omega⟩)
theorem y1y(a b:UInt8):((a.toNat:Int)==(b.toNat:Int))=(a==b):=by
 rw[Bool.eq_iff_iff,beq_iff_eq,beq_iff_eq];constructor
 ·intro h;exact UInt8.toNat_inj.1 (by omega)
 ·intro h;rw[h]
theorem j2e(c:UInt8){q:Nat}(h:q<9):(k6i.take (q+1)).any (·==c)=((k6i.take q).any (·==c)||((⟨#[40,41,91,93,44,43,42,61,59]⟩:ByteArray)[q]'h==c)):=by
 have A:=h;rw[List.take_succ_eq_append_getElem A,List.any_append];simp only[List.any_cons,List.any_nil,Bool.or_false];rfl
theorem k8o{t:Bool}{k q:Nat}{c:UInt8}(h:k+1<=q)(ht:t=(decide (q-k<=6)&&(c != 48||q-k==1))):(¬(q:Int)-(k:Int)<=6/\Hid (t=false))\/(((q:Int)-(k:Int)<=6)/\((c.toNat:Int) != 48)=true/\Hid (t=true))
  \/(((q:Int)-(k:Int)<=6)/\((c.toNat:Int) != 48)=false/\((q:Int)==(k:Int)+1)=true/\Hid (t=true))\/(((q:Int)-(k:Int)<=6)/\((c.toNat:Int) != 48)=false/\((q:Int)==(k:Int)+1)=false/\Hid (t=false)):=by
 have G:=q6f c 48 (by decide)
 have A:((c.toNat:Int) != 48)=(c != 48):=by
  show(!((c.toNat:Int)==48))=(!(c==48))
  rw[show(48:Int)=((48:Nat):Int)from rfl,G];rfl
 by_cases E:q-k<=6
 ·have C:=decide_eq_true E;cases B:(c != 48)with
  | true=>exact .inr (.inl ⟨by omega,by rw[A];exact B,by show t=true;rw[ht,C,B];rfl⟩)
  | false=>
   by_cases H:q=k+1
   ·have D:(q-k==1)=true:=by rw[beq_iff_eq];omega
    exact .inr (.inr (.inl ⟨by omega,by rw[A];exact B,by rw[beq_iff_eq];omega,by show t=true;rw[ht,C,B,D];rfl⟩))
   ·have D:(q-k==1)=false:=by rw[beq_eq_false_iff_ne];omega
    exact .inr (.inr (.inr ⟨by omega,by rw[A];exact B,by rw[beq_eq_false_iff_ne];omega,by show t=false;rw[ht,C,B,D];rfl⟩))
 ·exact .inl ⟨by omega,by show t=false;rw[ht,decide_eq_false E];rfl⟩
theorem k8y{L:List UInt8}{k:Nat}(h:L.length<=60000)(hf:lxF L 0=some k):q8e L=5/\k1j L=k:=by
 have e:q8e L=5:=by rw[q8e,if_neg (by omega),hf];rfl
 exact⟨e,by rw[k1j,if_pos e,hf];rfl⟩
theorem k2t{L:List UInt8}(h:L.length<=60000)(hf:lxF L 0=none)(hm:300<many (q2o L)):q8e L=3/\k1j L=0:=by
 have e:q8e L=3:=by rw[q8e,if_neg (by omega),hf,if_neg (by simp),if_pos hm]
 exact⟨e,by rw[k1j,e];rfl⟩
theorem k2u{L:List UInt8}(h:L.length<=60000)(hf:lxF L 0=none)(hm:¬300<many (q2o L)):q8e L=0/\k1j L=0:=by
 have e:q8e L=0:=by rw[q8e,if_neg (by omega),hf,if_neg (by simp),if_neg hm]
 exact⟨e,by rw[k1j,e];rfl⟩
theorem k2s{L:List UInt8}(h:60000<L.length):q8e L=3/\k1j L=0:=by
 have e:q8e L=3:=by rw[q8e,if_pos h]
 exact⟨e,by rw[k1j,e];rfl⟩
theorem k2w{s:ByteArray}{w:World}{i:Nat}{dn:List (Nat × List UInt8)}{A P:Option Addr}{ac pc:Nat}{wr:World}(h:q6b s w i dn A P ac pc wr)(hi:¬i<s.size):lxF (btL s) 0=none/\lxW (btL s) 0=dn:=by
 have e:=h.eq;rw[List.drop_eq_nil_of_le (by rw[q0c];omega),lxW,lxF,z3h,List.append_nil]at e;rw[lxF,lxW,e];exact⟨rfl,rfl⟩
theorem k9f{s:ByteArray}{k:Nat}(h:k<s.size)(hs:spB s[k]=false):many [tkW ((btL s).drop k)]=if s[k] != 35 then 1 else 0:=by
 have C:∃z,tkW ((btL s).drop k)=s[k]::z:=by
  rw[tkW,q1i h];have E:=q5p s[k] ((btL s).drop (k+1));obtain⟨m,D⟩:∃m,q0x (s[k]::(btL s).drop (k+1))=m+1:=⟨_,(Nat.sub_add_cancel E).symm⟩;rw[D,take_succ_cons];exact z2z (k7e hs) _
 obtain⟨z,G⟩:=C;rw[G];have B:g3b (s[k]::z)=(s[k] != 35):=rfl;cases A:(s[k] != 35)with
 | true=>rw[many,List.filter_cons_of_pos (by rw[B];exact A)];rfl
 | false=>rw[many,List.filter_cons_of_neg (by rw[B,A];decide)];rfl
theorem j3n{s:ByteArray}{k j:Nat}(h:k<=j)(hj:j<s.size):((btL s).drop k).take (j+1-k)=((btL s).drop k).take (j-k)++[s[j]]:=by
 have e:j+1-k=(j-k)+1:=by omega
 have B:j-k<((btL s).drop k).length:=by rw[length_drop,q0c];omega
 rw[e,List.take_succ_eq_append_getElem B]
 congr 2
 rw[List.getElem_drop];have A:k+(j-k)=j:=by omega
 simp only[A];rfl
theorem v8b(s:ByteArray)(i e:Nat)(h1:i<=e)(h2:e<=s.size)(W:World):(Instr.slice 9 (.string s) (some ↑(i:Int)) (some ↑((e:Nat):Int)) none).run prog W=.ok (.string (wbS (((btL s).drop i).take (e-i)))) W:=by
 have h:=run_slice_string (P:=prog) (w:=W) 9 s .i64 .i64 (i:Int) (e:Int) Tryz.underlying9 (by omega) (by omega) (by omega);rw[Int.toNat_natCast,Int.toNat_natCast,z0f]at h;exact h
def j4g(s:ByteArray)(w:World)(e:Ending)(w':World):Prop:=
 (q8e (btL s)≠0/\e=.returned (.tuple #[.slice none 0 0,.slice none 0 0,.int .i64 ((k1j (btL s):Nat):Int),.int .i64 (q8e (btL s))]))\/
 (q8e (btL s)=0/\∃A P ac pc,e=.returned (.tuple #[.slice A (q2o (btL s)).length ac,.slice P (q2o (btL s)).length pc,.int .i64 0,.int .i64 0])/\q2i w (.slice A (q2o (btL s)).length ac) ((q2o (btL s)).map wbS) w'/\z2b w.heap.size (.slice P (q2o (btL s)).length pc) (z3j (btL s)) w')
theorem j8g(s:ByteArray)(w:World)(hl:(btL s).length<=60000):
  Calls prog 22 #[.string s] w fun e w'=>j4g s w e w'/\Below w w w':=by
 have Ah:s.size<=60000:=by rw[<-q0c];exact hl
 clear hl;have Bg:¬60000<(s.size:Int):=by omega
 go_in;go_wp2
 go_loopw [6,7,8,9] (fun x p m i wr=>∃(k:Nat)(E:List (Nat × List UInt8))(A P:Option Addr)(ac pc:Nat),x=.slice A E.length ac/\p=.slice P E.length pc/\m=.int .i64 ((many (E.map (·.2)):Nat):Int)/\i=(k:Int)/\q6b s w k E A P ac pc wr) (fun _ _ _ i _=>s.size-(intOf i).toNat)
 case atStart=>exact⟨0,[],none,none,0,0,rfl,rfl,rfl,rfl,{b:=Below.refl _ _,le:=zero_le _,ln:=le_refl _,eq:=rfl,ws:=World.ownsRow_nil _ _ _ _,ps:=World.ownsRow_nil _ _ _ _}⟩
 case round=>
  obtain⟨k,E,A,P,ac,pc,rfl,rfl,rfl,rfl,hR⟩:=hrel;have O:=hid hR;have Bm:=hR.le;have Bn:=hR.ln
  have A6:many (E.map (·.2))<=60000:=by
   have h1:many (E.map (·.2))<=(E.map (·.2)).length:=List.length_filter_le _ _;rw[length_map]at h1;omega
  clear hR;generalize Au:many (E.map (·.2))=mm at A6;have Aa:=hid Au;clear Au;by_cases G:k<s.size
  ·have A5:(k:Int)<(s.size:Int):=by omega
   cases hs:spB s[k]with
   | true=>
    have HN:=hid (O.o.space G hs);rcases v8c hs with h1|⟨h1,h2⟩
    ·clear hs;go_wp2
     go_roundw
     case rel=>exact⟨k+1,E,A,P,ac,pc,rfl,rfl,by rw[Aa.o],by go_num,HN.o⟩
     case measure=>simp[intOf];omega
    ·clear hs;go_wp2
     go_roundw
     case rel=>exact⟨k+1,E,A,P,ac,pc,rfl,rfl,by rw[Aa.o],by go_num,HN.o⟩
     case measure=>simp[intOf];omega
   | false=>
    obtain⟨h1,h2⟩:=y9j hs;have HS:=hid hs;obtain⟨A8,A9⟩:=g3d G;obtain⟨N,Ar⟩:∃N,N=k+z3k s k:=⟨_,rfl⟩;have I:=hid Ar;have A4:k+1<=N:=by omega
    have Bl:N<=s.size:=by omega
    clear hs Ar A8 A9
    go_upto_block 2 with(first|(go_at_call 41;refine(q6p _ _).mono ?_;rintro e t⟨rfl,rfl⟩)|(go_at_call 42;refine(q2g _ _).mono ?_;rintro e t⟨rfl,rfl⟩))
    go_cut [11,12,13,14] (fun x ok _ _ wx=>x=(N:Int)/\ok=.bool (tOk s k)/\wx=wr)
    case first=>
     cases L:q2a s[k]with
     | true=>
      obtain⟨a,c⟩:=g2r G L;have R:Hid (z3k s k=twN q2a s (k+1)+1/\tOk s k=decide (twN q2a s (k+1)+1<=8)):=⟨a,c⟩;clear a c L;go_wp2
      go_loopw [11] (fun x wx=>∃q:Nat,k+1<=q/\q<=s.size/\x=(q:Int)/\wx=wr/\(k+1)+twN q2a s (k+1)=q+twN q2a s q) (fun x _=>s.size-(intOf x).toNat)
      case atStart=>exact⟨k+1,le_refl _,by omega,by go_num,rfl,rfl⟩
      case round=>
       obtain⟨q,n,Av,rfl,rfl,hq⟩:=hrel;have X:=hid hq;clear hq;by_cases C:q<s.size
       ·have Q:(q:Int)<(s.size:Int):=by omega
        cases D:q2a s[q]with
        | true=>
         have V:=hid D
         have B:Hid ((k+1)+twN q2a s (k+1)=(q+1)+twN q2a s (q+1)):=by
          have h3:=k0z C D;have h4:=X.o;show _=_;omega
         clear D;go_wp2_with(go_at_call 41;refine(q6p _ _).mono ?_;rintro e t⟨rfl,rfl⟩;rw[V.o])
         go_roundw
         case rel=>exact⟨q+1,by omega,by omega,by go_num,by trivial,B.o⟩
         case measure=>simp[intOf];omega
        | false=>
         have V:=hid D
         have B:Hid (N=q/\tOk s k=decide ((q:Int)-(k:Int)<=8)):=by
          have h3:=j0l C D;have h4:=X.o;have h5:=I.o;have h6:=R.o.1;refine⟨by omega,?_⟩;rw[R.o.2]
          congr 1
          apply propext;omega
         clear D;go_wp2_with(go_at_call 41;refine(q6p _ _).mono ?_;rintro e t⟨rfl,rfl⟩;rw[V.o])
         go_meet
         exact⟨by rw[B.o.1],by rw[B.o.2],rfl⟩
       ·have Q:¬(q:Int)<(s.size:Int):=by omega
        have B:Hid (N=q/\tOk s k=decide ((q:Int)-(k:Int)<=8)):=by
         have h3:=k0y (p:=q2a) C;have h4:=X.o;have h5:=I.o;have h6:=R.o.1;refine⟨by omega,?_⟩;rw[R.o.2]
         congr 1
         apply propext;omega
        go_wp2
        go_meet
        exact⟨by rw[B.o.1],by rw[B.o.2],rfl⟩
     | false=>
      cases S:q1x s[k]with
      | true=>
       obtain⟨a,c⟩:=g2q G L S;have R:Hid (z3k s k=twN q1x s (k+1)+1/\tOk s k=(decide (twN q1x s (k+1)+1<=6)&&(s[k] != 48||twN q1x s (k+1)==0))):=⟨a,c⟩;clear a c L S;go_wp2
       go_loopw [11] (fun x wx=>∃q:Nat,k+1<=q/\q<=s.size/\x=(q:Int)/\wx=wr/\(k+1)+twN q1x s (k+1)=q+twN q1x s q) (fun x _=>s.size-(intOf x).toNat)
       case atStart=>exact⟨k+1,le_refl _,by omega,by go_num,rfl,rfl⟩
       case round=>
        obtain⟨q,n,Av,rfl,rfl,hq⟩:=hrel;have X:=hid hq;clear hq;by_cases C:q<s.size
        ·have Q:(q:Int)<(s.size:Int):=by omega
         cases D:q1x s[q]with
         | true=>
          have V:=hid D
          have B:Hid ((k+1)+twN q1x s (k+1)=(q+1)+twN q1x s (q+1)):=by
           have h3:=k0z C D;have h4:=X.o;show _=_;omega
          clear D;go_wp2_with(go_at_call 42;refine(q2g _ _).mono ?_;rintro e t⟨rfl,rfl⟩;rw[V.o])
          go_roundw
          case rel=>exact⟨q+1,by omega,by omega,by go_num,by trivial,B.o⟩
          case measure=>simp[intOf];omega
         | false=>
          have V:=hid D
          have o:twN q1x s (k+1)+1=q-k:=by
           have h3:=j0l C D;have h4:=X.o;omega
          have B:=hid (k8p I.o R.o o);clear D o;rcases k8o n B.o.2 with⟨r,H⟩|⟨r,d,H⟩|⟨r,d,g3,H⟩|⟨r,d,g3,H⟩
          all_goals
           go_wp2_with(go_at_call 42;refine(q2g _ _).mono ?_;rintro e t⟨rfl,rfl⟩;rw[V.o])
           go_meet
           exact⟨by rw[B.o.1],by rw[H.o],rfl⟩
        ·have Q:¬(q:Int)<(s.size:Int):=by omega
         have o:twN q1x s (k+1)+1=q-k:=by
          have h3:=k0y (p:=q1x) C;have h4:=X.o;omega
         have B:=hid (k8p I.o R.o o);clear o;rcases k8o n B.o.2 with⟨r,H⟩|⟨r,d,H⟩|⟨r,d,g3,H⟩|⟨r,d,g3,H⟩
         all_goals
          go_wp2
          go_meet
          exact⟨by rw[B.o.1],by rw[H.o],rfl⟩
      | false=>
       cases U:(s[k]==35)with
       | true=>
        obtain⟨a,c⟩:=y9o G L S U;have R:Hid (z3k s k=twN nlB s (k+1)+1/\tOk s k=prN s (k+1)):=⟨a,c⟩;have Az:((s[k].toNat:Int)==35)=true:=by rw[show(35:Int)=((35:Nat):Int)from rfl,q6f _ 35 (by decide)];exact U
        clear a c L S U;go_wp2
        go_loopw [11,12] (fun x ok wx=>∃(q:Nat)(b:Bool),k+1<=q/\q<=s.size/\x=(q:Int)/\ok=.bool b/\wx=wr/\(k+1)+twN nlB s (k+1)=q+twN nlB s q/\tOk s k=(b&&prN s q)) (fun x _ _=>s.size-(intOf x).toNat)
        case atStart=>exact⟨k+1,true,le_refl _,by omega,by go_num,rfl,rfl,rfl,by rw[R.o.2];rfl⟩
        case round=>
         obtain⟨q,b,n,Av,rfl,rfl,rfl,hq,D⟩:=hrel;have X:=hid hq;have V:Hid (tOk s k=(b&&prN s q)):=D;clear hq D;by_cases C:q<s.size
         ·have Q:(q:Int)<(s.size:Int):=by omega
          cases M:nlB s[q]with
          | true=>
           have Ay:((s[q].toNat:Int) != 10)=true:=by
            show(!((s[q].toNat:Int)==10))=true
            rw[show(10:Int)=((10:Nat):Int)from rfl,q6f _ 10 (by decide)];exact M
           have B:Hid ((k+1)+twN nlB s (k+1)=(q+1)+twN nlB s (q+1)):=by
            have h3:=k0z C M;have h4:=X.o;show _=_;omega
           have y:Hid (tOk s k=(b&&(prB s[q]&&prN s (q+1)))):=by
            show _=_;rw[V.o,y5c C M]
           clear M;rcases v7p s[q]with⟨r,H⟩|⟨r,d,H⟩|⟨r,d,H⟩
           all_goals
            go_wp2
            go_roundw
            case rel=>
             first
              | exact⟨q+1,false,by omega,by omega,by go_num,rfl,by trivial,B.o,by rw[y.o,H.o];simp⟩
              | exact⟨q+1,b,by omega,by omega,by go_num,rfl,by trivial,B.o,by rw[y.o,H.o];simp⟩
            case measure=>simp[intOf];omega
          | false=>
           have Ay:((s[q].toNat:Int) != 10)=false:=by
            show(!((s[q].toNat:Int)==10))=false
            rw[show(10:Int)=((10:Nat):Int)from rfl,q6f _ 10 (by decide)];exact M
           have B:Hid (N=q/\tOk s k=b):=by
            have h3:=j0l C M;have h4:=X.o;have h5:=I.o;have h6:=R.o.1;exact⟨by omega,by rw[V.o,y9a C M,Bool.and_true]⟩
           clear M;go_wp2
           go_meet
           exact⟨by rw[B.o.1],by rw[B.o.2],rfl⟩
         ·have Q:¬(q:Int)<(s.size:Int):=by omega
          have B:Hid (N=q/\tOk s k=b):=by
           have h3:=k0y (p:=nlB) C;have h4:=X.o;have h5:=I.o;have h6:=R.o.1;exact⟨by omega,by rw[V.o,y5b C,Bool.and_true]⟩
          go_wp2
          go_meet
          exact⟨by rw[B.o.1],by rw[B.o.2],rfl⟩
       | false=>
        obtain⟨a,c⟩:=y9n G L S U;have R:Hid (N=k+1/\tOk s k=y6p s[k]):=⟨by rw[I.o,a],c⟩;have Az:((s[k].toNat:Int)==35)=false:=by rw[show(35:Int)=((35:Nat):Int)from rfl,q6f _ 35 (by decide)];exact U
        clear a c L S U;go_wp2
        go_loopw [12,15] (fun ok j wx=>∃q:Nat,q<=9/\j=(q:Int)/\ok=.bool ((k6i.take q).any (·==s[k]))/\wx=wr) (fun _ j _=>9-(intOf j).toNat)
        case atStart=>exact⟨0,by omega,by go_num,rfl,rfl⟩
        case round=>
         obtain⟨q,n,rfl,rfl,rfl⟩:=hrel;by_cases C:q<9
         ·have Q:(q:Int)<9:=by omega
          have Bo:q<(⟨#[40,41,91,93,44,43,42,61,59]⟩:ByteArray).size:=C;have Bp:(q:Int)<((⟨#[40,41,91,93,44,43,42,61,59]⟩:ByteArray).size:Int):=by omega
          have HM:=hid (j2e s[k] C);cases hm:((⟨#[40,41,91,93,44,43,42,61,59]⟩:ByteArray)[q]==s[k])with
          | true=>
           have Ag:((((⟨#[40,41,91,93,44,43,42,61,59]⟩:ByteArray)[q]).toNat:Int)==(s[k].toNat:Int))=true:=by rw[y1y];exact hm
           rw[hm]at HM;clear hm;go_wp2
           go_roundw
           case rel=>exact⟨q+1,by omega,by go_num,by rw[HM.o];simp,by trivial⟩
           case measure=>simp[intOf];omega
          | false=>
           have Ag:((((⟨#[40,41,91,93,44,43,42,61,59]⟩:ByteArray)[q]).toNat:Int)==(s[k].toNat:Int))=false:=by rw[y1y];exact hm
           rw[hm]at HM;clear hm;go_wp2
           go_roundw
           case rel=>exact⟨q+1,by omega,by go_num,by rw[HM.o];simp,by trivial⟩
           case measure=>simp[intOf];omega
         ·have Q:¬(q:Int)<9:=by omega
          have H:Hid (tOk s k=(k6i.take q).any (·==s[k])):=by
           show _=_;rw[R.o.2,List.take_of_length_le (by show 9<=q;omega)];rfl
          generalize(k6i.take q).any (·==s[k])=b at H
          go_wp2
          go_meet
          exact⟨by rw[R.o.1];go_num,by rw[H.o],rfl⟩
    case rest=>
     obtain⟨rfl,rfl,rfl⟩:=hcut;cases Ab:tOk s k with
     | false=>
      have HF:=hid (k8y (by rw[q0c];exact Ah) (k2v O.o G HS.o Ab));clear Ab;go_wp2;refine bodyPost_ret (v:=.tuple #[.slice none 0 0,.slice none 0 0,(k:Int),.int .i64 5]) (by simp[results,Tryz.results22,go_sem]) rfl ?_;exact⟨.inl ⟨by rw[HF.o.1];decide,by rw[HF.o.1,HF.o.2]⟩,O.o.b⟩
     | true=>
      have Aw:=hid Ab
      have Al:Hid (q1k (((btL s).drop k).take (N-k))=tkW ((btL s).drop k)):=by
       show _=_;rw[tkW,I.o]
       congr 2
       rw[z3k];omega
      have Aj:Hid (many (E.map (·.2)++[tkW ((btL s).drop k)])=mm+(if s[k] != 35 then 1 else 0)):=by
       show _=_;rw[k9e,Aa.o,k9f G HS.o]
      generalize hW:tkW ((btL s).drop k)=W at Al Aj;have HW:=hid hW;clear Ab hW;go_wp2
      go_loopw [16] (fun x wx=>∃e:Nat,k+1<=e/\e<=N/\x=(e:Int)/\wx=wc/\q1k (((btL s).drop k).take (e-k))=W) (fun x _=>(intOf x).toNat)
      case atStart=>exact⟨N,A4,le_refl _,rfl,rfl,Al.o⟩
      case round=>
       obtain⟨e,Bh,Bi,rfl,rfl,he⟩:=hrel;have H:Hid (q1k (((btL s).drop k).take (e-k))=W):=he;clear he;obtain⟨j,rfl⟩:∃j,e=j+1:=⟨e-1,by omega⟩;have f:((j+1:Nat):Int)=(j:Int)+1:=by omega
       rw[f];have A3:j<s.size:=by omega
       have Bj:(j:Int)<(s.size:Int):=by omega
       have Bk:(k:Int)<(j:Int)+1:=by omega
       have Ak:Hid (((btL s).drop k).take (j+1-k)=((btL s).drop k).take (j-k)++[s[j]]):=j3n (by omega) A3;clear f;cases D:(s[j]==32)with
       | true=>
        have A0:((s[j].toNat:Int)==32)=true:=by rw[show(32:Int)=((32:Nat):Int)from rfl,q6f _ 32 (by decide)];exact D
        have z:Hid (k+1<=j/\q1k (((btL s).drop k).take (j-k))=W):=by
         have Ap:=beq_iff_eq.1 D;refine⟨?_,by rw[<-H.o,Ak.o,Ap,z0e]⟩;rcases Nat.eq_or_lt_of_le (show k<=j by omega)with h|h
         ·subst h;exact absurd Ap (k7e HS.o)
         ·exact h
        clear D;go_wp2
        go_roundw
        case rel=>exact⟨j,z.o.1,by omega,by go_num,by trivial,z.o.2⟩
        case measure=>simp[intOf]
       | false=>
        have A0:((s[j].toNat:Int)==32)=false:=by rw[show(32:Int)=((32:Nat):Int)from rfl,q6f _ 32 (by decide)];exact D
        have z:Hid (((btL s).drop k).take (j+1-k)=W):=by
         show _=_;rw[<-H.o,Ak.o,q1u _ (by simpa using D)]
        have Br:∀WW:World,(Instr.slice 9 (.string s) (some ↑(k:Int)) (some ↑((j:Int)+1)) none).run prog WW=.ok (.string (wbS W)) WW:=fun WW=>by
         have h9:=v8b s k (j+1) (by omega) (by omega) WW;rw[z.o,show((j+1:Nat):Int)=(j:Int)+1 by omega]at h9;exact h9
        clear D;obtain⟨i0,A1,Bd,Be,Bf⟩:=info_parts z1l;have Bs:=O.o.b.size;go_wp2_with(at_builtin;refine wpList_append_lies _ rfl _ _ 51 rfl w.heap.size 9 i0 _ 1 16 Tryz.underlying51 A1 Bd Be Bf rfl (by decide) _ _ _ rfl (World.ownsRow.alloc O.o.ws _) wr.heap.size 1 1 [.string (wbS W)] rfl rfl (cell_one_new wr _ _) (by intro u hu;simp at hu;subst hu;rfl) (by decide) (by unfold maxLen;omega) (by omega) (by simp;omega) (wr.heap.size+1) (by simp) ?_);intro d Y t g J An As;have Af:=(O.o.b.alloc (by omega) (.cells #[.string (wbS W)] 9)).grown J (by simp;omega) (fun j hj=>(World.ownsRow.lt O.o.ws j hj).1);have y:=(show Hid (Below _ _ _)from Af);have Ae:=hid (z2s (World.ownsRow.alloc O.o.ps _) (World.ownsRow.alloc O.o.ws _) (by decide) J);have Ax:=(show Hid (t.ownsRow _ _ _ _ _ _)from g);have Bq:=Af.size;clear g J Af An As;obtain⟨i1,A2,Ba,Bb,Bc⟩:=info_parts z3f;go_wp2_with(at_builtin;refine wpList_append_lies _ rfl _ _ 63 rfl w.heap.size 3 i1 _ 1 8 Tryz.underlying63 A2 Ba Bb Bc rfl (by decide) _ _ _ rfl (World.ownsRow.alloc Ae.o _) t.heap.size 1 1 [(k:Int)] rfl rfl (cell_one_new t _ _) (by intro u hu;simp at hu;subst hu;rfl) (by decide) (by unfold maxLen;omega) (by omega) (by simp;omega) (t.heap.size+1) (by simp) ?_);intro g3 Z w3 l K Ao At;have Aq:=(y.o.alloc (by omega) (.cells #[(k:Int)] 3)).grown K (by simp;omega) (fun j hj=>(World.ownsRow.lt Ae.o j hj).1);have Am:=z2s (World.ownsRow.alloc Ax.o _) (World.ownsRow.alloc Ae.o _) (by decide) K
        have hN:q6b s w N (E++[(k,W)]) d g3 Y Z w3:=by
         rw[I.o,<-HW.o];refine O.o.word G HS.o Aw.o Aq ?_ ?_
         ·rw[HW.o];exact Am
         ·exact l
        have HN:=hid hN
        have Ai:Hid (many ((E++[(k,W)]).map (·.2))=mm+(if s[k] != 35 then 1 else 0)):=by
         show _=_;rw[map_append];exact Aj.o
        clear l K Ao At Aq Am hN;cases hn:(s[k] != 35)with
        | true=>
         have A7:((s[k].toNat:Int) != 35)=true:=by
          show(!((s[k].toNat:Int)==35))=true
          rw[show(35:Int)=((35:Nat):Int)from rfl,q6f _ 35 (by decide)];exact hn
         have Ad:Hid (many ((E++[(k,W)]).map (·.2))=mm+1):=by show _=_;rw[Ai.o,hn];rfl
         clear hn;go_wp2
         go_roundw
         case rel=>exact⟨N,E++[(k,W)],some ↑d,some ↑g3,Y,Z,by rw[length_append];rfl,by rw[length_append];rfl,by rw[Ad.o];go_num,by go_num,HN.o⟩
         case measure=>simp[intOf];omega
        | false=>
         have A7:((s[k].toNat:Int) != 35)=false:=by
          show(!((s[k].toNat:Int)==35))=false
          rw[show(35:Int)=((35:Nat):Int)from rfl,q6f _ 35 (by decide)];exact hn
         have Ad:Hid (many ((E++[(k,W)]).map (·.2))=mm):=by show _=_;rw[Ai.o,hn];rfl
         clear hn;go_wp2
         go_roundw
         case rel=>exact⟨N,E++[(k,W)],some ↑d,some ↑g3,Y,Z,by rw[length_append];rfl,by rw[length_append];rfl,by rw[Ad.o],by go_num,HN.o⟩
         case measure=>simp[intOf];omega
  ·have A5:¬(k:Int)<(s.size:Int):=by omega
   have HX:=hid (k2w O.o G)
   have HL:Hid ((q2o (btL s)).length=E.length/\many (q2o (btL s))=mm):=by
    refine⟨?_,?_⟩
    ·rw[q2o,HX.o.2,length_map]
    ·rw[q2o,HX.o.2];exact Aa.o
   by_cases Ac:300<mm
   ·have Ag:(300:Int)<(mm:Int):=by omega
    have HF:=hid (k2t (by rw[q0c];exact Ah) HX.o.1 (by rw[HL.o.2];exact Ac));go_wp2;refine bodyPost_ret (v:=.tuple #[.slice none 0 0,.slice none 0 0,.int .i64 0,.int .i64 3]) (by simp[results,Tryz.results22,go_sem]) rfl ?_;exact⟨.inl ⟨by rw[HF.o.1];decide,by rw[HF.o.1,HF.o.2];rfl⟩,O.o.b⟩
   ·have Ag:¬(300:Int)<(mm:Int):=by omega
    have HF:=hid (k2u (by rw[q0c];exact Ah) HX.o.1 (by rw[HL.o.2];exact Ac));go_wp2;refine bodyPost_ret (v:=.tuple #[.slice A E.length ac,.slice P E.length pc,.int .i64 0,.int .i64 0]) (by simp[results,Tryz.results22,go_sem]) rfl ?_;refine⟨.inr ⟨HF.o.1,A,P,ac,pc,by rw[HL.o.1],?_,?_⟩,O.o.b⟩
    ·show wr.ownsRow _ _ _ _ _ _;rw[length_map,HL.o.1,q2o,HX.o.2,List.map_map];exact O.o.ws
    ·show wr.ownsRow _ _ _ _ _ _;rw[<-z3m,HL.o.1,z3j,HX.o.2];exact O.o.ps
theorem j8f(s:ByteArray)(w:World):Calls prog 22 #[.string s] w fun e w'=>j4g s w e w'/\Below w w w':=by
 by_cases h:(btL s).length<=60000
 ·exact j8g s w h
 ·have A:Hid (q8e (btL s)=3/\k1j (btL s)=0):=k2s (by omega);have B:60000<(s.size:Int):=by rw[q0c]at h;omega
  clear h;go_in;go_wp2;refine bodyPost_ret (v:=.tuple #[.slice none 0 0,.slice none 0 0,.int .i64 0,.int .i64 3]) (by simp[results,Tryz.results22,go_sem]) rfl ?_;exact⟨.inl ⟨by rw[A.o.1];decide,by rw[A.o.1,A.o.2];rfl⟩,Below.refl _ _⟩
theorem j2k{B:Nat}{w:World}{A:Option Addr}{n c:Nat}{ks:List Nat}(h:z2b B (.slice A n c) ks w):q9s w A (ks.map fun(k:Nat)=>(k:Int)):=by
 intro j C;rw[length_map]at C;obtain⟨g,rfl,E,D⟩:=z7p h j C;exact⟨g,0,rfl,E,by rw[zero_add,List.getElem_map];exact D⟩
theorem j8h{L:List UInt8}(h:q8e L=0):(q2o L).length<=60000:=le_trans (v3c L) (z5d h).1
theorem k3d:∀(z r:List UInt8)(i:Nat),(∀x∈z,x=32)->lx (z++r) i=lx r (i+z.length)
 | [],r,i,_=>by simp
 | c::z,r,i,h=>by
  have hc:c=32:=h c (by simp);subst hc;rw[List.cons_append,k3e _ _ (by decide),k3d z r (i+1) (fun x hx=>h x (by simp[hx])),length_cons]
  congr 1;omega
theorem y1x{p:UInt8->Bool}:∀(l:List UInt8)x,x∈l.takeWhile p->p x=true
 | [],x,hx=>by cases hx
 | a::l,x,hx=>by
  rw[takeWhile_cons]at hx;by_cases ha:p a=true
  ·rw[if_pos ha]at hx;rcases List.mem_cons.1 hx with rfl|hx
   ·exact ha
   ·exact y1x l x hx
  ·rw[if_neg ha]at hx;cases hx
theorem z8b(w:List UInt8):∃z,w=q1k w++z/\∀x∈z,x=32:=by
 refine⟨(w.reverse.takeWhile (·==32)).reverse,?_,fun x hx=>?_⟩
 ·rw[q1k,<-List.reverse_append,List.takeWhile_append_dropWhile,List.reverse_reverse]
 ·have:=y1x _ _ (List.mem_reverse.1 hx)
  exact beq_iff_eq.1 this
theorem z2y(s:List UInt8):(tkW s).length<=s.length:=by
 have A:=z1u (s.take (q0x s));rw[List.length_take]at A;rw[tkW];omega
theorem v6s(s:List UInt8)(i:Nat):lx (s.drop (tkW s).length) (i+(tkW s).length)=lx (s.drop (q0x s)) (i+q0x s):=by
 obtain⟨z,D,B⟩:=z8b (s.take (q0x s));have C:=z1q s;have A:=congrArg List.length D;rw[length_append,List.length_take,Nat.min_eq_left C]at A
 have e:s.drop (tkW s).length=z++s.drop (q0x s):=by
  have E:s=q1k (s.take (q0x s))++(z++s.drop (q0x s)):=by
   rw[<-List.append_assoc,<-D,List.take_append_drop]
  have G:s.drop (tkW s).length=(q1k (s.take (q0x s))++(z++s.drop (q0x s))).drop (tkW s).length:=congrArg (List.drop _) E;rw[G,tkW,List.drop_left]
 rw[e,k3d z _ _ B]
 congr 1
 rw[tkW];omega
theorem y5v{c:UInt8}{r:List UInt8}(hs:spB c=false)(ho:q4y (c::r)=true):1<=(tkW (c::r)).length:=v2o (y1u hs ho)
theorem g1v{c:UInt8}{r:List UInt8}(hl:q2a c=true):tkW (c::r)=(c::r).takeWhile q2a/\q4y (c::r)=decide (((c::r).takeWhile q2a).length<=8):=by
 refine⟨?_,?_⟩
 ·simp only[tkW,q0x,hl,if_true,take_succ_cons,z5y,takeWhile_cons];exact q9h (fun _=>k3a) c hl r
 ·simp only[q4y,hl,if_true,takeWhile_cons,length_cons]
theorem g1u{c:UInt8}{r:List UInt8}(hl:q2a c=false)(hf:q1x c=true):tkW (c::r)=(c::r).takeWhile q1x/\q4y (c::r)=(decide (((c::r).takeWhile q1x).length<=6)&&(c != 48||(c::r).takeWhile q1x==[48])):=by
 refine⟨?_,?_⟩
 ·simp only[tkW,q0x,hl,hf,if_true,Bool.false_eq_true,if_false,take_succ_cons,z5y,takeWhile_cons];exact q9h (fun _=>k2f) c hf r
 ·simp only[q4y,hl,hf,if_true,Bool.false_eq_true,if_false,takeWhile_cons,length_cons]
  congr 1
  by_cases h:c=48
  ·subst h;cases A:r.takeWhile q1x with
   | nil=>rfl
   | cons a b=>
    simp
  ·have:(c != 48)=true:=by simp[h]
   rw[this];rfl
theorem v9s{p:UInt8->Bool}:∀l:List UInt8,(l.takeWhile p==l)=l.all p
 | []=>rfl
 | a::l=>by
  rw[takeWhile_cons,List.all_cons];cases h:p a with
  | true=>
   rw[if_pos rfl,<-v9s l];simp
  | false=>simp
theorem y7t{c:UInt8}{r:List UInt8}(hl:q2a c=false)(hf:q1x c=false)(hn:c=35):tkW (c::r)=q1k ((c::r).takeWhile nlB)/\q4y (c::r)=((q1k ((c::r).takeWhile nlB)).takeWhile prB==q1k ((c::r).takeWhile nlB)):=by
 subst hn;have B:(35::r:List UInt8).takeWhile nlB=35::r.takeWhile nlB:=by rw[takeWhile_cons];rfl
 refine⟨?_,?_⟩
 ·simp only[tkW,q0x,hl,hf,if_true,Bool.false_eq_true,if_false,take_succ_cons,z5y,beq_self_eq_true,B]
 ·rw[v9s,B];simp only[q4y,hl,hf,if_true,Bool.false_eq_true,if_false,beq_self_eq_true];obtain⟨z,G,A⟩:=z8b (35::r.takeWhile nlB)
  have C:(35::r.takeWhile nlB).all prB=((q1k (35::r.takeWhile nlB)).all prB&&z.all prB):=by
   rw[<-List.all_append,<-G]
  have D:z.all prB=true:=by
   rw[List.all_eq_true];intro x E;rw[A x E];decide
  rw[D,Bool.and_true,List.all_cons]at C;rw[<-C];rfl
theorem y7s{c:UInt8}{r:List UInt8}(hs:spB c=false)(hl:q2a c=false)(hf:q1x c=false)(hn:(c==35)=false):tkW (c::r)=[c]/\q4y (c::r)=y6p c:=by
 refine⟨?_,?_⟩
 ·simp only[tkW,q0x,hl,hf,hn,Bool.false_eq_true,if_false,take_succ_cons,List.take_zero];exact q1u [] (k7e hs)
 ·simp only[q4y,hl,hf,hn,Bool.false_eq_true,if_false]
theorem j9b:∀l:List UInt8,Lib.indexByte l 10=-1->l.takeWhile nlB=l
 | [],_=>rfl
 | b::l,h=>by
  unfold Lib.indexByte at h;have hge:=Lib.indexByte_ge l 10
  split at h
  ·cases h
  ·rename_i hb;have hb':nlB b=true:=by simpa[nlB]using hb
   split at h
   ·rename_i h1;rw[takeWhile_cons,if_pos hb',j9b l (by simpa using h1)]
   ·omega
theorem y0u:∀(l:List UInt8)(i:Nat),Lib.indexByte l 10=i->l.takeWhile nlB=l.take i/\i+1<=l.length
 | [],i,h=>by simp[Lib.indexByte]at h
 | b::l,i,h=>by
  unfold Lib.indexByte at h;have hge:=Lib.indexByte_ge l 10
  split at h
  ·rename_i hb
   have:i=0:=by omega
   subst this;have A:nlB b=false:=by simpa[nlB]using hb
   rw[takeWhile_cons,if_neg (by simp[A])];simp
  ·rename_i hb;have A:nlB b=true:=by simpa[nlB]using hb
   split at h
   ·omega
   ·rename_i h1;have C:Lib.indexByte l 10≠-1:=by simpa using h1
    obtain⟨j,rfl⟩:∃j,i=j+1:=⟨i-1,by omega⟩;obtain⟨B,D⟩:=y0u l j (by omega);rw[takeWhile_cons,if_pos A,B,take_succ_cons];exact⟨rfl,by simp;omega⟩
theorem y0j:∀(l:List UInt8)(c:UInt8),decide (0<=Lib.indexByte l c)=l.any (·==c)
 | [],c=>rfl
 | b::l,c=>by
  unfold Lib.indexByte;have hge:=Lib.indexByte_ge l c;have ih:=y0j l c;rw[List.any_cons,<-ih];cases hb:(b==c)with
  | true=>simp
  | false=>
   simp only[Bool.false_eq_true,if_false,Bool.false_or];by_cases h:Lib.indexByte l c=-1
   ·simp[h]
   ·have h2:(Lib.indexByte l c==-1)=false:=by simpa using h
    rw[h2];simp only[Bool.false_eq_true,if_false];rw[decide_eq_true (by omega),decide_eq_true (by omega)]
end Go.Proofs.YtchdplceopegoaaGreatDoor
namespace Go.Proofs.YtchdplceopegoaaGreatDoor
open Go Go.RowKit Go.Lib Go.Shelf
set_option maxRecDepth 100000
set_option maxHeartbeats 1000000
theorem z0y(s:ByteArray)(w:World):
  Calls prog 172 #[.string s,.string ⟨#[10]⟩] w fun e w'=>e=.returned (.int .i64 (Lib.indexByte s.data.toList 10))/\w'=w:=by
 go_in;go_wp2_with(go_at_call 137;refine(q6z _ _ _).mono ?_;rintro e w'⟨rfl,rfl⟩)
 ·have h:([10]==s.toList)=true:=by assumption
  go_ret;refine⟨?_,rfl⟩;have e:s.data.toList=[10]:=by rw[<-Lib.toList_data];exact(beq_iff_eq.1 h).symm
  rw[e];simp[Lib.indexByte]
 ·go_ret;exact⟨rfl,rfl⟩
theorem j1h(s:ByteArray)(w:World)(h:Lib.indexByte s.data.toList 10=-1):
  Calls prog 139 #[.string s,.string ⟨#[10]⟩] w fun e w'=>e=.returned (.tuple #[.string s,.string ⟨#[]⟩,.bool false])/\∃n,w'=w.drewN n:=by
 go_in;go_wp2_with(go_at_call 172;refine(z0y _ _).mono ?_;rintro e w'⟨rfl,rfl⟩;rw[h]);go_ret3;exact⟨rfl,0,rfl⟩
theorem j6c(s:ByteArray)(w:World)(i:Nat)(h:Lib.indexByte s.data.toList 10=i)(hi:i+1<=s.size)(hb:s.size<=60000):
  Calls prog 139 #[.string s,.string ⟨#[10]⟩] w fun e w'=>e=.returned (.tuple #[.string (s.extract 0 i),.string (s.extract (i+1) s.size),.bool true])/\∃n,w'=w.drewN n:=by
 have A:(0:Int)<=↑i:=by omega
 have B:(↑i:Int)<=↑s.size:=by omega
 have C:(0:Int)<=↑i+1:=by omega
 have D:(↑i+1:Int)<=↑s.size:=by omega
 have E:(↑i:Int)<=60000:=by omega
 go_in;go_wp2_with(go_at_call 172;refine(z0y _ _).mono ?_;rintro e w'⟨rfl,rfl⟩;rw[h])
 go_region
 go_wp2;go_ret3;exact⟨rfl,1,rfl⟩
end Go.Proofs.YtchdplceopegoaaGreatDoor
namespace Go.Proofs.YtchdplceopegoaaGreatDoor
open Go Go.RowKit
set_option maxRecDepth 100000
set_option maxHeartbeats 1000000
theorem k8n(t:ByteArray)(k:Nat):t.extract 0 k=wbS ((btL t).take k):=by
 rw[z0f,drop_zero,Nat.sub_zero]
theorem k8m(t:ByteArray)(k:Nat):btL (t.extract k t.size)=(btL t).drop k:=Lib.extract_to_end t k
def q9r(lo hi:Nat)(c:UInt8):Bool:=decide (lo<=c.toNat)&&decide (c.toNat<=hi)
theorem z4m(w:World)(v:Value)(t:TypeId):(w.alloc (.cells #[v] t)).cell? w.heap.size=some v:=by
 have h:(w.alloc (.cells #[v] t)).heap[w.heap.size]?=some (.cells #[v] t):=by
  show(w.heap.push (.cells #[v] t))[w.heap.size]?=_
  simp
 simp only[World.cell?,Option.isSome_none,Bool.false_eq_true,if_false,h];rfl
theorem j5s{w:World}{o:Obj}{b k:Nat}(h:b<w.heap.size):(w.alloc o).cell? (b,k)=w.cell? (b,k):=by
 simp[World.cell?,Below.heap_alloc w o b h]
structure q4n(w:World)(a b lo hi:Nat):Prop where
 la:a<w.heap.size
 lb:b<w.heap.size
 ca:w.cell? ⟨a,0,none⟩=some (.int .u8 (lo:Int))
 cb:w.cell? ⟨b,0,none⟩=some (.int .u8 (hi:Int))
theorem q4n.W{w w':World}{a b lo hi:Nat}(h:q4n w a b lo hi)(hb:Below w w w'):q4n w' a b lo hi:=
 {la:=Nat.lt_of_lt_of_le h.la hb.size,lb:=Nat.lt_of_lt_of_le h.lb hb.size,ca:=(hb.cell (p:=⟨a,0,none⟩) h.la).trans h.ca,cb:=(hb.cell (p:=⟨b,0,none⟩) h.lb).trans h.cb}
abbrev y7z(a b:Nat):Value:=.func (.func 138) #[] #[.pointer (some ⟨a,0,none⟩),.pointer (some ⟨b,0,none⟩)]
theorem q4t(lo hi:Nat)(w:World):Calls prog 99 #[.int .u8 (lo:Int),.int .u8 (hi:Int)] w fun e w'=>(∃a b,e=.returned (y7z a b)/\q4n w' a b lo hi)/\Below w w w':=by
 go_in;go_wp2;go_ret;refine⟨⟨w.heap.size,w.heap.size+1,rfl,?_⟩,?_⟩
 ·refine{la:=?_,lb:=?_,ca:=?_,cb:=?_}
  ·rw[World.size_alloc,World.size_alloc];omega
  ·rw[World.size_alloc,World.size_alloc];omega
  ·rw[j5s (by rw[World.size_alloc];omega)];exact z4m w _ _
  ·have h:=z4m (w.alloc (.cells #[.int .u8 (lo:Int)] 5)) (.int .u8 (hi:Int)) 5;rw[World.size_alloc]at h;exact h
 ·exact((Below.refl w.heap.size w).alloc Zl _).alloc (by rw[World.size_alloc];omega) _
theorem q3r(c:UInt8){a b lo hi:Nat}{w:World}(h:q4n w a b lo hi):Cw 138 #[.int .u8 (c.toNat:Int),.pointer a,.pointer b] w (.bool (q9r lo hi c)):=by
 unfold Cw;obtain⟨_,_,B,C⟩:=h;by_cases D:(lo:Int)<=(c.toNat:Int)
 ·by_cases E:(c.toNat:Int)<=(hi:Int)
  ·have A:Hid (q9r lo hi c=true):=by show q9r lo hi c=true;simp[q9r];omega
   go_in;go_wp2;go_ret;exact⟨by rw[A.o];rfl,rfl⟩
  ·have A:Hid (q9r lo hi c=false):=by show q9r lo hi c=false;simp[q9r];omega
   go_in;go_wp2;go_ret;exact⟨by rw[A.o];rfl,rfl⟩
 ·have A:Hid (q9r lo hi c=false):=by show q9r lo hi c=false;simp[q9r];omega
  go_in;go_wp2;go_ret;exact⟨by rw[A.o];rfl,rfl⟩
theorem k7b(t:ByteArray){a b lo hi:Nat}{w:World}(h:q4n w a b lo hi)(hs:t.size<=60000):
  Cw 100 #[.string t,y7z a b] w (.string (wbS ((btL t).takeWhile (q9r lo hi)))):=by
 unfold Cw;have H:Hid (q4n w a b lo hi):=h;clear h;go_in;go_wp2_with fail
 go_loopw [5] (fun n wr=>wr=w/\∃k:Nat,n=(k:Int)/\k<=t.size/\k+twN (q9r lo hi) t k=twN (q9r lo hi) t 0) (fun n _=>t.size-(intOf n).toNat)
 case atStart=>exact⟨rfl,0,rfl,zero_le _,by omega⟩
 case round=>
  obtain⟨rfl,k,rfl,N,C⟩:=hrel;have I:Hid (k+twN (q9r lo hi) t k=twN (q9r lo hi) t 0):=C;clear C
  have B:twN (q9r lo hi) t k=0->t.extract 0 k=wbS ((btL t).takeWhile (q9r lo hi)):=fun e1=>by
   have K:=I.o
   have L:((btL t).takeWhile (q9r lo hi)).length=k:=by
    rw[twN,twN,drop_zero]at K;rw[twN]at e1;omega
   rw[k8n,<-L,z5y]
  by_cases A:k<t.size
  ·have G:(k:Int)<(t.size:Int):=by omega
   cases D:q9r lo hi t[k]with
   | true=>
    have J:Hid (k+1+twN (q9r lo hi) t (k+1)=twN (q9r lo hi) t 0):=by
     show _=_
     have:=k0z A D
     have:=I.o
     omega
    go_wp2_with fail;refine(q3r t[k] H.o).mono ?_;rintro e M⟨rfl,rfl⟩;rw[D];go_wp2
    go_roundw
    case rel=>exact⟨by trivial,k+1,by go_num,by omega,J.o⟩
    case measure=>simp[intOf];omega
   | false=>
    have E:=hid (B (j0l A D));go_wp2_with fail;refine(q3r t[k] H.o).mono ?_;rintro e M⟨rfl,rfl⟩;rw[D];go_wp2;go_ret;exact⟨by rw[E.o];rfl,rfl⟩
  ·have G:¬(k:Int)<(t.size:Int):=by omega
   have E:=hid (B (k0y A));go_wp2;go_ret;exact⟨by rw[E.o];rfl,rfl⟩
def g2p:Value->Nat
 | .string u=>u.size
 | _=>0
theorem j5a(w:World)(n:Nat):Below w w (w.drewN n):=(Below.refl w.heap.size w).trans ⟨rfl,rfl,rfl,le_refl _,fun _ _=>rfl⟩
theorem z7h(u:ByteArray)(h:0<u.size):btL u=btL (u.extract 0 (u.size-1))++[u[u.size-1]]:=by
 have D:u.size-1<(btL u).length:=by rw[q0c];omega
 have B:btL (u.extract 0 (u.size-1))=(btL u).take (u.size-1):=by rw[k8n];rfl
 have A:=List.take_succ_eq_append_getElem D;have C:u.size-1+1=(btL u).length:=by rw[q0c];omega
 rw[C,List.take_length]at A;rw[B];exact A
theorem v2q(t:ByteArray)(w:World)(hs:t.size<=60000):
  Cw 140 #[.string t,.int .u8 32] w (.string (wbS (q1k (btL t)))):=by
 unfold Cw;go_in;go_wp2_with fail
 go_loopw [0] (fun x wr=>wr=w/\∃u:ByteArray,x=.string u/\u.size<=60000/\q1k (btL u)=q1k (btL t)) (fun x _=>g2p x)
 case atStart=>exact⟨rfl,t,rfl,hs,rfl⟩
 case round=>
  obtain⟨rfl,u,rfl,M,I⟩:=hrel;have D:Hid (q1k (btL u)=q1k (btL t)):=I;by_cases L:0<u.size
  ·have E:(0:Int)<(u.size:Int):=by omega
   have J:Hid (btL u=btL (u.extract 0 (u.size-1))++[u[u.size-1]]):=z7h u L;cases C:(u[u.size-1]==32)with
   | true=>
    have G:((u[u.size-1].toNat:Int)==32)=true:=by rw[show(32:Int)=((32:Nat):Int)from rfl,q6f _ 32 (by decide)];exact C
    have A:Hid (q1k (btL (u.extract 0 (u.size-1)))=q1k (btL t)):=by
     show _=_;rw[<-D.o,J.o,beq_iff_eq.1 C,z0e]
    have H:(u.extract 0 (u.size-1)).size=u.size-1:=by rw[ByteArray.size_extract];omega
    have B:=(show Hid (_=_)from H);go_wp2;exact⟨⟨by trivial,_,rfl,by rw[B.o];omega,A.o⟩,by show(u.extract 0 (u.size-1)).size<u.size;rw[B.o];omega⟩
   | false=>
    have G:((u[u.size-1].toNat:Int)==32)=false:=by rw[show(32:Int)=((32:Nat):Int)from rfl,q6f _ 32 (by decide)];exact C
    have A:Hid (u=wbS (q1k (btL t))):=by
     show _=_;rw[<-D.o,J.o,q1u _ (by simpa using C),<-z7h u L];rfl
    go_wp2;go_ret;exact⟨by rw[<-A.o];rfl,rfl⟩
  ·have E:¬(0:Int)<(u.size:Int):=by omega
   have A:Hid (u=wbS (q1k (btL t))):=by
    show _=_;have K:btL u=[]:=List.eq_nil_of_length_eq_zero (by rw[q0c];omega);rw[<-D.o,K,v2r];show u=⟨#[]⟩;apply ByteArray.ext;exact Array.toList_inj.1 K
   go_wp2;go_ret;exact⟨by rw[<-A.o];rfl,rfl⟩
theorem v2s(t:ByteArray)(w:World)(h0:0<t.size)(hs:t.size<=60000):
  Cw 102 #[.string t,.string ⟨#[32]⟩] w (.string (wbS (q1k (btL t)))):=by
 unfold Cw;have A:(t.toList==[])=false:=by
  rw[Lib.toList_data]
  have:=(show t.data.toList.length=t.size from q0c t)
  cases h:t.data.toList with
  | nil=>rw[h]at this;simp at this;omega
  | cons a b=>rfl
 go_in;go_wp2_with fail;refine(v2q t _ hs).mono ?_;rintro e B⟨rfl,rfl⟩;go_wp2;go_ret;exact⟨rfl,rfl⟩
def k2x(t:ByteArray):ByteArray:=wbS ((btL t).takeWhile nlB)
theorem v7w(t:ByteArray)(w:World)(hs:t.size<=60000):
  Calls prog 101 #[.string t,.string ⟨#[10]⟩] w fun e w'=>(∃r b,e=.returned (.tuple #[.string (k2x t),.string r,.bool b]))/\Below w w w':=by
 have H:=Lib.indexByte_ge t.data.toList 10;by_cases D:Lib.indexByte t.data.toList 10=-1
 ·have A:Hid (t=k2x t):=by
   show t=wbS ((btL t).takeWhile nlB);rw[j9b _ D];rfl
  go_in;go_wp2_with(go_at_call 139;refine(j1h _ _ D).mono ?_;rintro e w'⟨rfl,n,rfl⟩);go_ret3;exact⟨⟨_,_,by rw[<-A.o];rfl⟩,j5a _ _⟩
 ·obtain⟨i,C⟩:∃i:Nat,Lib.indexByte t.data.toList 10=i:=⟨(Lib.indexByte t.data.toList 10).toNat,by omega⟩;obtain⟨E,G⟩:=y0u _ i C;have B:i+1<=t.size:=by rw[<-q0c];exact G
  have A:Hid (t.extract 0 i=k2x t):=by
   show t.extract 0 i=wbS ((btL t).takeWhile nlB);rw[k8n,E]
  go_in;go_wp2_with(go_at_call 139;refine(j6c _ _ _ C B hs).mono ?_;rintro e w'⟨rfl,n,rfl⟩);go_ret3;exact⟨⟨_,_,by rw[<-A.o];rfl⟩,j5a _ _⟩
abbrev g3m(a:Nat):Value:=.func (.func 97) #[] #[.pointer (some ⟨a,0,none⟩)]
def z3o(w:World)(a:Nat)(bs:ByteArray):Prop:=a<w.heap.size/\w.cell? ⟨a,0,none⟩=some (.string bs)
theorem z3o.W{B:Nat}{w w':World}{a:Nat}{bs:ByteArray}(h:z3o w a bs)(hB:a<B)(hb:Below B w w'):z3o w' a bs:=
 ⟨Nat.lt_of_lt_of_le h.1 hb.size,(hb.cell (p:=⟨a,0,none⟩) hB).trans h.2⟩
theorem k3q(bs:ByteArray)(w:World):Calls prog 75 #[.string bs] w fun e w'=>e=.returned (g3m w.heap.size)/\w'=w.alloc (.cells #[.string bs] 9):=by
 go_in;go_wp2;go_ret;exact⟨rfl,rfl⟩
theorem z3o.new(bs:ByteArray)(w:World):z3o (w.alloc (.cells #[.string bs] 9)) w.heap.size bs:=⟨by rw[World.size_alloc];omega,z4m w _ _⟩
theorem y5j(s:ByteArray)(c:Int)(w:World):
  Calls prog 98 #[.string s,.int .u8 c] w fun e w'=>e=.returned (Lib.indexByte s.data.toList c.toNat.toUInt8)/\w'=w:=by
 go_in;go_wp2_with fail;refine(q6z _ _ _).mono ?_;rintro e A⟨rfl,rfl⟩;go_wp2;go_ret;exact⟨rfl,rfl⟩
theorem q9b(c:UInt8){a:Nat}{bs:ByteArray}{w:World}(h:z3o w a bs):Cw 97 #[.int .u8 (c.toNat:Int),.pointer a] w (.bool ((btL bs).any (·==c))):=by
 unfold Cw;have E:=h.2;have A:=(show Hid (_=_)from y0j (btL bs) c);have D:(c.toNat:Int).toNat.toUInt8=c:=by simp
 go_in;go_wp2_with fail;refine(y5j bs _ _).mono ?_;rintro e G⟨rfl,rfl⟩;rw[D];generalize B:Lib.indexByte bs.data.toList c=z;have C:Hid (decide (0<=z)=(btL bs).any (·==c)):=by rw[<-B];exact A
 clear B A;go_wp2;go_ret;exact⟨by rw[<-C.o];rfl,rfl⟩
set_option maxHeartbeats 2000000
theorem q4e(l:List UInt8):(wbS l).size=l.length:=by
 rw[<-q0c];rfl
theorem q6u{t:ByteArray}(h:0<t.size):btL t=t[0]::(btL t).drop 1:=by
 have A:=q1i h;rw[drop_zero,zero_add]at A;exact A
theorem j6i(n m:Nat):decide (n<=m)=decide ((n:Int)<=(m:Int)):=by
 by_cases h:n<=m
 ·rw[decide_eq_true h,decide_eq_true (by omega)]
 ·rw[decide_eq_false h,decide_eq_false (by omega)]
theorem v7i{w:World}{a:Nat}{bs:ByteArray}(h:z3o w a bs):z3o w.drew a bs:=h
abbrev z1z(t:ByteArray)(w:World)(e:Ending)(w':World):Prop:=e=.returned (.tuple #[.string (wbS (tkW (btL t))),.bool (q4y (btL t))])/\Below w w w'
theorem j6w(t:ByteArray)(w:World)(h0:0<t.size)(hs:t.size<=60000)(hl:q2a t[0]=true):Calls prog 76 #[.string t] w fun e w'=>z1z t w e w':=by
 obtain⟨C,K⟩:=g1v (c:=t[0]) (r:=(btL t).drop 1) hl;rw[<-q6u h0]at C K;have M:Hid (q9r 97 122 t[0]=true):=hl
 have J:Hid (wbS ((btL t).takeWhile (q9r 97 122))=wbS (tkW (btL t))):=by
  show _=_;rw[C];rfl
 have B:Hid (q4y (btL t)=decide (((wbS (tkW (btL t))).size:Int)<=8)):=by
  show _=_;rw[K,q4e,C,j6i];rfl
 have Y:(wbS (tkW (btL t))).size<=60000:=by
  rw[q4e];exact le_trans (z2y _) (by rw[q0c];exact hs)
 generalize X:wbS (tkW (btL t))=W at J B Y;generalize V:q4y (btL t)=O at B;have P:=(show Hid (_=_)from X);have N:=(show Hid (_=_)from V);go_in;go_wp2_with fail;refine(q4t 97 122 _).mono ?_;rintro e b⟨⟨Q,S,rfl,D⟩,G⟩;go_wp2_with fail;refine(q4t 48 57 _).mono ?_;rintro e H⟨⟨R,U,rfl,E⟩,A⟩;have I:Hid (q4n H Q S 97 122):=D.W A;have a:Hid (q4n H R U 48 57):=E;have L:Hid (Below w w H):=q0e G Zl A;go_wp2_with fail;refine(q3r t[0] I.o).mono ?_;rintro e Z⟨rfl,rfl⟩;rw[M.o];go_wp2_with fail;refine(k7b t I.o hs).mono ?_;rintro e Z⟨rfl,rfl⟩;rw[J.o];go_wp2;refine bodyPost_ret (v:=.tuple #[.string W,.bool O]) (by rw[B.o];simp[results,Tryz.results76,go_sem]) rfl ?_;exact⟨by rw[P.o,N.o],L.o⟩
theorem j6v(t:ByteArray)(w:World)(h0:0<t.size)(hs:t.size<=60000)(hl:q2a t[0]=false)(hf:q1x t[0]=true):Calls prog 76 #[.string t] w fun e w'=>z1z t w e w':=by
 obtain⟨G,R⟩:=g1u (c:=t[0]) (r:=(btL t).drop 1) hl hf;rw[<-q6u h0]at G R;have Z:Hid (q9r 97 122 t[0]=false):=hl;have X:Hid (q9r 48 57 t[0]=true):=hf
 have P:Hid (wbS ((btL t).takeWhile (q9r 48 57))=wbS (tkW (btL t))):=by
  show _=_;rw[G];rfl
 have E:Hid (q4y (btL t)=(decide (((wbS (tkW (btL t))).size:Int)<=6)&&((t[0].toNat:Int) != 48||(wbS (tkW (btL t))).toList==[48]))):=by
  show _=_
  have H:((t[0].toNat:Int) != 48)=(t[0] != 48):=by
   show(!((t[0].toNat:Int)==48))=(!(t[0]==48))
   rw[show(48:Int)=((48:Nat):Int)from rfl,q6f _ 48 (by decide)];rfl
  have j:(wbS (tkW (btL t))).toList=tkW (btL t):=by rw[Lib.toList_data];rfl
  rw[H,j,R,q4e,G,j6i];rfl
 have m:(wbS (tkW (btL t))).size<=60000:=by
  rw[q4e];exact le_trans (z2y _) (by rw[q0c];exact hs)
 generalize l:wbS (tkW (btL t))=W at P E m;generalize k:q4y (btL t)=O at E;have b:=(show Hid (_=_)from l);have a:=(show Hid (_=_)from k)
 have L:(¬(W.size:Int)<=6/\Hid (O=false))\/((W.size:Int)<=6/\((t[0].toNat:Int) != 48)=true/\Hid (O=true))\/((W.size:Int)<=6/\((t[0].toNat:Int) != 48)=false/\Hid (O=(W.toList==[48]))):=by
  have A:=E.o;by_cases B:(W.size:Int)<=6
  ·rw[decide_eq_true B,Bool.true_and]at A;cases S:((t[0].toNat:Int) != 48)with
   | true=>rw[S,Bool.true_or]at A;exact .inr (.inl ⟨B,rfl,A⟩)
   | false=>rw[S,Bool.false_or]at A;exact .inr (.inr ⟨B,rfl,A⟩)
  ·rw[decide_eq_false B,Bool.false_and]at A;exact .inl ⟨B,A⟩
 go_in;go_wp2_with fail;refine(q4t 97 122 _).mono ?_;rintro e n⟨⟨d,g,rfl,I⟩,K⟩;go_wp2_with fail;refine(q4t 48 57 _).mono ?_;rintro e M⟨⟨f,h,rfl,J⟩,C⟩;have Y:Hid (q4n M d g 97 122):=I.W C;have N:Hid (q4n M f h 48 57):=J;have V:Hid (Below w w M):=q0e K Zl C;go_wp2_with fail;refine(q3r t[0] Y.o).mono ?_;rintro e U⟨rfl,rfl⟩;rw[Z.o];go_wp2_with fail;refine(q3r t[0] N.o).mono ?_;rintro e U⟨rfl,rfl⟩;rw[X.o];go_wp2_with fail;refine(k7b t N.o hs).mono ?_;rintro e U⟨rfl,rfl⟩;rw[P.o];rcases L with⟨Q,D⟩|⟨Q,i,D⟩|⟨Q,i,D⟩
 all_goals
  go_wp2;refine bodyPost_ret (v:=.tuple #[.string W,.bool O]) (by rw[D.o];simp[results,Tryz.results76,go_sem]) rfl ?_;exact⟨by rw[b.o,a.o],V.o⟩
theorem j1s(t:ByteArray)(w:World)(h0:0<t.size)(hs:t.size<=60000)(hl:q2a t[0]=false)(hf:q1x t[0]=false)(hn:t[0]=35):Calls prog 76 #[.string t] w fun e w'=>z1z t w e w':=by
 obtain⟨J,L⟩:=y7t (c:=t[0]) (r:=(btL t).drop 1) hl hf hn;rw[<-q6u h0]at J L;have j:Hid (q9r 97 122 t[0]=false):=hl;have f:Hid (q9r 48 57 t[0]=false):=hf;have y:((t[0].toNat:Int)==35)=true:=by rw[hn];rfl
 have U:Hid (wbS (q1k (btL (k2x t)))=wbS (tkW (btL t))):=by
  show _=_;rw[J];rfl
 have Q:(k2x t).size<=60000/\0<(k2x t).size:=by
  have x:=j0n nlB (btL t);rw[q0c]at x;rw[k2x,q4e];refine⟨by omega,?_⟩;rw[q6u h0,takeWhile_cons,if_pos (by rw[hn];rfl)];simp
 have I:Hid (q4y (btL t)=((wbS ((btL (wbS (tkW (btL t)))).takeWhile (q9r 32 126))).toList==(wbS (tkW (btL t))).toList)):=by
  show _=_;rw[Lib.toList_data,Lib.toList_data,L,J];rfl
 have Z:(wbS (tkW (btL t))).size<=60000:=by
  rw[q4e];exact le_trans (z2y _) (by rw[q0c];exact hs)
 generalize Y:wbS (tkW (btL t))=W at U I Z;generalize X:q4y (btL t)=O at I;have m:=(show Hid (_=_)from Y);have l:=(show Hid (_=_)from X);generalize V:wbS ((btL W).takeWhile (q9r 32 126))=M at I;have k:=(show Hid (_=_)from V);obtain⟨N,P⟩:=Q;clear J L hl hf hn Y X V;go_in;go_wp2_with fail;refine(q4t 97 122 _).mono ?_;rintro e z⟨⟨n,q,rfl,B⟩,E⟩;go_wp2_with fail;refine(q4t 48 57 _).mono ?_;rintro e R⟨⟨o,s,rfl,C⟩,A⟩;have g:Hid (q4n R n q 97 122):=B.W A;have h:Hid (q4n R o s 48 57):=C;have d:Hid (Below w w R):=q0e E Zl A;clear B C E A;go_wp2_with fail;refine(q3r t[0] g.o).mono ?_;rintro e a⟨rfl,rfl⟩;rw[j.o];go_wp2_with fail;refine(q3r t[0] h.o).mono ?_;rintro e a⟨rfl,rfl⟩;rw[f.o];go_wp2_with fail;refine(v7w t _ hs).mono ?_;rintro e a⟨⟨r,b,rfl⟩,G⟩;go_wp2_with fail;refine(v2s (k2x t) _ P N).mono ?_;rintro e S⟨rfl,rfl⟩;rw[U.o];go_wp2_with fail;refine(q4t 32 126 _).mono ?_;rintro e S⟨⟨p,u,rfl,D⟩,H⟩;have i:Hid (q4n S p u 32 126):=D;have K:Hid (Below w w S):=q0e (q0e d.o Zl G) Zl H;clear D G H;go_wp2_with fail;refine(k7b W i.o Z).mono ?_;rintro e w5⟨rfl,rfl⟩;rw[k.o];go_wp2;refine bodyPost_ret (v:=.tuple #[.string W,.bool O]) (by rw[I.o];simp[results,Tryz.results76,go_sem]) rfl ?_;exact⟨by rw[m.o,l.o],K.o⟩
theorem j1r(t:ByteArray)(w:World)(h0:0<t.size)(hs:t.size<=60000)(G:spB t[0]=false)(hl:q2a t[0]=false)(hf:q1x t[0]=false)(hn:(t[0]==35)=false):Calls prog 76 #[.string t] w fun e w'=>z1z t w e w':=by
 obtain⟨K,L⟩:=y7s (c:=t[0]) (r:=(btL t).drop 1) G hl hf hn;rw[<-q6u h0]at K L;have S:Hid (q9r 97 122 t[0]=false):=hl;have P:Hid (q9r 48 57 t[0]=false):=hf;have d:(1:Int)<=(t.size:Int):=by omega
 have f:(0:Int)<(t.size:Int):=by omega
 have i:((t[0].toNat:Int)==35)=false:=by rw[show(35:Int)=((35:Nat):Int)from rfl,q6f _ 35 (by decide)];exact hn
 have J:Hid (t.extract 0 1=wbS (tkW (btL t))):=by
  show _=_
  have b:(btL t).take 1=[t[0]]:=by
   have M:=congrArg (List.take 1) (q6u h0);rw[take_succ_cons,List.take_zero]at M;exact M
  rw[K,k8n,b]
 have B:Hid (q4y (btL t)=(btL (⟨#[40,41,91,93,44,43,42,61,59]⟩:ByteArray)).any (·==t[0])):=by
  show _=_;rw[L];rfl
 have j:(wbS (tkW (btL t))).size<=60000:=by
  rw[q4e];exact le_trans (z2y _) (by rw[q0c];exact hs)
 generalize h:wbS (tkW (btL t))=W at J B j;generalize g:q4y (btL t)=O at B;have V:=(show Hid (_=_)from h);have U:=(show Hid (_=_)from g);go_in;go_wp2_with fail;refine(q4t 97 122 _).mono ?_;rintro e l⟨⟨X,Z,rfl,C⟩,E⟩;go_wp2_with fail;refine(q4t 48 57 _).mono ?_;rintro e H⟨⟨Y,a,rfl,D⟩,A⟩;have Q:Hid (q4n H X Z 97 122):=C.W A;have R:Hid (q4n H Y a 48 57):=D;have I:Hid (Below w w H):=q0e E Zl A;go_wp2_with fail;refine(q3r t[0] Q.o).mono ?_;rintro e N⟨rfl,rfl⟩;rw[S.o];go_wp2_with fail;refine(q3r t[0] R.o).mono ?_;rintro e N⟨rfl,rfl⟩;rw[P.o];go_wp2_with fail
 go_region_held3 (fun _=>True) (trivial) (first|(go_at_call 75;refine(k3q _ _).mono ?_;rintro e N⟨rfl,rfl⟩)|(go_at_call 97;refine(q9b t[0] (z3o.new _ _)).mono ?_;rintro e k⟨rfl,rfl⟩;rw[<-B.o])|(go_at_call 97;refine(q9b t[0] (v7i (z3o.new _ _))).mono ?_;rintro e k⟨rfl,rfl⟩;rw[<-B.o]))
 all_goals
  go_wp2;refine bodyPost_ret (v:=.tuple #[.string (t.extract 0 1),.bool O]) (by simp[results,Tryz.results76,go_sem]) rfl ?_;exact⟨by rw[J.o,V.o,U.o],(I.o.alloc I.o.size _).trans ⟨rfl,rfl,rfl,le_refl _,fun _ _=>rfl⟩⟩
theorem j6u(t:ByteArray)(w:World)(h0:0<t.size)(hs:t.size<=60000)(C:spB t[0]=false):Calls prog 76 #[.string t] w fun e w'=>z1z t w e w':=by
 cases A:q2a t[0]with
 | true=>exact j6w t w h0 hs A
 | false=>
  cases B:q1x t[0]with
  | true=>exact j6v t w h0 hs A B
  | false=>
   cases D:(t[0]==35)with
   | true=>exact j1s t w h0 hs A B (beq_iff_eq.1 D)
   | false=>exact j1r t w h0 hs C A B D
set_option maxHeartbeats 4000000
theorem q8w(s:ByteArray)(w:World)(h:s.size<=281474976710656):
  Cb 77 #[.string s] w (.string s):=by
 unfold Cb;go_in;go_wp2_with fail;refine(clone_sh s _ h).mono ?_;rintro e B⟨rfl,A⟩;go_wp2;go_ret;exact⟨rfl,A⟩
theorem y1q(c:UInt8):(btL (⟨#[32,10]⟩:ByteArray)).any (·==c)=spB c:=by
 show((32==c)||((10==c)||false))=(c==32||c==10)
 rw[Bool.or_false,BEq.comm (a:=(32:UInt8)),BEq.comm (a:=(10:UInt8))]
theorem q6b.later{s:ByteArray}{w:World}{i:Nat}{dn:List (Nat × List UInt8)}{A P:Option Addr}{ac pc:Nat}{wr wr':World}(h:q6b s w i dn A P ac pc wr)(hb:Below wr wr wr'):q6b s w i dn A P ac pc wr':=
 {b:=h.b.trans (hb.mono h.b.size),le:=h.le,ln:=h.ln,eq:=h.eq,ws:=q2r h.ws hb,ps:=q2r h.ps hb}
theorem y7r{s:ByteArray}{k:Nat}(h:k<s.size):0<(s.extract k s.size).size/\∀h0:0<(s.extract k s.size).size,(s.extract k s.size)[0]=s[k]:=by
 have B:0<(s.extract k s.size).size:=by rw[ByteArray.size_extract];omega
 refine⟨B,fun h0=>?_⟩;have A:=q6u h0;rw[k8m,q1i h,List.cons.injEq]at A;exact A.1.symm
theorem j8l{s:ByteArray}{k:Nat}(h:k<s.size)(hs:s.size<=60000)(A:spB s[k]=false)(W:World):
  Cb 76 #[.string (s.extract k s.size)] W (.tuple #[.string (wbS (tkW ((btL s).drop k))),.bool (tOk s k)]):=by
 unfold Cb;obtain⟨B,C⟩:=y7r h
 have:=j6u (s.extract k s.size) W B (by rw[ByteArray.size_extract];omega) (by rw[C B];exact A)
 unfold z1z at this;rw[k8m]at this;exact this
theorem y6c{l:List UInt8}{c:UInt8}{z:List UInt8}(h:l=c::z)(h0:0<(wbS l).size):(wbS l)[0]=c:=by
 subst h;rfl
theorem v3m{s:ByteArray}{k:Nat}(h:k<s.size)(A:spB s[k]=false):0<(wbS (tkW ((btL s).drop k))).size/\∀h0:0<(wbS (tkW ((btL s).drop k))).size,(wbS (tkW ((btL s).drop k)))[0]=s[k]:=by
 have C:∃z,tkW ((btL s).drop k)=s[k]::z:=by
  rw[tkW,q1i h];have E:=q5p s[k] ((btL s).drop (k+1));obtain⟨m,D⟩:∃m,q0x (s[k]::(btL s).drop (k+1))=m+1:=⟨_,(Nat.sub_add_cancel E).symm⟩;rw[D,take_succ_cons];exact z2z (k7e A) _
 obtain⟨z,B⟩:=C;exact⟨by rw[q4e,B];simp,fun h0=>y6c B h0⟩
theorem q6b.next{s:ByteArray}{w:World}{i:Nat}{dn:List (Nat × List UInt8)}{A P:Option Addr}{ac pc:Nat}{wr:World}(h:q6b s w i dn A P ac pc wr)(hi:i<s.size)(hs:spB s[i]=false)(ho:tOk s i=true){A' P':Option Addr}{B C:Nat}{w':World}(hb:Below w w w')
  (h1:w'.ownsRow w.heap.size 9 1 (.slice A' (dn.length+1) B) (dn.length+1) (strCells (dn.map fun x=>wbS x.2)++[.string (wbS (tkW ((btL s).drop i)))])) (h2:w'.ownsRow w.heap.size 3 1 (.slice P' (dn.length+1) C) (dn.length+1) (q3b (dn.map (·.1))++[.int .i64 (i:Int)])):
  q6b s w (i+(tkW ((btL s).drop i)).length) (dn++[(i,tkW ((btL s).drop i))]) A' P' B C w':=by
 have D:=h.word hi hs ho hb h1 h2
 have H:1<=(tkW ((btL s).drop i)).length:=by
  rw[tOk,q1i hi]at ho;rw[q1i hi];exact y5v hs ho
 have G:(tkW ((btL s).drop i)).length+i<=s.size:=by
  have:=z2y ((btL s).drop i)
  rw[length_drop,q0c]at this;omega
 have e:=D.eq;have E:=v6s ((btL s).drop i) i;rw[drop_drop,drop_drop]at E;refine{b:=D.b,le:=by omega,ln:=by have:=h.ln;simp;omega,eq:=?_,ws:=D.ws,ps:=D.ps};rw[e,lxW,lxF,lxW,lxF,E];rfl
theorem k9r{w:World}{B B' e A n:Nat}{v:Value}{xs:List Value}(h:w.ownsRow B e A v n xs)(hB:B'<=B):w.ownsRow B' e A v n xs:=by
 refine⟨h.1,?_⟩;rcases h.2 with E|⟨g,c,D,G,H,C⟩
 ·exact .inl E
 ·exact .inr ⟨g,c,D,G,by omega,C⟩
def k7s(s:ByteArray)(w:World)(e:Ending)(w':World):Prop:=
 (q8e (btL s)≠0/\e=.returned (.tuple #[.slice none 0 0,.slice none 0 0,.int .i64 ((k1j (btL s):Nat):Int),q2m (q8e (btL s))]))\/
 (q8e (btL s)=0/\∃A P ac pc,e=.returned (.tuple #[.slice A (q2o (btL s)).length ac,.slice P (q2o (btL s)).length pc,.int .i64 0,.nilIface])/\q2i w (.slice A (q2o (btL s)).length ac) ((q2o (btL s)).map wbS) w'/\z2b w.heap.size (.slice P (q2o (btL s)).length pc) (z3j (btL s)) w')
theorem k7l(s:ByteArray)(w:World)(hl:(btL s).length<=60000):Calls prog 48 #[.string s] w fun e w'=>k7s s w e w'/\Below w w w':=by
 have o:s.size<=60000:=by rw[<-q0c];exact hl
 clear hl;have Ax:¬60000<(s.size:Int):=by omega
 go_in;go_wp2_with fail;refine(k3q _ _).mono ?_;rintro e f⟨rfl,Ag⟩;have HO:Hid (z3o f w.heap.size ⟨#[32,10]⟩):=by rw[Ag];exact z3o.new _ _
 have y:Hid (Below w w f):=by rw[Ag];exact Zb.alloc Zl _
 have n:=HO.o.1;generalize Ao:w.heap.size=bk at HO y n⊢;have V:=hid Ao;clear Ag Ao;go_wp2_with fail
 go_loopw [2,3,7,8] (fun x p m i wr=>∃(k:Nat)(K:List (Nat × List UInt8))(A P:Option Addr)(ac pc:Nat),x=.slice A K.length ac/\p=.slice P K.length pc/\m=.int .i64 ((many (K.map (·.2)):Nat):Int)/\i=(k:Int)/\q6b s f k K A P ac pc wr) (fun _ _ _ i _=>s.size-(intOf i).toNat)
 case atStart=>exact⟨0,[],none,none,0,0,rfl,rfl,rfl,rfl,{b:=Below.refl _ _,le:=zero_le _,ln:=le_refl _,eq:=rfl,ws:=World.ownsRow_nil _ _ _ _,ps:=World.ownsRow_nil _ _ _ _}⟩
 case round=>
  obtain⟨k,K,A,P,ac,pc,rfl,rfl,rfl,rfl,hR⟩:=hrel;have HR:=hid hR;have Ac:=hid (HO.o.W n hR.b);have z:=hid (y.o.trans (hR.b.mono (Nat.le_of_lt n)));have A0:=hR.le;have A1:=hR.ln
  have At:many (K.map (·.2))<=60000:=by
   have h1:many (K.map (·.2))<=(K.map (·.2)).length:=List.length_filter_le _ _;rw[length_map]at h1;omega
  clear hR;generalize Ap:many (K.map (·.2))=mm at At;have Aa:=hid Ap;clear Ap;by_cases N:k<s.size
  ·have Ar:(k:Int)<(s.size:Int):=by omega
   cases hs:spB s[k]with
   | true=>
    have HN:=hid (HR.o.space N hs);have HP:=(show Hid (_=_)from y1q s[k]);go_wp2_with fail;refine(q9b s[k] Ac.o).mono ?_;rintro e w2⟨rfl,rfl⟩;rw[HP.o,hs];clear hs;go_wp2
    go_roundw
    case rel=>exact⟨k+1,K,A,P,ac,pc,rfl,rfl,by rw[Aa.o],by go_num,HN.o⟩
    case measure=>simp[intOf];omega
   | false=>
    have HP:=(show Hid (_=_)from y1q s[k]);have HS:=hid hs;have Az:(k:Int)<=(s.size:Int):=by omega
    clear hs;go_wp2_with fail;refine(q9b s[k] Ac.o).mono ?_;rintro e w2⟨rfl,rfl⟩;rw[HP.o,HS.o];go_wp2_with fail;refine(j8l N o HS.o _).mono ?_;rintro e w2⟨rfl,J⟩;have S:=hid (HR.o.later J);have Q:=hid (y.o.trans (S.o.b.mono (Nat.le_of_lt n)));clear HR z Ac J;cases l:tOk s k with
    | false=>
     have g:=hid (k8y (by rw[q0c];exact o) (k2v S.o N HS.o l));generalize O:wbS (tkW ((btL s).drop k))=u;clear l O;go_wp2;refine bodyPost_ret (v:=.tuple #[.slice none 0 0,.slice none 0 0,(k:Int),.iface 24 (.int .i64 5)]) (by simp[results,Tryz.results48,go_sem]) rfl ?_;exact⟨.inl ⟨by rw[g.o.1];decide,by rw[g.o.1,g.o.2,y0e]⟩,by rw[V.o];exact Q.o⟩
    | true=>
     have An:=hid l;obtain⟨q,U⟩:=v3m N HS.o
     have Aq:(wbS (tkW ((btL s).drop k))).size+k<=s.size:=by
      have:=z2y ((btL s).drop k)
      rw[length_drop,q0c]at this;rw[q4e];omega
     have X:Hid (many (K.map (·.2)++[tkW ((btL s).drop k)])=mm+(if s[k] != 35 then 1 else 0)):=by
      show _=_;rw[k9e,Aa.o,k9f N HS.o]
     have h:Hid ((tkW ((btL s).drop k)).length=(wbS (tkW ((btL s).drop k))).size):=(q4e _).symm;generalize hW:tkW ((btL s).drop k)=W at X h q U Aq⊢;have HW:=hid hW;generalize O:wbS W=u at h q U Aq⊢;have HU:=hid O;have Ay:(0:Int)<(u.size:Int):=by omega
     clear l hW O;cases hn:(s[k] != 35)with
     | true=>
      have Au:((u[0].toNat:Int) != 35)=true:=by
       rw[U q]
       show(!((s[k].toNat:Int)==35))=true
       rw[show(35:Int)=((35:Nat):Int)from rfl,q6f _ 35 (by decide)];exact hn
      have Ab:Hid (many ((K++[(k,W)]).map (·.2))=mm+1):=by
       show _=_;rw[map_append]
       have:=X.o
       rw[hn]at this;exact this
      clear hn U X;go_wp2_with fail;refine(q8w u _ (by omega)).mono ?_;rintro e w3⟨rfl,G⟩;have E:=hid (S.o.later G);have Aw:=E.o.b.size;clear S Q G;obtain⟨i0,Ae,Ak,Al,Am⟩:=info_parts z1l;go_wp2_with(at_builtin;refine wpList_append_lies _ rfl _ _ 51 rfl f.heap.size 9 i0 _ 1 16 Tryz.underlying51 Ae Ak Al Am rfl (by decide) _ _ _ rfl (World.ownsRow.alloc E.o.ws _) w3.heap.size 1 1 [.string u] rfl rfl (cell_one_new w3 _ _) (by intro u O;simp at O;subst O;rfl) (by decide) (by unfold maxLen;omega) (by omega) (by simp;omega) (w3.heap.size+1) (by simp) ?_);intro g2 L r H C Z c;have J:=(E.o.b.alloc (by omega) (.cells #[.string u] 9)).grown C (by simp;omega) (fun j hj=>(World.ownsRow.lt E.o.ws j hj).1);have Q:=(show Hid (Below _ _ _)from J);have R:=hid (z2s (World.ownsRow.alloc E.o.ps _) (World.ownsRow.alloc E.o.ws _) (by decide) C);have Ad:=(show Hid (r.ownsRow _ _ _ _ _ _)from H);have Av:=J.size;clear H C J Z c;obtain⟨i1,Af,Ah,Ai,Aj⟩:=info_parts z3f;go_wp2_with(at_builtin;refine wpList_append_lies _ rfl _ _ 63 rfl f.heap.size 3 i1 _ 1 8 Tryz.underlying63 Af Ah Ai Aj rfl (by decide) _ _ _ rfl (World.ownsRow.alloc R.o _) r.heap.size 1 1 [(k:Int)] rfl rfl (cell_one_new r _ _) (by intro u O;simp at O;subst O;rfl) (by decide) (by unfold maxLen;omega) (by omega) (by simp;omega) (r.heap.size+1) (by simp) ?_);intro g3 M w5 I D a d;have G:=(Q.o.alloc (by omega) (.cells #[(k:Int)] 3)).grown D (by simp;omega) (fun j hj=>(World.ownsRow.lt R.o j hj).1);have Y:=z2s (World.ownsRow.alloc Ad.o _) (World.ownsRow.alloc R.o _) (by decide) D
      have HN:Hid (q6b s f (k+u.size) (K++[(k,W)]) g2 g3 L M w5):=by
       show q6b _ _ _ _ _ _ _ _ _;rw[<-h.o,<-HW.o];refine E.o.next N HS.o An.o G ?_ ?_
       ·rw[HW.o,HU.o];exact Y
       ·exact I
      clear I D a d G Y;go_wp2
      go_roundw
      case rel=>exact⟨k+u.size,K++[(k,W)],some ↑g2,some ↑g3,L,M,by rw[length_append];rfl,by rw[length_append];rfl,by rw[Ab.o];go_num,by go_num,HN.o⟩
      case measure=>simp[intOf];omega
     | false=>
      have Au:((u[0].toNat:Int) != 35)=false:=by
       rw[U q]
       show(!((s[k].toNat:Int)==35))=false
       rw[show(35:Int)=((35:Nat):Int)from rfl,q6f _ 35 (by decide)];exact hn
      have Ab:Hid (many ((K++[(k,W)]).map (·.2))=mm):=by
       show _=_;rw[map_append]
       have:=X.o
       rw[hn]at this;exact this
      clear hn U X;go_wp2_with fail;refine(q8w u _ (by omega)).mono ?_;rintro e w3⟨rfl,G⟩;have E:=hid (S.o.later G);have Aw:=E.o.b.size;clear S Q G;obtain⟨i0,Ae,Ak,Al,Am⟩:=info_parts z1l;go_wp2_with(at_builtin;refine wpList_append_lies _ rfl _ _ 51 rfl f.heap.size 9 i0 _ 1 16 Tryz.underlying51 Ae Ak Al Am rfl (by decide) _ _ _ rfl (World.ownsRow.alloc E.o.ws _) w3.heap.size 1 1 [.string u] rfl rfl (cell_one_new w3 _ _) (by intro u O;simp at O;subst O;rfl) (by decide) (by unfold maxLen;omega) (by omega) (by simp;omega) (w3.heap.size+1) (by simp) ?_);intro g2 L r H C Z c;have J:=(E.o.b.alloc (by omega) (.cells #[.string u] 9)).grown C (by simp;omega) (fun j hj=>(World.ownsRow.lt E.o.ws j hj).1);have Q:=(show Hid (Below _ _ _)from J);have R:=hid (z2s (World.ownsRow.alloc E.o.ps _) (World.ownsRow.alloc E.o.ws _) (by decide) C);have Ad:=(show Hid (r.ownsRow _ _ _ _ _ _)from H);have Av:=J.size;clear H C J Z c;obtain⟨i1,Af,Ah,Ai,Aj⟩:=info_parts z3f;go_wp2_with(at_builtin;refine wpList_append_lies _ rfl _ _ 63 rfl f.heap.size 3 i1 _ 1 8 Tryz.underlying63 Af Ah Ai Aj rfl (by decide) _ _ _ rfl (World.ownsRow.alloc R.o _) r.heap.size 1 1 [(k:Int)] rfl rfl (cell_one_new r _ _) (by intro u O;simp at O;subst O;rfl) (by decide) (by unfold maxLen;omega) (by omega) (by simp;omega) (r.heap.size+1) (by simp) ?_);intro g3 M w5 I D a d;have G:=(Q.o.alloc (by omega) (.cells #[(k:Int)] 3)).grown D (by simp;omega) (fun j hj=>(World.ownsRow.lt R.o j hj).1);have Y:=z2s (World.ownsRow.alloc Ad.o _) (World.ownsRow.alloc R.o _) (by decide) D
      have HN:Hid (q6b s f (k+u.size) (K++[(k,W)]) g2 g3 L M w5):=by
       show q6b _ _ _ _ _ _ _ _ _;rw[<-h.o,<-HW.o];refine E.o.next N HS.o An.o G ?_ ?_
       ·rw[HW.o,HU.o];exact Y
       ·exact I
      clear I D a d G Y;go_wp2
      go_roundw
      case rel=>exact⟨k+u.size,K++[(k,W)],some ↑g2,some ↑g3,L,M,by rw[length_append];rfl,by rw[length_append];rfl,by rw[Ab.o],by go_num,HN.o⟩
      case measure=>simp[intOf];omega
  ·have Ar:¬(k:Int)<(s.size:Int):=by omega
   have HX:=hid (k2w HR.o N)
   have HL:Hid ((q2o (btL s)).length=K.length/\many (q2o (btL s))=mm):=by
    refine⟨?_,?_⟩
    ·rw[q2o,HX.o.2,length_map]
    ·rw[q2o,HX.o.2];exact Aa.o
   by_cases t:300<mm
   ·have As:(300:Int)<(mm:Int):=by omega
    have g:=hid (k2t (by rw[q0c];exact o) HX.o.1 (by rw[HL.o.2];exact t));go_wp2;refine bodyPost_ret (v:=.tuple #[.slice none 0 0,.slice none 0 0,.int .i64 0,.iface 24 (.int .i64 3)]) (by simp[results,Tryz.results48,go_sem]) rfl ?_;exact⟨.inl ⟨by rw[g.o.1];decide,by rw[g.o.1,g.o.2,k8l];rfl⟩,by rw[V.o];exact z.o⟩
   ·have As:¬(300:Int)<(mm:Int):=by omega
    have g:=hid (k2u (by rw[q0c];exact o) HX.o.1 (by rw[HL.o.2];exact t));go_wp2;refine bodyPost_ret (v:=.tuple #[.slice A K.length ac,.slice P K.length pc,.int .i64 0,.nilIface]) (by simp[results,Tryz.results48,go_sem]) rfl ?_;refine⟨.inr ⟨g.o.1,A,P,ac,pc,by rw[HL.o.1],k9r (B:=f.heap.size) ?_ (by rw[V.o];omega),k9r (B:=f.heap.size) ?_ (by rw[V.o];omega)⟩,by rw[V.o];exact z.o⟩
    ·show wr.ownsRow _ _ _ _ _ _;rw[length_map,HL.o.1,q2o,HX.o.2,List.map_map];exact HR.o.ws
    ·show wr.ownsRow _ _ _ _ _ _;rw[<-z3m,HL.o.1,z3j,HX.o.2];exact HR.o.ps
theorem v3o(s:ByteArray)(w:World):Calls prog 48 #[.string s] w fun e w'=>k7s s w e w'/\Below w w w':=by
 by_cases h:(btL s).length<=60000
 ·exact k7l s w h
 ·have A:Hid (q8e (btL s)=3/\k1j (btL s)=0):=k2s (by omega);have B:60000<(s.size:Int):=by rw[q0c]at h;omega
  go_in;go_wp2;refine bodyPost_ret (v:=.tuple #[.slice none 0 0,.slice none 0 0,.int .i64 0,.iface 24 (.int .i64 3)]) (by simp[results,Tryz.results48,go_sem]) rfl ?_;exact⟨.inl ⟨by rw[A.o.1];decide,by rw[A.o.1,A.o.2,k8l];rfl⟩,Below.refl _ _⟩
theorem y1w:(prog.info? 59).map (fun i=>(i.zero,i.size,i.bytes))=some (some (.slice none 0 0),1,24):=by kernel_rfl
def q4f(B:Nat)(v:Value)(ps:List (List Td))(w:World):Prop:=
 ∃hs:List Value,w.ownsRow B 59 1 v ps.length hs/\∀i(h:i<ps.length),∃g c,hs[i]?=some (.slice (some ⟨g,0,none⟩) ps[i].length c)/\q1b B (.slice (some ⟨g,0,none⟩) ps[i].length c) ps[i] w
theorem q4f.nil(B:Nat)(w:World):q4f B (.slice Option.none 0 0) [] w:=⟨[],⟨rfl,.inl ⟨rfl,rfl⟩⟩,fun i h=>by simp at h⟩
theorem q9f{B:Nat}{w:World}{g n c:Nat}{xs:List Td}(h:q1b B (.slice g n c) xs w):B<=g/\n<=c/\∃cur,w.heap[g]?=some (.cells cur 71 (0,0)):=by
 rcases h.2 with⟨A,_⟩|⟨H,G,cur,A,C,E,D,_⟩
 ·cases A
 ·simp only[Value.slice.injEq,Option.some.injEq,Addr.mk.injEq,and_true]at A;obtain⟨rfl,rfl,rfl⟩:=A;exact⟨C,D,cur,E⟩
theorem k0w{B:Nat}{w w':World}{g n c:Nat}{xs:List Td}(h:q1b B (.slice g n c) xs w)(hk:w'.heap[g]?=w.heap[g]?):q1b B (.slice g n c) xs w':=by
 refine⟨h.1,?_⟩;rcases h.2 with⟨C,_⟩|⟨I,E,D,C,G,H,A⟩
 ·cases C
 ·have e:=C;simp only[Value.slice.injEq,Option.some.injEq,Addr.mk.injEq,and_true]at e;obtain⟨rfl,_,_⟩:=e;exact .inr ⟨g,E,D,C,G,hk.trans H,A⟩
theorem q4f.kept{B:Nat}{v:Value}{ps:List (List Td)}{w w':World}(h:q4f B v ps w)(hk:∀g,B<=g->g<w.heap.size->w'.heap[g]?=w.heap[g]?):q4f B v ps w':=by
 obtain⟨L,D,K⟩:=h;refine⟨L,⟨D.1,?_⟩,fun i hi=>?_⟩
 ·rcases D.2 with J|⟨g,c,C,M,E,G,A⟩
  ·exact .inl J
  ·exact .inr ⟨g,c,C,M,E,(hk g E (Array.getElem?_eq_some_iff.1 G).1).trans G,A⟩
 ·obtain⟨g,c,H,I⟩:=K i hi;exact⟨g,c,H,I.kept hk⟩
theorem q4f.but{B b:Nat}{v:Value}{ps:List (List Td)}{w w':World}(h:q4f B v ps w)(hb:But w b w w')(hB:b<B):q4f B v ps w':=h.kept fun g h1 h2=>hb.block g h2 (by omega)
theorem q4f.cell{B:Nat}{A:Option Addr}{n c:Nat}{ps:List (List Td)}{w:World}(h:q4f B (.slice A n c) ps w):n=ps.length/\n<=c/\(A=none->n=0/\c=0)/\∀i(h:i<ps.length),∃go g c',A=some ⟨go,0,none⟩/\B<=go/\k1g w go c/\w.cell? ⟨go,i,none⟩=some (.slice (some ⟨g,0,none⟩) ps[i].length c')/\q1b B (.slice (some ⟨g,0,none⟩) ps[i].length c') ps[i] w:=by
 obtain⟨Q,L,M⟩:=h;rcases L.2 with⟨D,K⟩|⟨go,P,E,D,N,I,G,_,O,C⟩
 ·simp only[Value.slice.injEq]at D;obtain⟨rfl,rfl,rfl⟩:=D;exact⟨K.symm,le_refl _,fun _=>⟨rfl,rfl⟩,fun i hi=>by omega⟩
 ·simp only[Value.slice.injEq]at D;obtain⟨rfl,rfl,rfl⟩:=D;refine⟨rfl,G,(fun e=>by cases e),fun i hi=>?_⟩;obtain⟨g,c',H,J⟩:=M i hi;refine⟨go,g,c',rfl,N,⟨E,_,I,by omega⟩,?_,J⟩;rw[<-C,List.getElem?_take_of_lt (by omega)]at H;simp only[World.cell?,I];simpa using H
theorem q4f.prg{B:Nat}{A:Option Addr}{n c:Nat}{ps:List (List Td)}{w:World}(h:q4f B (.slice A n c) ps w):Prg w A ps:=by
 intro i H;obtain⟨E,g,D,e,_,I,G,C⟩:=h.cell.2.2.2 i H;exact⟨E,0,_,D,e,I.lt,by rw[zero_add];exact G,(q9f C).2.1,C.tds⟩
theorem k0d{B:Nat}{w:World}{v:Value}{n:Nat}{hs:List Value}(h:w.ownsRow B 59 1 v n hs){k:Nat}(hk:v.ownBlock=some k):∃cur,w.heap[k]?=some (.cells cur 59 (0,0)):=by
 rcases h.2 with⟨rfl,_⟩|⟨g,c,cur,rfl,_,A,_⟩
 ·cases hk
 ·have:g=k:=by simpa[Value.ownBlock]using hk
  subst this;exact⟨cur,A⟩
theorem z8q{w:World}{L:Array Oper}{rest:List Oper}{o:Oper}{a:Act}{Q:Exit->Act->World->Prop}(P:o.guard=none)(s x:Operand)
  (ho:o.op=.call {callee:=.builtin .append,args:=#[s,x],argTypes:=#[31,31]})
  (B:Nat) (v:Value) (ps:List (List Td)) (hs:a.eval s=v) (J:q4f B v ps w)
  (b0 g n c:Nat) (t:List Td) (hn:t.length=n) (hx:a.eval x=.slice b0 1 1) (hc:w.cell? b0=some (.slice g n c)) (hT:q1b B (.slice g n c) t w)
  (m:Nat) (hm:ps.length+1=m) (hb:m<=1000000) (E:B<=w.heap.size)
  (h:∀A c' w',q4f B (.slice A m c') (ps++[t]) w'->w.grownBy w' v.ownBlock->wpList prog L Q rest (a.put o.dst (.slice A m c')) w'):wpList prog L Q (o::rest) a w:=by
 subst hn hm;obtain⟨z,R,V,W,X⟩:=info_parts y1w;obtain⟨K,O,y⟩:=J;refine wpList_append_own w P s x 31 ho B 59 z _ 1 24 Tryz.underlying31 R V W X rfl (by decide) v ps.length K hs O b0 1 1 [.slice g t.length c] hx rfl ?_ (by intro u l;simp at l;subst l;rfl) (by unfold maxLen;omega) (by omega) E ?_
 ·intro j u U;cases j with
  | zero=>
   simp at U;subst U;rw[z0l];exact hc
  | succ j=>simp at U
 ·intro v' w' d f _
  have C:∀{D Y c':Nat}{Z:List Td},q1b B (.slice D Y c') Z w->q1b B (.slice D Y c') Z w':=by
   intro D Y c' Z G;obtain⟨_,_,N,H⟩:=q9f G;refine k0w G (f.block D (Array.getElem?_eq_some_iff.1 H).1 fun e=>?_);obtain⟨b,I⟩:=k0d O e.symm;rw[H]at I;simp at I
  obtain⟨A,c',rfl⟩:∃A c',v'=.slice A (ps.length+1) c':=by
   rcases d.2 with⟨p,h0⟩|⟨D,c',N,p,_⟩
   ·omega
   ·exact⟨_,c',p⟩
  refine h A c' w' ⟨K++[.slice g t.length c],?_,fun i R=>?_⟩ f
  ·rw[length_append];exact d
  ·have k:=O.1;rw[mul_one]at k;by_cases e:i<ps.length
   ·obtain⟨D,M,q,r⟩:=y i e;rw[List.getElem_append_left e];refine⟨D,M,?_,C r⟩;rw[List.getElem?_append_left (by omega)];exact q
   ·have S:i=ps.length:=by simp at R;omega
    subst S;rw[List.getElem_append_right Zl];refine⟨g,c,?_,?_⟩
    ·rw[List.getElem?_append_right (by omega),k];simp
    ·simp only[sub_self,List.getElem_cons_zero];exact C hT
theorem q4f.last{B:Nat}{go n c:Nat}{ps:List (List Td)}{l t:List Td}{w:World}(h:q4f B (.slice go n c) (ps++[l]) w){g c':Nat}(hT:q1b B (.slice g t.length c') t w):q4f B (.slice go n c) (ps++[t]) (w.setCell (go,ps.length) (.slice g t.length c')):=by
 obtain⟨b,N,Y⟩:=h;have X:=N.1;rw[mul_one,length_append,length_singleton]at X
 have R:∀{D G c':Nat}{H:List Td},q1b B (.slice D G c') H w->D≠go:=by
  intro D G c' H E e;obtain⟨_,_,I,K⟩:=q9f E;obtain⟨V,O⟩:=k0d N (k:=go) rfl;rw[e,O]at K;simp at K
 have A:∀{D G c':Nat}{H:List Td}(u:Value)(j:Nat),q1b B (.slice D G c') H w->q1b B (.slice D G c') H (w.setCell (go,j) u):=by
  intro D G c' H u j E;exact k0w E (Below.heap_setCell _ _ _ _ (R E))
 refine⟨b.set ps.length (.slice g t.length c'),⟨by simp[X],?_⟩,fun i hi=>?_⟩
 ·rcases N.2 with⟨U,_⟩|⟨D,d,I,U,Z,a,L,Q,S,C⟩
  ·cases U
  ·have e:=U;simp only[Value.slice.injEq,Option.some.injEq,Addr.mk.injEq,and_true]at e;obtain⟨rfl,J,rfl⟩:=e;rw[length_append,length_singleton]at J L C;refine .inr ⟨go,c,I.setIfInBounds ps.length (.slice g t.length c'),?_,Z,?_,?_,Q,by simpa using S,?_⟩
   ·rw[length_append,length_singleton,J]
   ·simp[World.setCell,Array.getElem?_modify,a]
   ·rw[length_append,length_singleton];exact L
   ·rw[length_append,length_singleton,Array.toList_setIfInBounds,List.take_set,C]
 ·rw[length_append,length_singleton]at hi;by_cases e:i<ps.length
  ·obtain⟨D,M,W,J⟩:=Y i (by simp;omega);rw[List.getElem_append_left e]at W J⊢;refine⟨D,M,?_,A _ _ J⟩;rw[List.getElem?_set_ne (by omega)];exact W
  ·have P:i=ps.length:=by omega
   subst P;rw[List.getElem_append_right Zl];simp only[sub_self,List.getElem_cons_zero];exact⟨g,c',by rw[List.getElem?_set_self (by omega)],A _ _ hT⟩
theorem q4f.own_le{B:Nat}{v:Value}{ps:List (List Td)}{w:World}(h:q4f B v ps w){k:Nat}(hk:v.ownBlock=some k):B<=k:=by
 obtain⟨E,C,_⟩:=h;rcases C.2 with⟨rfl,_⟩|⟨g,c,A,rfl,D,_⟩
 ·cases hk
 ·have:g=k:=by simpa[Value.ownBlock]using hk
  omega
theorem v7a{B:Nat}{v:Value}{ps:List (List Td)}{w:World}(h:q4f B v ps w)(hB:B<=w.heap.size)(x:Td):
  q4f B v ps ((w.alloc (.cells #[x.op,.string x.tx,x.n] 71)).alloc (.cells #[.slice w.heap.size 1 1] 59))/\
  q1b B (.slice w.heap.size 1 1) [x] ((w.alloc (.cells #[x.op,.string x.tx,x.n] 71)).alloc (.cells #[.slice w.heap.size 1 1] 59))/\
  ((w.alloc (.cells #[↑x.op,.string x.tx,↑x.n] 71)).alloc (.cells #[.slice ↑w.heap.size 1 1] 59)).cell? ↑(w.heap.size+1)=some (.slice ↑w.heap.size 1 1):=by
 have D:Below w w (w.alloc (.cells #[↑x.op,.string x.tx,↑x.n] 71)):= Zb.alloc Zl _;have A:∀w0:World,∀o:Obj,Below w0 w0 (w0.alloc o):=fun w0 o=> Zb.alloc Zl _
 refine⟨(h.kept fun g _ h2=>D.block g h2).kept fun g _ h2=>(A _ _).block g h2,((q1b.one w x).down hB).kept fun g _ h2=>(A _ _).block g h2,?_⟩;have C:=cell_one_new (w.alloc (.cells #[↑x.op,.string x.tx,↑x.n] 71)) (.slice ↑w.heap.size 1 1) 59;rw[World.size_alloc]at C;exact C 0 _ rfl
theorem k0j{B:Nat}{v:Value}{ps:List (List Td)}{w:World}(h:q4f B v ps w){g n c:Nat}{t:List Td}(hT:q1b B (.slice g n c) t w):
  q4f B v ps (w.alloc (.cells #[.slice g n c] 59))/\q1b B (.slice g n c) t (w.alloc (.cells #[.slice g n c] 59))/\
  (w.alloc (.cells #[.slice g n c] 59)).cell? w.heap.size=some (.slice g n c):=by
 have A:Below w w (w.alloc (.cells #[.slice g n c] 59)):= Zb.alloc Zl _;exact⟨h.kept fun g _ h2=>A.block g h2,hT.kept fun g _ h2=>A.block g h2,cell_one_new w (.slice g n c) 59 0 _ rfl⟩
theorem z1p{B:Nat}{w:World}{A:Option Addr}{n c:Nat}{x:Td}{xs:List Td}(h:q1b B (.slice A n c) (x::xs) w):∃g,A=some ⟨g,0,none⟩:=by
 rcases h.2 with⟨_,E⟩|⟨g,G,D,C,_⟩
 ·simp at E
 ·simp only[Value.slice.injEq]at C;exact⟨g,C.1⟩
theorem k0q{w:World}{B:Array Oper}{o:Oper}{a:Act}{K:Act->World->Prop}{Q:Exit->Act->World->Prop}{E:Prop}(C:o.guard=none)(s x:Operand)(t:TypeId)
  (ho:o.op=.call {callee:=.builtin .append,args:=#[s,x],argTypes:=#[t,t]}) (v u v':Value) (w':World) (hs:a.eval s=v) (hx:a.eval x=u)
  (A:(Builtin.append_ #[t,t] o.type #[v,u]).run prog w=.ok v' w') (hK:K (a.put o.dst v') w'):if Region.wanted o (yielded B a.tmps)=true then Oper.wp prog o a w K Q else E:=by
 have D:Region.wanted o (yielded B a.tmps)=true:=by simp[Region.wanted,C]
 rw[if_pos D];unfold Oper.wp;simp[execOp,ho,resolve,invoke,builtin,hs,hx,A,Result.andThen];exact hK
theorem q2e{w:World}{W:Array Oper}{o:Oper}{a:Act}{K:Act->World->Prop}{Q:Exit->Act->World->Prop}{E:Prop}(J:o.guard=none)(s x:Operand)
  (ho:o.op=.call {callee:=.builtin .append,args:=#[s,x],argTypes:=#[59,59]})
  (B:Nat) (v:Value) (xs:List Td) (hs:a.eval s=v) (C:q1b B v xs w)
  (wa:Option Addr) (n:Nat) (ws:List Td) (hn:ws.length=n) (wc:Nat) (hx:a.eval x=.slice wa n wc) (hW:Tds w wa ws) (L:wa=none->n=0/\wc=0)
  (m:Nat) (hm:xs.length+n=m) (hb:m<=1000000) (G:B<=w.heap.size)
  (h:∀A c w',q1b B (.slice A m c) (xs++ws) w'->w.grownBy w' v.ownBlock->K (a.put o.dst (.slice A m c)) w'):if Region.wanted o (yielded W a.tmps)=true then Oper.wp prog o a w K Q else E:=by
 subst hn hm;obtain⟨Z,Y,S,U,V⟩:=info_parts v2j
 have X:∀H w',q1b B H (xs++ws) w'->w.grownBy w' v.ownBlock->K (a.put o.dst H) w':=by
  intro H w' I O
  obtain⟨A,c,rfl⟩:∃A c,H=.slice A (xs.length+ws.length) c:=by
   rcases I.2 with⟨N,D⟩|⟨g,c,d,N,_⟩
   ·rw[length_append]at D;exact⟨.none,0,by rw[N,D]⟩
   ·rw[length_append]at N;exact⟨_,c,N⟩
  exact h A c w' I O
 cases wa with
 | none=>
  obtain⟨D,rfl⟩:=L rfl;obtain rfl:ws=[]:=List.eq_nil_of_length_eq_zero D;refine k0q J s x 59 ho v _ _ _ hs hx (run_append_owned_none (P:=prog) (w:=w) B 59 o.type 71 Z 3 Tryz.underlying59 Y v xs.length (q1h xs) C) ?_;refine X v w ?_ ⟨rfl,rfl,rfl,le_refl _,fun _ _ _=>rfl⟩;rw[List.append_nil];exact C
 | some ad=>
  have R:ws=[]\/∃b o,ad=⟨b,o,Option.none⟩:=by
   rcases Nat.eq_zero_or_pos ws.length with D|D
   ·exact .inl (List.eq_nil_of_length_eq_zero D)
   ·obtain⟨b,o,e,_⟩:=hW 0 D;exact .inr ⟨b,o,by simpa using e⟩
  obtain⟨H,w',M,I,O,_⟩:=run_append_own (P:=prog) w B 59 o.type 71 Z _ 3 32 Tryz.underlying59 Y S U V rfl (by decide) v xs.length (q1h xs) C ad ws.length wc (q1h ws) (q7l ws) (by
   rcases R with rfl|⟨b,o,rfl⟩
   ·intro j u f;simp[q1h]at f
   ·exact j0h hW) (z5v ws) (by unfold maxLen;omega) (by omega) G
  refine k0q J s x 59 ho v _ H w' hs hx M (X H w' ?_ O);rw[<-z5u]at I;show w'.ownsRow _ _ _ _ _ _;rw[length_append];exact I
theorem q8l{w:World}{f:Array Oper}{o:Oper}{a:Act}{K:Act->World->Prop}{Q:Exit->Act->World->Prop}{E:Prop}(U:o.guard=none)(s x:Operand)
  (ho:o.op=.call {callee:=.builtin .append,args:=#[s,x],argTypes:=#[31,31]})
  (B:Nat) (v:Value) (ps:List (List Td)) (hs:a.eval s=v) (L:q4f B v ps w)
  (b0 g n c:Nat) (t:List Td) (hn:t.length=n) (hx:a.eval x=.slice b0 1 1) (hc:w.cell? b0=some (.slice g n c)) (hT:q1b B (.slice g n c) t w)
  (m:Nat) (hm:ps.length+1=m) (hb:m<=1000000) (G:B<=w.heap.size)
  (h:∀A c' w',q4f B (.slice A m c') (ps++[t]) w'->w.grownBy w' v.ownBlock->K (a.put o.dst (.slice A m c')) w'):if Region.wanted o (yielded f a.tmps)=true then Oper.wp prog o a w K Q else E:=by
 subst hn hm;obtain⟨i0,V,Y,Z,b⟩:=info_parts y1w;obtain⟨N,S,h2⟩:=L
 obtain⟨v',w',M,p,q,_⟩:=run_append_own (P:=prog) w B 31 o.type 59 i0 _ 1 24 Tryz.underlying31 V Y Z b rfl (by decide) v ps.length N S b0 1 1 [.slice g t.length c] rfl (by
  intro j u X;cases j with
  | zero=>
   simp at X;subst X;rw[z0l];exact hc
  | succ j=>simp at X) (by intro u y;simp at y;subst y;rfl) (by unfold maxLen;omega) (by omega) G
 have C:∀{D d c':Nat}{k:List Td},q1b B (.slice D d c') k w->q1b B (.slice D d c') k w':=by
  intro D d c' k H;obtain⟨_,_,R,I⟩:=q9f H;refine k0w H (q.block D (Array.getElem?_eq_some_iff.1 I).1 fun e=>?_);obtain⟨l,J⟩:=k0d S e.symm;rw[I]at J;simp at J
 obtain⟨A,c',rfl⟩:∃A c',v'=.slice A (ps.length+1) c':=by
  rcases p.2 with⟨z,h0⟩|⟨D,c',R,z,_⟩
  ·omega
  ·exact⟨_,c',z⟩
 refine k0q U s x 31 ho v _ _ w' hs hx M (h A c' w' ⟨N++[.slice g t.length c],?_,fun i V=>?_⟩ q)
 ·rw[length_append];exact p
 ·have r:=S.1;rw[mul_one]at r;by_cases e:i<ps.length
  ·obtain⟨D,O,e1,e2⟩:=h2 i e;rw[List.getElem_append_left e];refine⟨D,O,?_,C e2⟩;rw[List.getElem?_append_left (by omega)];exact e1
  ·have W:i=ps.length:=by simp at V;omega
   subst W;rw[List.getElem_append_right Zl];refine⟨g,c,?_,?_⟩
   ·rw[List.getElem?_append_right (by omega),r];simp
   ·simp only[sub_self,List.getElem_cons_zero];exact C hT
end Go.Proofs.YtchdplceopegoaaGreatDoor
