/- Texts as one: LexS, LexT, LexV, CutA. -/
import Derived.Test.YthjapabokcajhaaGreatDoorPi29
import Derived.Deep.CutBlock
import Derived.Deep.DeepCutAuto
import Derived.Lib.IndexLaws
open Go.Proofs.Tryz
namespace Go.Proofs.YthjapabokcajhaaGreatDoor
open Go Go.RowKit
set_option maxRecDepth 100000
set_option maxHeartbeats 8000000
structure q5p(s:ByteArray)(w:World)(i:Nat)(dn:List (Nat × List UInt8))(A P:Option Addr)(ac pc:Nat)(wr:World):Prop where
 b:Below w w wr
 le:i<=s.size
 ln:dn.length<=i
 eq:lx (btL s) 0=(dn++lxW ((btL s).drop i) i,lxF ((btL s).drop i) i)
 ws:wr.ownsRow w.heap.size 9 1 (.slice A dn.length ac) dn.length (strCells (dn.map fun x=>wbS x.2))
 ps:wr.ownsRow w.heap.size 3 1 (.slice P dn.length pc) dn.length (q2w (dn.map (·.1)))
theorem q5p.space{s:ByteArray}{w:World}{i:Nat}{dn:List (Nat × List UInt8)}{A P:Option Addr}{ac pc:Nat}{wr:World}(h:q5p s w i dn A P ac pc wr)(hi:i<s.size)(hs:spB s[i]=true):q5p s w (i+1) dn A P ac pc wr:=by
 have e:=h.eq;rw[q1h hi,lxW,lxF,j5q _ _ hs]at e;exact{b:=h.b,le:=hi,ln:=by have:=h.ln;omega,eq:=e,ws:=h.ws,ps:=h.ps}
theorem k1h{s:ByteArray}{w:World}{i:Nat}{dn:List (Nat × List UInt8)}{A P:Option Addr}{ac pc:Nat}{wr:World}(h:q5p s w i dn A P ac pc wr)(hi:i<s.size)(hs:spB s[i]=false)(ho:tOk s i=false):lxF (btL s) 0=some i:=by
 have e:=h.eq;rw[tOk,q1h hi]at ho;rw[q1h hi,lxW,lxF,k6o _ hs ho]at e;rw[lxF,e]
theorem q5p.word{s:ByteArray}{w:World}{i:Nat}{dn:List (Nat × List UInt8)}{A P:Option Addr}{ac pc:Nat}{wr:World}(h:q5p s w i dn A P ac pc wr)(hi:i<s.size)(hs:spB s[i]=false)(ho:tOk s i=true){A' P':Option Addr}{ac' pc':Nat}{w':World}(hb:Below w w w')
  (h1:w'.ownsRow w.heap.size 9 1 (.slice A' (dn.length+1) ac') (dn.length+1) (strCells (dn.map fun x=>wbS x.2)++[.string (wbS (tkW ((btL s).drop i)))])) (h2:w'.ownsRow w.heap.size 3 1 (.slice P' (dn.length+1) pc') (dn.length+1) (q2w (dn.map (·.1))++[.int .i64 (i:Int)])):
  q5p s w (i+z2p s i) (dn++[(i,tkW ((btL s).drop i))]) A' P' ac' pc' w':=by
 have e:=h.eq;have hle:=y8z hi;have hd:((btL s).drop i).drop (z2p s i)=(btL s).drop (i+z2p s i):=by rw[List.drop_drop]
 have ho':q6m (s[i]::(btL s).drop (i+1))=true:=by rw[<-q1h hi];exact ho
 have e2:lx ((btL s).drop i) i=((i,tkW ((btL s).drop i))::lxW ((btL s).drop (i+z2p s i)) (i+z2p s i),lxF ((btL s).drop (i+z2p s i)) (i+z2p s i)):=by
  rw[<-hd,z2p,q1h hi];exact k6p i hs ho'
 rw[lxW,lxF,e2]at e;refine{b:=hb,le:=hle.2,ln:=by have:=h.ln;simp;omega,eq:=by rw[e];simp,ws:=?_,ps:=?_}
 ·rw[List.length_append,List.map_append,q2b];exact h1
 ·rw[List.length_append,List.map_append,z2o];exact h2
theorem v4p{c:UInt8}(h:spB c=true):((c.toNat:Int)==32)=true\/(((c.toNat:Int)==32)=false/\((c.toNat:Int)==10)=true):=by
 have h1:=q5w c 32 (by decide);have h2:=q5w c 10 (by decide);simp only[spB,Bool.or_eq_true]at h;by_cases h3:c=32
 ·exact .inl (by rw[show(32:Int)=((32:Nat):Int)from rfl,h1];simp[h3])
 ·refine .inr ⟨by rw[show(32:Int)=((32:Nat):Int)from rfl,h1];simpa using h3,?_⟩;rw[show(10:Int)=((10:Nat):Int)from rfl,h2];rcases h with h|h
  ·exact absurd (beq_iff_eq.1 h) h3
  ·exact h
theorem y5k{c:UInt8}(h:spB c=false):((c.toNat:Int)==32)=false/\((c.toNat:Int)==10)=false:=by
 have h1:=q5w c 32 (by decide);have h2:=q5w c 10 (by decide);simp only[spB,Bool.or_eq_false_iff]at h;exact⟨by rw[show(32:Int)=((32:Nat):Int)from rfl,h1];exact h.1,by rw[show(10:Int)=((10:Nat):Int)from rfl,h2];exact h.2⟩
theorem k6d{s:ByteArray}{k kk q:Nat}{hlt:k<s.size}(hkk:kk=k+z2p s k)(ht:z2p s k=twN q1z s (k+1)+1/\tOk s k=(decide (twN q1z s (k+1)+1<=6)&&(s[k] != 48||twN q1z s (k+1)==0)))(hq:twN q1z s (k+1)+1=q-k):kk=q/\tOk s k=(decide (q-k<=6)&&(s[k] != 48||q-k==1)):=by
 refine⟨by omega,?_⟩;rw[ht.2,hq]
 congr 2
 rw[Bool.eq_iff_iff,beq_iff_eq,beq_iff_eq];omega
theorem v4a(c:UInt8):((c.toNat:Int)<32/\Hid (prB c=false))\/(¬(c.toNat:Int)<32/\126<(c.toNat:Int)/\Hid (prB c=false))\/(¬(c.toNat:Int)<32/\¬126<(c.toNat:Int)/\Hid (prB c=true)):=by
 by_cases h1:(c.toNat:Int)<32
 ·exact .inl ⟨h1,by show prB c=false;simp[prB];omega⟩
 ·by_cases h2:126<(c.toNat:Int)
  ·exact .inr (.inl ⟨h1,h2,by show prB c=false;simp[prB];omega⟩)
  ·exact .inr (.inr ⟨h1,h2,by show prB c=true;simp[prB];omega⟩)
theorem v8e(a b:UInt8):((a.toNat:Int)==(b.toNat:Int))=(a==b):=by
 rw[Bool.eq_iff_iff,beq_iff_eq,beq_iff_eq];constructor
 ·intro h;exact UInt8.toNat_inj.1 (by omega)
 ·intro h;rw[h]
theorem k9j(c:UInt8){q:Nat}(h:q<9):(k9i.take (q+1)).any (·==c)=((k9i.take q).any (·==c)||((⟨#[40,41,91,93,44,43,42,61,59]⟩:ByteArray)[q]'h==c)):=by
 have hl:=h;rw[List.take_succ_eq_append_getElem hl,List.any_append];simp only[List.any_cons,List.any_nil,Bool.or_false];rfl
theorem k6c{t:Bool}{k q:Nat}{c:UInt8}(h:k+1<=q)(ht:t=(decide (q-k<=6)&&(c != 48||q-k==1))):(¬(q:Int)-(k:Int)<=6/\Hid (t=false))\/(((q:Int)-(k:Int)<=6)/\((c.toNat:Int) != 48)=true/\Hid (t=true))
  \/(((q:Int)-(k:Int)<=6)/\((c.toNat:Int) != 48)=false/\((q:Int)==(k:Int)+1)=true/\Hid (t=true))\/(((q:Int)-(k:Int)<=6)/\((c.toNat:Int) != 48)=false/\((q:Int)==(k:Int)+1)=false/\Hid (t=false)):=by
 have h1:=q5w c 48 (by decide)
 have e48:((c.toNat:Int) != 48)=(c != 48):=by
  show(!((c.toNat:Int)==48))=(!(c==48))
  rw[show(48:Int)=((48:Nat):Int)from rfl,h1];rfl
 by_cases g1:q-k<=6
 ·have d1:=decide_eq_true g1;cases g2:(c != 48)with
  | true=>exact .inr (.inl ⟨by omega,by rw[e48];exact g2,by show t=true;rw[ht,d1,g2];rfl⟩)
  | false=>
   by_cases g3:q=k+1
   ·have d2:(q-k==1)=true:=by rw[beq_iff_eq];omega
    exact .inr (.inr (.inl ⟨by omega,by rw[e48];exact g2,by rw[beq_iff_eq];omega,by show t=true;rw[ht,d1,g2,d2];rfl⟩))
   ·have d2:(q-k==1)=false:=by rw[beq_eq_false_iff_ne];omega
    exact .inr (.inr (.inr ⟨by omega,by rw[e48];exact g2,by rw[beq_eq_false_iff_ne];omega,by show t=false;rw[ht,d1,g2,d2];rfl⟩))
 ·exact .inl ⟨by omega,by show t=false;rw[ht,decide_eq_false g1];rfl⟩
theorem k6l{L:List UInt8}{k:Nat}(h:L.length<=60000)(hf:lxF L 0=some k):q7n L=5/\z9v L=k:=by
 have e:q7n L=5:=by rw[q7n,if_neg (by omega),hf];rfl
 exact⟨e,by rw[z9v,if_pos e,hf];rfl⟩
theorem k1f{L:List UInt8}(h:L.length<=60000)(hf:lxF L 0=none)(hm:300<many (q2h L)):q7n L=3/\z9v L=0:=by
 have e:q7n L=3:=by rw[q7n,if_neg (by omega),hf,if_neg (by simp),if_pos hm]
 exact⟨e,by rw[z9v,e];rfl⟩
theorem k1g{L:List UInt8}(h:L.length<=60000)(hf:lxF L 0=none)(hm:¬300<many (q2h L)):q7n L=0/\z9v L=0:=by
 have e:q7n L=0:=by rw[q7n,if_neg (by omega),hf,if_neg (by simp),if_neg hm]
 exact⟨e,by rw[z9v,e];rfl⟩
theorem k1e{L:List UInt8}(h:60000<L.length):q7n L=3/\z9v L=0:=by
 have e:q7n L=3:=by rw[q7n,if_pos h]
 exact⟨e,by rw[z9v,e];rfl⟩
theorem k1i{s:ByteArray}{w:World}{i:Nat}{dn:List (Nat × List UInt8)}{A P:Option Addr}{ac pc:Nat}{wr:World}(h:q5p s w i dn A P ac pc wr)(hi:¬i<s.size):lxF (btL s) 0=none/\lxW (btL s) 0=dn:=by
 have e:=h.eq;rw[List.drop_eq_nil_of_le (by rw[q0c];omega),lxW,lxF,z4j,List.append_nil]at e;rw[lxF,lxW,e];exact⟨rfl,rfl⟩
theorem k6s{s:ByteArray}{k:Nat}(h:k<s.size)(hs:spB s[k]=false):many [tkW ((btL s).drop k)]=if s[k] != 35 then 1 else 0:=by
 have h1:∃z,tkW ((btL s).drop k)=s[k]::z:=by
  rw[tkW,q1h h];have hp:=q5f s[k] ((btL s).drop (k+1));obtain⟨m,hm⟩:∃m,q1e (s[k]::(btL s).drop (k+1))=m+1:=⟨_,(Nat.sub_add_cancel hp).symm⟩;rw[hm,List.take_succ_cons];exact z2i (k4x hs) _
 obtain⟨z,hz⟩:=h1;rw[hz];have hn:y8y (s[k]::z)=(s[k] != 35):=rfl;cases hh:(s[k] != 35)with
 | true=>rw[many,List.filter_cons_of_pos (by rw[hn];exact hh)];rfl
 | false=>rw[many,List.filter_cons_of_neg (by rw[hn,hh];decide)];rfl
theorem j0n{s:ByteArray}{k j:Nat}(h:k<=j)(hj:j<s.size):((btL s).drop k).take (j+1-k)=((btL s).drop k).take (j-k)++[s[j]]:=by
 have e:j+1-k=(j-k)+1:=by omega
 have hl:j-k<((btL s).drop k).length:=by rw[List.length_drop,q0c];omega
 rw[e,List.take_succ_eq_append_getElem hl]
 congr 2
 rw[List.getElem_drop];have e2:k+(j-k)=j:=by omega
 simp only[e2];rfl
theorem v4o(s:ByteArray)(i e:Nat)(h1:i<=e)(h2:e<=s.size)(W:World):(Instr.slice 9 (.string s) (some ↑(i:Int)) (some ↑((e:Nat):Int)) none).run prog W=.ok (.string (wbS (((btL s).drop i).take (e-i)))) W:=by
 have h:=run_slice_string (P:=prog) (w:=W) 9 s .i64 .i64 (i:Int) (e:Int) Tryz.underlying9 (by omega) (by omega) (by omega);rw[Int.toNat_natCast,Int.toNat_natCast,q9s]at h;exact h
def j1e(s:ByteArray)(w:World)(e:Ending)(w':World):Prop:=
 (q7n (btL s)≠0/\e=.returned (.tuple #[.slice none 0 0,.slice none 0 0,.int .i64 ((z9v (btL s):Nat):Int),.int .i64 (q7n (btL s))]))\/
 (q7n (btL s)=0/\∃A P ac pc,e=.returned (.tuple #[.slice A (q2h (btL s)).length ac,.slice P (q2h (btL s)).length pc,.int .i64 0,.int .i64 0])/\q2r w (.slice A (q2h (btL s)).length ac) ((q2h (btL s)).map wbS) w'/\z1i w.heap.size (.slice P (q2h (btL s)).length pc) (z2c (btL s)) w')
theorem j5a(s:ByteArray)(w:World)(hl:(btL s).length<=60000):
  Calls prog 33 #[.string s] w fun e w'=>j1e s w e w'/\Below w w w':=by
 have hsz:s.size<=60000:=by rw[<-q0c];exact hl
 clear hl;have hszi:¬60000<(s.size:Int):=by omega
 go_in;go_wp2
 go_loopw [6,7,8,9] (fun x p m i wr=>∃(k:Nat)(dn:List (Nat × List UInt8))(A P:Option Addr)(ac pc:Nat),x=.slice A dn.length ac/\p=.slice P dn.length pc/\m=.int .i64 ((many (dn.map (·.2)):Nat):Int)/\i=(k:Int)/\q5p s w k dn A P ac pc wr) (fun _ _ _ i _=>s.size-(intOf i).toNat)
 case atStart=>exact⟨0,[],none,none,0,0,rfl,rfl,rfl,rfl,{b:=Below.refl _ _,le:=Nat.zero_le _,ln:=Nat.le_refl _,eq:=rfl,ws:=World.ownsRow_nil _ _ _ _,ps:=World.ownsRow_nil _ _ _ _}⟩
 case round=>
  obtain⟨k,dn,A,P,ac,pc,rfl,rfl,rfl,rfl,hR⟩:=hrel;have HR:=hid hR;have hle:=hR.le;have hln:=hR.ln
  have hmn:many (dn.map (·.2))<=60000:=by
   have h1:many (dn.map (·.2))<=(dn.map (·.2)).length:=List.length_filter_le _ _;rw[List.length_map]at h1;omega
  clear hR;generalize hmm:many (dn.map (·.2))=mm at hmn;have HMM:=hid hmm;clear hmm;by_cases hlt:k<s.size
  ·have hki:(k:Int)<(s.size:Int):=by omega
   cases hs:spB s[k]with
   | true=>
    have HN:=hid (HR.o.space hlt hs);rcases v4p hs with h1|⟨h1,h2⟩
    ·clear hs;go_wp2
     go_roundw
     case rel=>exact⟨k+1,dn,A,P,ac,pc,rfl,rfl,by rw[HMM.o],by go_num,HN.o⟩
     case measure=>simp[intOf];omega
    ·clear hs;go_wp2
     go_roundw
     case rel=>exact⟨k+1,dn,A,P,ac,pc,rfl,rfl,by rw[HMM.o],by go_num,HN.o⟩
     case measure=>simp[intOf];omega
   | false=>
    obtain⟨h1,h2⟩:=y5k hs;have HS:=hid hs;obtain⟨ht1,ht2⟩:=y8z hlt;obtain⟨kk,hkk⟩:∃kk,kk=k+z2p s k:=⟨_,rfl⟩;have HKK:=hid hkk;have hk1:k+1<=kk:=by omega
    have hk2:kk<=s.size:=by omega
    clear hs hkk ht1 ht2
    go_upto_block 2 with(first|(go_at_call 53;refine(q6e _ _).mono ?_;rintro e w2⟨rfl,rfl⟩)|(go_at_call 73;refine(q2c _ _).mono ?_;rintro e w2⟨rfl,rfl⟩))
    go_cut [11,12,13,14] (fun x ok _ _ wx=>x=(kk:Int)/\ok=.bool (tOk s k)/\wx=wr)
    case first=>
     cases hlo:q2j s[k]with
     | true=>
      obtain⟨e1,e2⟩:=y8n hlt hlo;have HT:Hid (z2p s k=twN q2j s (k+1)+1/\tOk s k=decide (twN q2j s (k+1)+1<=8)):=⟨e1,e2⟩;clear e1 e2 hlo;go_wp2
      go_loopw [11] (fun x wx=>∃q:Nat,k+1<=q/\q<=s.size/\x=(q:Int)/\wx=wr/\(k+1)+twN q2j s (k+1)=q+twN q2j s q) (fun x _=>s.size-(intOf x).toNat)
      case atStart=>exact⟨k+1,Nat.le_refl _,by omega,by go_num,rfl,rfl⟩
      case round=>
       obtain⟨q,hq1,hq2,rfl,rfl,hq⟩:=hrel;have HQ:=hid hq;clear hq;by_cases hql:q<s.size
       ·have hqi:(q:Int)<(s.size:Int):=by omega
        cases hb:q2j s[q]with
        | true=>
         have HB:=hid hb
         have HQ2:Hid ((k+1)+twN q2j s (k+1)=(q+1)+twN q2j s (q+1)):=by
          have h3:=z9q hql hb;have h4:=HQ.o;show _=_;omega
         clear hb;go_wp2_with(go_at_call 53;refine(q6e _ _).mono ?_;rintro e w2⟨rfl,rfl⟩;rw[HB.o])
         go_roundw
         case rel=>exact⟨q+1,by omega,by omega,by go_num,by trivial,HQ2.o⟩
         case measure=>simp[intOf];omega
        | false=>
         have HB:=hid hb
         have HQ2:Hid (kk=q/\tOk s k=decide ((q:Int)-(k:Int)<=8)):=by
          have h3:=k7t hql hb;have h4:=HQ.o;have h5:=HKK.o;have h6:=HT.o.1;refine⟨by omega,?_⟩;rw[HT.o.2]
          congr 1
          apply propext;omega
         clear hb;go_wp2_with(go_at_call 53;refine(q6e _ _).mono ?_;rintro e w2⟨rfl,rfl⟩;rw[HB.o])
         go_meet
         exact⟨by rw[HQ2.o.1],by rw[HQ2.o.2],rfl⟩
       ·have hqi:¬(q:Int)<(s.size:Int):=by omega
        have HQ2:Hid (kk=q/\tOk s k=decide ((q:Int)-(k:Int)<=8)):=by
         have h3:=z9p (p:=q2j) hql;have h4:=HQ.o;have h5:=HKK.o;have h6:=HT.o.1;refine⟨by omega,?_⟩;rw[HT.o.2]
         congr 1
         apply propext;omega
        go_wp2
        go_meet
        exact⟨by rw[HQ2.o.1],by rw[HQ2.o.2],rfl⟩
     | false=>
      cases hfi:q1z s[k]with
      | true=>
       obtain⟨e1,e2⟩:=y8m hlt hlo hfi;have HT:Hid (z2p s k=twN q1z s (k+1)+1/\tOk s k=(decide (twN q1z s (k+1)+1<=6)&&(s[k] != 48||twN q1z s (k+1)==0))):=⟨e1,e2⟩;clear e1 e2 hlo hfi;go_wp2
       go_loopw [11] (fun x wx=>∃q:Nat,k+1<=q/\q<=s.size/\x=(q:Int)/\wx=wr/\(k+1)+twN q1z s (k+1)=q+twN q1z s q) (fun x _=>s.size-(intOf x).toNat)
       case atStart=>exact⟨k+1,Nat.le_refl _,by omega,by go_num,rfl,rfl⟩
       case round=>
        obtain⟨q,hq1,hq2,rfl,rfl,hq⟩:=hrel;have HQ:=hid hq;clear hq;by_cases hql:q<s.size
        ·have hqi:(q:Int)<(s.size:Int):=by omega
         cases hb:q1z s[q]with
         | true=>
          have HB:=hid hb
          have HQ2:Hid ((k+1)+twN q1z s (k+1)=(q+1)+twN q1z s (q+1)):=by
           have h3:=z9q hql hb;have h4:=HQ.o;show _=_;omega
          clear hb;go_wp2_with(go_at_call 73;refine(q2c _ _).mono ?_;rintro e w2⟨rfl,rfl⟩;rw[HB.o])
          go_roundw
          case rel=>exact⟨q+1,by omega,by omega,by go_num,by trivial,HQ2.o⟩
          case measure=>simp[intOf];omega
         | false=>
          have HB:=hid hb
          have hqe:twN q1z s (k+1)+1=q-k:=by
           have h3:=k7t hql hb;have h4:=HQ.o;omega
          have HQ2:=hid (k6d HKK.o HT.o hqe);clear hb hqe;rcases k6c hq1 HQ2.o.2 with⟨g1,HE⟩|⟨g1,g2,HE⟩|⟨g1,g2,g3,HE⟩|⟨g1,g2,g3,HE⟩
          all_goals
           go_wp2_with(go_at_call 73;refine(q2c _ _).mono ?_;rintro e w2⟨rfl,rfl⟩;rw[HB.o])
           go_meet
           exact⟨by rw[HQ2.o.1],by rw[HE.o],rfl⟩
        ·have hqi:¬(q:Int)<(s.size:Int):=by omega
         have hqe:twN q1z s (k+1)+1=q-k:=by
          have h3:=z9p (p:=q1z) hql;have h4:=HQ.o;omega
         have HQ2:=hid (k6d HKK.o HT.o hqe);clear hqe;rcases k6c hq1 HQ2.o.2 with⟨g1,HE⟩|⟨g1,g2,HE⟩|⟨g1,g2,g3,HE⟩|⟨g1,g2,g3,HE⟩
         all_goals
          go_wp2
          go_meet
          exact⟨by rw[HQ2.o.1],by rw[HE.o],rfl⟩
      | false=>
       cases hno:(s[k]==35)with
       | true=>
        obtain⟨e1,e2⟩:=y5q hlt hlo hfi hno;have HT:Hid (z2p s k=twN nlB s (k+1)+1/\tOk s k=prN s (k+1)):=⟨e1,e2⟩;have h35:((s[k].toNat:Int)==35)=true:=by rw[show(35:Int)=((35:Nat):Int)from rfl,q5w _ 35 (by decide)];exact hno
        clear e1 e2 hlo hfi hno;go_wp2
        go_loopw [11,12] (fun x ok wx=>∃(q:Nat)(b:Bool),k+1<=q/\q<=s.size/\x=(q:Int)/\ok=.bool b/\wx=wr/\(k+1)+twN nlB s (k+1)=q+twN nlB s q/\tOk s k=(b&&prN s q)) (fun x _ _=>s.size-(intOf x).toNat)
        case atStart=>exact⟨k+1,true,Nat.le_refl _,by omega,by go_num,rfl,rfl,rfl,by rw[HT.o.2];rfl⟩
        case round=>
         obtain⟨q,b,hq1,hq2,rfl,rfl,rfl,hq,hb⟩:=hrel;have HQ:=hid hq;have HB:Hid (tOk s k=(b&&prN s q)):=hb;clear hq hb;by_cases hql:q<s.size
         ·have hqi:(q:Int)<(s.size:Int):=by omega
          cases hnl:nlB s[q]with
          | true=>
           have h10:((s[q].toNat:Int) != 10)=true:=by
            show(!((s[q].toNat:Int)==10))=true
            rw[show(10:Int)=((10:Nat):Int)from rfl,q5w _ 10 (by decide)];exact hnl
           have HQ2:Hid ((k+1)+twN nlB s (k+1)=(q+1)+twN nlB s (q+1)):=by
            have h3:=z9q hql hnl;have h4:=HQ.o;show _=_;omega
           have HB2:Hid (tOk s k=(b&&(prB s[q]&&prN s (q+1)))):=by
            show _=_;rw[HB.o,y1m hql hnl]
           clear hnl;rcases v4a s[q]with⟨g1,HE⟩|⟨g1,g2,HE⟩|⟨g1,g2,HE⟩
           all_goals
            go_wp2
            go_roundw
            case rel=>
             first
              | exact⟨q+1,false,by omega,by omega,by go_num,rfl,by trivial,HQ2.o,by rw[HB2.o,HE.o];simp⟩
              | exact⟨q+1,b,by omega,by omega,by go_num,rfl,by trivial,HQ2.o,by rw[HB2.o,HE.o];simp⟩
            case measure=>simp[intOf];omega
          | false=>
           have h10:((s[q].toNat:Int) != 10)=false:=by
            show(!((s[q].toNat:Int)==10))=false
            rw[show(10:Int)=((10:Nat):Int)from rfl,q5w _ 10 (by decide)];exact hnl
           have HQ2:Hid (kk=q/\tOk s k=b):=by
            have h3:=k7t hql hnl;have h4:=HQ.o;have h5:=HKK.o;have h6:=HT.o.1;exact⟨by omega,by rw[HB.o,y5c hql hnl,Bool.and_true]⟩
           clear hnl;go_wp2
           go_meet
           exact⟨by rw[HQ2.o.1],by rw[HQ2.o.2],rfl⟩
         ·have hqi:¬(q:Int)<(s.size:Int):=by omega
          have HQ2:Hid (kk=q/\tOk s k=b):=by
           have h3:=z9p (p:=nlB) hql;have h4:=HQ.o;have h5:=HKK.o;have h6:=HT.o.1;exact⟨by omega,by rw[HB.o,y1l hql,Bool.and_true]⟩
          go_wp2
          go_meet
          exact⟨by rw[HQ2.o.1],by rw[HQ2.o.2],rfl⟩
       | false=>
        obtain⟨e1,e2⟩:=y5p hlt hlo hfi hno;have HT:Hid (kk=k+1/\tOk s k=y6w s[k]):=⟨by rw[HKK.o,e1],e2⟩;have h35:((s[k].toNat:Int)==35)=false:=by rw[show(35:Int)=((35:Nat):Int)from rfl,q5w _ 35 (by decide)];exact hno
        clear e1 e2 hlo hfi hno;go_wp2
        go_loopw [12,15] (fun ok j wx=>∃q:Nat,q<=9/\j=(q:Int)/\ok=.bool ((k9i.take q).any (·==s[k]))/\wx=wr) (fun _ j _=>9-(intOf j).toNat)
        case atStart=>exact⟨0,by omega,by go_num,rfl,rfl⟩
        case round=>
         obtain⟨q,hq1,rfl,rfl,rfl⟩:=hrel;by_cases hql:q<9
         ·have hqi:(q:Int)<9:=by omega
          have hqs:q<(⟨#[40,41,91,93,44,43,42,61,59]⟩:ByteArray).size:=hql;have hqt:(q:Int)<((⟨#[40,41,91,93,44,43,42,61,59]⟩:ByteArray).size:Int):=by omega
          have HM:=(show Hid (_)from k9j s[k] hql);cases hm:((⟨#[40,41,91,93,44,43,42,61,59]⟩:ByteArray)[q]==s[k])with
          | true=>
           have hmi:((((⟨#[40,41,91,93,44,43,42,61,59]⟩:ByteArray)[q]).toNat:Int)==(s[k].toNat:Int))=true:=by rw[v8e];exact hm
           rw[hm]at HM;clear hm;go_wp2
           go_roundw
           case rel=>exact⟨q+1,by omega,by go_num,by rw[HM.o];simp,by trivial⟩
           case measure=>simp[intOf];omega
          | false=>
           have hmi:((((⟨#[40,41,91,93,44,43,42,61,59]⟩:ByteArray)[q]).toNat:Int)==(s[k].toNat:Int))=false:=by rw[v8e];exact hm
           rw[hm]at HM;clear hm;go_wp2
           go_roundw
           case rel=>exact⟨q+1,by omega,by go_num,by rw[HM.o];simp,by trivial⟩
           case measure=>simp[intOf];omega
         ·have hqi:¬(q:Int)<9:=by omega
          have HE:Hid (tOk s k=(k9i.take q).any (·==s[k])):=by
           show _=_;rw[HT.o.2,List.take_of_length_le (by show 9<=q;omega)];rfl
          generalize(k9i.take q).any (·==s[k])=b at HE
          go_wp2
          go_meet
          exact⟨by rw[HT.o.1];go_num,by rw[HE.o],rfl⟩
    case rest=>
     obtain⟨rfl,rfl,rfl⟩:=hcut;cases hok:tOk s k with
     | false=>
      have HF:=hid (k6l (by rw[q0c];exact hsz) (k1h HR.o hlt HS.o hok));clear hok;go_wp2;refine bodyPost_ret (v:=.tuple #[.slice none 0 0,.slice none 0 0,(k:Int),.int .i64 5]) (by simp[results,Tryz.results33,go_sem]) rfl ?_;exact⟨.inl ⟨by rw[HF.o.1];decide,by rw[HF.o.1,HF.o.2]⟩,HR.o.b⟩
     | true=>
      have HOK:=hid hok
      have HWD:Hid (q1l (((btL s).drop k).take (kk-k))=tkW ((btL s).drop k)):=by
       show _=_;rw[tkW,HKK.o]
       congr 2
       rw[z2p];omega
      have HMY:Hid (many (dn.map (·.2)++[tkW ((btL s).drop k)])=mm+(if s[k] != 35 then 1 else 0)):=by
       show _=_;rw[k6r,HMM.o,k6s hlt HS.o]
      generalize hW:tkW ((btL s).drop k)=W at HWD HMY;have HW:=hid hW;clear hok hW;go_wp2
      go_loopw [16] (fun x wx=>∃e:Nat,k+1<=e/\e<=kk/\x=(e:Int)/\wx=wc/\q1l (((btL s).drop k).take (e-k))=W) (fun x _=>(intOf x).toNat)
      case atStart=>exact⟨kk,hk1,Nat.le_refl _,rfl,rfl,HWD.o⟩
      case round=>
       obtain⟨e,he1,he2,rfl,rfl,he⟩:=hrel;have HE:Hid (q1l (((btL s).drop k).take (e-k))=W):=he;clear he;obtain⟨j,rfl⟩:∃j,e=j+1:=⟨e-1,by omega⟩;have hcast:((j+1:Nat):Int)=(j:Int)+1:=by omega
       rw[hcast];have hjs:j<s.size:=by omega
       have hji:(j:Int)<(s.size:Int):=by omega
       have hjk:(k:Int)<(j:Int)+1:=by omega
       have HTK:Hid (((btL s).drop k).take (j+1-k)=((btL s).drop k).take (j-k)++[s[j]]):=j0n (by omega) hjs;clear hcast;cases hb:(s[j]==32)with
       | true=>
        have hbi:((s[j].toNat:Int)==32)=true:=by rw[show(32:Int)=((32:Nat):Int)from rfl,q5w _ 32 (by decide)];exact hb
        have HE2:Hid (k+1<=j/\q1l (((btL s).drop k).take (j-k))=W):=by
         have hb':=beq_iff_eq.1 hb;refine⟨?_,by rw[<-HE.o,HTK.o,hb',q9r]⟩;rcases Nat.eq_or_lt_of_le (show k<=j by omega)with h|h
         ·subst h;exact absurd hb' (k4x HS.o)
         ·exact h
        clear hb;go_wp2
        go_roundw
        case rel=>exact⟨j,HE2.o.1,by omega,by go_num,by trivial,HE2.o.2⟩
        case measure=>simp[intOf]
       | false=>
        have hbi:((s[j].toNat:Int)==32)=false:=by rw[show(32:Int)=((32:Nat):Int)from rfl,q5w _ 32 (by decide)];exact hb
        have HE2:Hid (((btL s).drop k).take (j+1-k)=W):=by
         show _=_;rw[<-HE.o,HTK.o,q2n _ (by simpa using hb)]
        have hsl:∀WW:World,(Instr.slice 9 (.string s) (some ↑(k:Int)) (some ↑((j:Int)+1)) none).run prog WW=.ok (.string (wbS W)) WW:=fun WW=>by
         have h9:=v4o s k (j+1) (by omega) (by omega) WW;rw[HE2.o,show((j+1:Nat):Int)=(j:Int)+1 by omega]at h9;exact h9
        clear hb;obtain⟨i0,hi0,hz0,hz1,hz2⟩:=info_parts z0v;have hsr:=HR.o.b.size;go_wp2_with(at_builtin;refine wpList_append_lies _ rfl _ _ 58 rfl w.heap.size 9 i0 _ 1 16 Tryz.underlying58 hi0 hz0 hz1 hz2 rfl (by decide) _ _ _ rfl (World.ownsRow.alloc HR.o.ws _) wr.heap.size 1 1 [.string (wbS W)] rfl rfl (cell_one_new wr _ _) (by intro u hu;simp at hu;subst hu;rfl) (by decide) (by unfold maxLen;omega) (by omega) (by simp;omega) (wr.heap.size+1) (by simp) ?_);intro g2 cap2 w2 hown2 hgrow2 hat2 hlt2;have hb2:=(HR.o.b.alloc (by omega) (.cells #[.string (wbS W)] 9)).grown hgrow2 (by simp;omega) (fun j hj=>(World.ownsRow.lt HR.o.ws j hj).1);have HB2:=(show Hid (Below _ _ _)from hb2);have HP2:=hid (z2b (World.ownsRow.alloc HR.o.ps _) (World.ownsRow.alloc HR.o.ws _) (by decide) hgrow2);have HW2:=(show Hid (w2.ownsRow _ _ _ _ _ _)from hown2);have hs2:=hb2.size;clear hown2 hgrow2 hb2 hat2 hlt2;obtain⟨i1,hi1,hy0,hy1,hy2⟩:=info_parts z2m;go_wp2_with(at_builtin;refine wpList_append_lies _ rfl _ _ 45 rfl w.heap.size 3 i1 _ 1 8 Tryz.underlying45 hi1 hy0 hy1 hy2 rfl (by decide) _ _ _ rfl (World.ownsRow.alloc HP2.o _) w2.heap.size 1 1 [(k:Int)] rfl rfl (cell_one_new w2 _ _) (by intro u hu;simp at hu;subst hu;rfl) (by decide) (by unfold maxLen;omega) (by omega) (by simp;omega) (w2.heap.size+1) (by simp) ?_);intro g3 cap3 w3 hown3 hgrow3 hat3 hlt3;have hb3:=(HB2.o.alloc (by omega) (.cells #[(k:Int)] 3)).grown hgrow3 (by simp;omega) (fun j hj=>(World.ownsRow.lt HP2.o j hj).1);have hW3:=z2b (World.ownsRow.alloc HW2.o _) (World.ownsRow.alloc HP2.o _) (by decide) hgrow3
        have hN:q5p s w kk (dn++[(k,W)]) g2 g3 cap2 cap3 w3:=by
         rw[HKK.o,<-HW.o];refine HR.o.word hlt HS.o HOK.o hb3 ?_ ?_
         ·rw[HW.o];exact hW3
         ·exact hown3
        have HN:=hid hN
        have HMV:Hid (many ((dn++[(k,W)]).map (·.2))=mm+(if s[k] != 35 then 1 else 0)):=by
         show _=_;rw[List.map_append];exact HMY.o
        clear hown3 hgrow3 hat3 hlt3 hb3 hW3 hN;cases hn:(s[k] != 35)with
        | true=>
         have hni:((s[k].toNat:Int) != 35)=true:=by
          show(!((s[k].toNat:Int)==35))=true
          rw[show(35:Int)=((35:Nat):Int)from rfl,q5w _ 35 (by decide)];exact hn
         have HMW:Hid (many ((dn++[(k,W)]).map (·.2))=mm+1):=by show _=_;rw[HMV.o,hn];rfl
         clear hn;go_wp2
         go_roundw
         case rel=>exact⟨kk,dn++[(k,W)],some ↑g2,some ↑g3,cap2,cap3,by rw[List.length_append];rfl,by rw[List.length_append];rfl,by rw[HMW.o];go_num,by go_num,HN.o⟩
         case measure=>simp[intOf];omega
        | false=>
         have hni:((s[k].toNat:Int) != 35)=false:=by
          show(!((s[k].toNat:Int)==35))=false
          rw[show(35:Int)=((35:Nat):Int)from rfl,q5w _ 35 (by decide)];exact hn
         have HMW:Hid (many ((dn++[(k,W)]).map (·.2))=mm):=by show _=_;rw[HMV.o,hn];rfl
         clear hn;go_wp2
         go_roundw
         case rel=>exact⟨kk,dn++[(k,W)],some ↑g2,some ↑g3,cap2,cap3,by rw[List.length_append];rfl,by rw[List.length_append];rfl,by rw[HMW.o],by go_num,HN.o⟩
         case measure=>simp[intOf];omega
  ·have hki:¬(k:Int)<(s.size:Int):=by omega
   have HX:=hid (k1i HR.o hlt)
   have HL:Hid ((q2h (btL s)).length=dn.length/\many (q2h (btL s))=mm):=by
    refine⟨?_,?_⟩
    ·rw[q2h,HX.o.2,List.length_map]
    ·rw[q2h,HX.o.2];exact HMM.o
   by_cases h300:300<mm
   ·have hmi:(300:Int)<(mm:Int):=by omega
    have HF:=hid (k1f (by rw[q0c];exact hsz) HX.o.1 (by rw[HL.o.2];exact h300));go_wp2;refine bodyPost_ret (v:=.tuple #[.slice none 0 0,.slice none 0 0,.int .i64 0,.int .i64 3]) (by simp[results,Tryz.results33,go_sem]) rfl ?_;exact⟨.inl ⟨by rw[HF.o.1];decide,by rw[HF.o.1,HF.o.2];rfl⟩,HR.o.b⟩
   ·have hmi:¬(300:Int)<(mm:Int):=by omega
    have HF:=hid (k1g (by rw[q0c];exact hsz) HX.o.1 (by rw[HL.o.2];exact h300));go_wp2;refine bodyPost_ret (v:=.tuple #[.slice A dn.length ac,.slice P dn.length pc,.int .i64 0,.int .i64 0]) (by simp[results,Tryz.results33,go_sem]) rfl ?_;refine⟨.inr ⟨HF.o.1,A,P,ac,pc,by rw[HL.o.1],?_,?_⟩,HR.o.b⟩
    ·show wr.ownsRow _ _ _ _ _ _;rw[List.length_map,HL.o.1,q2h,HX.o.2,List.map_map];exact HR.o.ws
    ·show wr.ownsRow _ _ _ _ _ _;rw[<-z2r,HL.o.1,z2c,HX.o.2];exact HR.o.ps
theorem j4z(s:ByteArray)(w:World):Calls prog 33 #[.string s] w fun e w'=>j1e s w e w'/\Below w w w':=by
 by_cases h:(btL s).length<=60000
 ·exact j5a s w h
 ·have HF:Hid (q7n (btL s)=3/\z9v (btL s)=0):=k1e (by omega);have hsz:60000<(s.size:Int):=by rw[q0c]at h;omega
  clear h;go_in;go_wp2;refine bodyPost_ret (v:=.tuple #[.slice none 0 0,.slice none 0 0,.int .i64 0,.int .i64 3]) (by simp[results,Tryz.results33,go_sem]) rfl ?_;exact⟨.inl ⟨by rw[HF.o.1];decide,by rw[HF.o.1,HF.o.2];rfl⟩,Below.refl _ _⟩
theorem k9o{B:Nat}{w:World}{A:Option Addr}{n c:Nat}{ks:List Nat}(h:z1i B (.slice A n c) ks w):q9e w A (ks.map fun(k:Nat)=>(k:Int)):=by
 intro j hj;rw[List.length_map]at hj;obtain⟨g,rfl,hg,hc⟩:=z6y h j hj;exact⟨g,0,rfl,hg,by rw[Nat.zero_add,List.getElem_map];exact hc⟩
theorem j5b{L:List UInt8}(h:q7n L=0):(q2h L).length<=60000:=Nat.le_trans (j9t L) (z4f h).1
theorem k1o:∀(z r:List UInt8)(i:Nat),(∀x∈z,x=32)->lx (z++r) i=lx r (i+z.length)
 | [],r,i,_=>by simp
 | c::z,r,i,h=>by
  have hc:c=32:=h c (by simp);subst hc;rw[List.cons_append,j5q _ _ (by decide),k1o z r (i+1) (fun x hx=>h x (by simp[hx])),List.length_cons]
  congr 1;omega
theorem v8d{p:UInt8->Bool}:∀(l:List UInt8)x,x∈l.takeWhile p->p x=true
 | [],x,hx=>by cases hx
 | a::l,x,hx=>by
  rw[List.takeWhile_cons]at hx;by_cases ha:p a=true
  ·rw[if_pos ha]at hx;rcases List.mem_cons.1 hx with rfl|hx
   ·exact ha
   ·exact v8d l x hx
  ·rw[if_neg ha]at hx;cases hx
theorem z7i(w:List UInt8):∃z,w=q1l w++z/\∀x∈z,x=32:=by
 refine⟨(w.reverse.takeWhile (·==32)).reverse,?_,fun x hx=>?_⟩
 ·rw[q1l,<-List.reverse_append,List.takeWhile_append_dropWhile,List.reverse_reverse]
 ·have:=v8d _ _ (List.mem_reverse.1 hx)
  exact beq_iff_eq.1 this
theorem z2h(s:List UInt8):(tkW s).length<=s.length:=by
 have h1:=z1c (s.take (q1e s));rw[List.length_take]at h1;rw[tkW];omega
theorem v3h(s:List UInt8)(i:Nat):lx (s.drop (tkW s).length) (i+(tkW s).length)=lx (s.drop (q1e s)) (i+q1e s):=by
 obtain⟨z,hz,h32⟩:=z7i (s.take (q1e s));have hle:=z0y s;have hlen:=congrArg List.length hz;rw[List.length_append,List.length_take,Nat.min_eq_left hle]at hlen
 have e:s.drop (tkW s).length=z++s.drop (q1e s):=by
  have h1:s=q1l (s.take (q1e s))++(z++s.drop (q1e s)):=by
   rw[<-List.append_assoc,<-hz,List.take_append_drop]
  have h2:s.drop (tkW s).length=(q1l (s.take (q1e s))++(z++s.drop (q1e s))).drop (tkW s).length:=congrArg (List.drop _) h1;rw[h2,tkW,List.drop_left]
 rw[e,k1o z _ _ h32]
 congr 1
 rw[tkW];omega
theorem y2b{c:UInt8}{r:List UInt8}(hs:spB c=false)(ho:q6m (c::r)=true):1<=(tkW (c::r)).length:=j9g (v8a hs ho)
theorem y7o{c:UInt8}{r:List UInt8}(hl:q2j c=true):tkW (c::r)=(c::r).takeWhile q2j/\q6m (c::r)=decide (((c::r).takeWhile q2j).length<=8):=by
 refine⟨?_,?_⟩
 ·simp only[tkW,q1e,hl,if_true,List.take_succ_cons,z5e,List.takeWhile_cons];exact q8w (fun _=>j5l) c hl r
 ·simp only[q6m,hl,if_true,List.takeWhile_cons,List.length_cons]
theorem y7n{c:UInt8}{r:List UInt8}(hl:q2j c=false)(hf:q1z c=true):tkW (c::r)=(c::r).takeWhile q1z/\q6m (c::r)=(decide (((c::r).takeWhile q1z).length<=6)&&(c != 48||(c::r).takeWhile q1z==[48])):=by
 refine⟨?_,?_⟩
 ·simp only[tkW,q1e,hl,hf,if_true,Bool.false_eq_true,if_false,List.take_succ_cons,z5e,List.takeWhile_cons];exact q8w (fun _=>j3p) c hf r
 ·simp only[q6m,hl,hf,if_true,Bool.false_eq_true,if_false,List.takeWhile_cons,List.length_cons]
  congr 1
  by_cases h:c=48
  ·subst h;cases hr:r.takeWhile q1z with
   | nil=>rfl
   | cons a b=>
    simp
  ·have:(c != 48)=true:=by simp[h]
   rw[this];rfl
theorem v6g{p:UInt8->Bool}:∀l:List UInt8,(l.takeWhile p==l)=l.all p
 | []=>rfl
 | a::l=>by
  rw[List.takeWhile_cons,List.all_cons];cases h:p a with
  | true=>
   rw[if_pos rfl,<-v6g l];simp
  | false=>simp
theorem y3x{c:UInt8}{r:List UInt8}(hl:q2j c=false)(hf:q1z c=false)(hn:c=35):tkW (c::r)=q1l ((c::r).takeWhile nlB)/\q6m (c::r)=((q1l ((c::r).takeWhile nlB)).takeWhile prB==q1l ((c::r).takeWhile nlB)):=by
 subst hn;have e0:(35::r:List UInt8).takeWhile nlB=35::r.takeWhile nlB:=by rw[List.takeWhile_cons];rfl
 refine⟨?_,?_⟩
 ·simp only[tkW,q1e,hl,hf,if_true,Bool.false_eq_true,if_false,List.take_succ_cons,z5e,beq_self_eq_true,e0]
 ·rw[v6g,e0];simp only[q6m,hl,hf,if_true,Bool.false_eq_true,if_false,beq_self_eq_true];obtain⟨z,hz,h32⟩:=z7i (35::r.takeWhile nlB)
  have h1:(35::r.takeWhile nlB).all prB=((q1l (35::r.takeWhile nlB)).all prB&&z.all prB):=by
   rw[<-List.all_append,<-hz]
  have h2:z.all prB=true:=by
   rw[List.all_eq_true];intro x hx;rw[h32 x hx];decide
  rw[h2,Bool.and_true,List.all_cons]at h1;rw[<-h1];rfl
theorem y3w{c:UInt8}{r:List UInt8}(hs:spB c=false)(hl:q2j c=false)(hf:q1z c=false)(hn:(c==35)=false):tkW (c::r)=[c]/\q6m (c::r)=y6w c:=by
 refine⟨?_,?_⟩
 ·simp only[tkW,q1e,hl,hf,hn,Bool.false_eq_true,if_false,List.take_succ_cons,List.take_zero];exact q2n [] (k4x hs)
 ·simp only[q6m,hl,hf,hn,Bool.false_eq_true,if_false]
theorem j6a:∀l:List UInt8,Lib.indexByte l 10=-1->l.takeWhile nlB=l
 | [],_=>rfl
 | b::l,h=>by
  unfold Lib.indexByte at h;have hge:=Lib.indexByte_ge l 10
  split at h
  ·cases h
  ·rename_i hb;have hb':nlB b=true:=by simpa[nlB]using hb
   split at h
   ·rename_i h1;rw[List.takeWhile_cons,if_pos hb',j6a l (by simpa using h1)]
   ·omega
theorem v7c:∀(l:List UInt8)(i:Nat),Lib.indexByte l 10=i->l.takeWhile nlB=l.take i/\i+1<=l.length
 | [],i,h=>by simp[Lib.indexByte]at h
 | b::l,i,h=>by
  unfold Lib.indexByte at h;have hge:=Lib.indexByte_ge l 10
  split at h
  ·rename_i hb
   have:i=0:=by omega
   subst this;have hb':nlB b=false:=by simpa[nlB]using hb
   rw[List.takeWhile_cons,if_neg (by simp[hb'])];simp
  ·rename_i hb;have hb':nlB b=true:=by simpa[nlB]using hb
   split at h
   ·omega
   ·rename_i h1;have h1':Lib.indexByte l 10≠-1:=by simpa using h1
    obtain⟨j,rfl⟩:∃j,i=j+1:=⟨i-1,by omega⟩;obtain⟨e1,e2⟩:=v7c l j (by omega);rw[List.takeWhile_cons,if_pos hb',e1,List.take_succ_cons];exact⟨rfl,by simp;omega⟩
theorem v6s:∀(l:List UInt8)(c:UInt8),decide (0<=Lib.indexByte l c)=l.any (·==c)
 | [],c=>rfl
 | b::l,c=>by
  unfold Lib.indexByte;have hge:=Lib.indexByte_ge l c;have ih:=v6s l c;rw[List.any_cons,<-ih];cases hb:(b==c)with
  | true=>simp
  | false=>
   simp only[Bool.false_eq_true,if_false,Bool.false_or];by_cases h:Lib.indexByte l c=-1
   ·simp[h]
   ·have h2:(Lib.indexByte l c==-1)=false:=by simpa using h
    rw[h2];simp only[Bool.false_eq_true,if_false];rw[decide_eq_true (by omega),decide_eq_true (by omega)]
end Go.Proofs.YthjapabokcajhaaGreatDoor
namespace Go.Proofs.YthjapabokcajhaaGreatDoor
open Go Go.RowKit Go.Lib Go.Shelf
set_option maxRecDepth 100000
set_option maxHeartbeats 1000000
theorem z0h(s:ByteArray)(w:World):
  Calls prog 198 #[.string s,.string ⟨#[10]⟩] w fun e w'=>e=.returned (.int .i64 (Lib.indexByte s.data.toList 10))/\w'=w:=by
 go_in;go_wp2_with(go_at_call 168;refine(q6s _ _ _).mono ?_;rintro e w'⟨rfl,rfl⟩)
 ·have h:([10]==s.toList)=true:=by assumption
  go_ret;refine⟨?_,rfl⟩;have e:s.data.toList=[10]:=by rw[<-Lib.toList_data];exact(beq_iff_eq.1 h).symm
  rw[e];simp[Lib.indexByte]
 ·go_ret;exact⟨rfl,rfl⟩
theorem k8l(s:ByteArray)(w:World)(h:Lib.indexByte s.data.toList 10=-1):
  Calls prog 170 #[.string s,.string ⟨#[10]⟩] w fun e w'=>e=.returned (.tuple #[.string s,.string ⟨#[]⟩,.bool false])/\∃n,w'=w.drewN n:=by
 go_in;go_wp2_with(go_at_call 198;refine(z0h _ _).mono ?_;rintro e w'⟨rfl,rfl⟩;rw[h]);go_ret3;exact⟨rfl,0,rfl⟩
theorem j2x(s:ByteArray)(w:World)(i:Nat)(h:Lib.indexByte s.data.toList 10=i)(hi:i+1<=s.size)(hb:s.size<=60000):
  Calls prog 170 #[.string s,.string ⟨#[10]⟩] w fun e w'=>e=.returned (.tuple #[.string (s.extract 0 i),.string (s.extract (i+1) s.size),.bool true])/\∃n,w'=w.drewN n:=by
 have c1:(0:Int)<=↑i:=by omega
 have c2:(↑i:Int)<=↑s.size:=by omega
 have c3:(0:Int)<=↑i+1:=by omega
 have c4:(↑i+1:Int)<=↑s.size:=by omega
 have c5:(↑i:Int)<=60000:=by omega
 go_in;go_wp2_with(go_at_call 198;refine(z0h _ _).mono ?_;rintro e w'⟨rfl,rfl⟩;rw[h])
 go_region
 go_wp2;go_ret3;exact⟨rfl,1,rfl⟩
end Go.Proofs.YthjapabokcajhaaGreatDoor
