import Derived.Test.YtelcnplcpboonaaGreatDoorPe06
import Derived.Test.YtelcnplcpboonaaGreatDoorPe05
import Derived.Deep.CutBlock
import Derived.Deep.DeepCutAuto
open Go.Proofs.Tryz
open List renaming length->ſ
open List renaming length_append->À,take_succ_eq_append_getElem->Æ,eq_nil_of_length_eq_zero->È,getElem?_eq_some_iff->Ì,map_append->Í,length_map->Î,append_nil->Ô
open Go.Value renaming slice->Á,string->Ã,int->Ñ,tuple->Ö
open Go.World.ownsRow renaming alloc->Â,lt->Ó
open Bool renaming false->Ä,true->Ð,and_true->Õ
open Nat renaming le_refl->Å,zero_add->Ò
open Go.Value.slice renaming injEq->Ç
open Option renaming none->É,some->Ë
open Go.RowKit renaming intOf->Ê
open Option.some renaming inj->Ï,injEq->Ø
namespace Go.Proofs.YtelcnplcpboonaaGreatDoor
open Go Go.RowKit
set_option maxRecDepth 100000
theorem jz(c w):Cw 27 #[Ñ .u8 (c.toNat:Int)] w (.bool (ay c)):=by
 unfold Cw;by_cases B:(48:Int)<=(c.toNat:Int)
 .by_cases C:(c.toNat:Int)<=57
  .have A:Hid (ay c=Ð):=by show ay c=Ð;simp[ay];omega
   go_in;go_wp2;go_ret;exact⟨by rw[A.o];rfl,rfl⟩
  .have A:Hid (ay c=Ä):=by show ay c=Ä;simp[ay];omega
   go_in;go_wp2;go_ret;exact⟨by rw[A.o];rfl,rfl⟩
 .have A:Hid (ay c=Ä):=by show ay c=Ä;simp[ay];omega
  go_in;go_wp2;go_ret;exact⟨by rw[A.o];rfl,rfl⟩
set_option maxHeartbeats 8000000
structure fx(s:ByteArray)(w:World)(i:Nat)(dn:List (Nat × List UInt8))(A P:Option Addr)(ac pc:Nat)(wr:World):Prop where
 b:Below w w wr
 le:i<=s.size
 ln:ſ dn<=i
 eq:lx (ae s) 0=(dn++bZ ((ae s).drop i) i,cM ((ae s).drop i) i)
 ws:wr.ownsRow w.heap.size 9 1 (Á A (ſ dn) ac) (ſ dn) (strCells (dn.map λx=>ab x.2))
 ps:wr.ownsRow w.heap.size 3 1 (Á P (ſ dn) pc) (ſ dn) (je (dn.map (·.1)))
theorem fx.space{s w i C A P B D wr}(h:fx s w i C A P B D wr)(hi:i<s.size)(E:cZ s[i]=Ð):fx s w (i+1) C A P B D wr:=by
 have e:=h.eq;rw[fv hi,bZ,cM,ku _ _ E]at e;exact{b:=h.b,le:=hi,ln:=by have:=h.ln;omega,eq:=e,ws:=h.ws,ps:=h.ps}
theorem CT{s w i D A P C G wr}(h:fx s w i D A P C G wr)(hi:i<s.size)(E:cZ s[i]=Ä)(B:dS s i=Ä):cM (ae s) 0=Ë i:=by
 have e:=h.eq;rw[dS,fv hi]at B;rw[fv hi,bZ,cM,pL _ E B]at e;rw[cM,e]
theorem fx.word{s}{w:World}{i I A P M V wr}(h:fx s w i I A P M V wr)(hi:i<s.size)(U:cZ s[i]=Ä)(S:dS s i=Ð){K L B C J}(R:Below w w J)
  (N:J.ownsRow w.heap.size 9 1 (Á K (ſ I+1) B) (ſ I+1) (strCells (I.map λx=>ab x.2)++[Ã (ab (aK ((ae s).drop i)))])) (O:J.ownsRow w.heap.size 3 1 (Á L (ſ I+1) C) (ſ I+1) (je (I.map (·.1))++[Ñ .i64 (i:Int)])):
  fx s w (i+eG s i) (I++[(i,aK ((ae s).drop i))]) K L B C J:=by
 have e:=h.eq;have D:=EP hi;have H:((ae s).drop i).drop (eG s i)=(ae s).drop (i+eG s i):=by rw[List.drop_drop]
 have E:bX (s[i]::(ae s).drop (i+1))=true:=by rw[<-fv hi];exact S
 have G:lx ((ae s).drop i) i=((i,aK ((ae s).drop i))::bZ ((ae s).drop (i+eG s i)) (i+eG s i),cM ((ae s).drop (i+eG s i)) (i+eG s i)):=by
  rw[<-H,eG,fv hi];exact nk i U E
 rw[bZ,cM,G]at e;refine{b:=R,le:=D.2,ln:=by have:=h.ln;simp;omega,eq:=by rw[e];simp,ws:=?_,ps:=?_}
 .rw[À,Í,lB];exact N
 .rw[À,Í,IQ];exact O
theorem Vt{c}(h:cZ c=Ð):((c.toNat:Int)==32)=Ð\/(((c.toNat:Int)==32)=Ä/\((c.toNat:Int)==10)=Ð):=by
 have B:=fC c 32 (by decide);have C:=fC c 10 (by decide);simp only[cZ,Bool.or_eq_true]at h;by_cases A:c=32
 .exact .inl (by rw[show(32:Int)=((32:Nat):Int)from rfl,B];simp[A])
 .refine .inr ⟨by rw[show(32:Int)=((32:Nat):Int)from rfl,B];simpa using A,?_⟩;rw[show(10:Int)=((10:Nat):Int)from rfl,C];rcases h with h|h
  .exact absurd (beq_iff_eq.1 h) A
  .exact h
theorem PJ{c}(h:cZ c=Ä):((c.toNat:Int)==32)=Ä/\((c.toNat:Int)==10)=false:=by
 have A:=fC c 32 (by decide);have B:=fC c 10 (by decide);simp only[cZ,Bool.or_eq_false_iff]at h;exact⟨by rw[show(32:Int)=((32:Nat):Int)from rfl,A];exact h.1,by rw[show(10:Int)=((10:Nat):Int)from rfl,B];exact h.2⟩
theorem zE{s k C q}{B:k<s.size}(A:C=k+eG s k)(E:eG s k=ci ay s (k+1)+1/\dS s k=(decide (ci ay s (k+1)+1<=6)&&(s[k] != 48||ci ay s (k+1)==0)))(D:ci ay s (k+1)+1=q-k):C=q/\dS s k=(decide (q-k<=6)&&(s[k] != 48||q-k==1)):=by grind
theorem Vb(c):((c.toNat:Int)<32/\Hid (dW c=Ä))\/(¬(c.toNat:Int)<32/\126<(c.toNat:Int)/\Hid (dW c=Ä))\/(¬(c.toNat:Int)<32/\¬126<(c.toNat:Int)/\Hid (dW c=Ð)):=by
 by_cases A:(c.toNat:Int)<32
 .exact .inl ⟨A,by show dW c=Ä;simp[dW];omega⟩
 .by_cases B:126<(c.toNat:Int)
  .exact .inr (.inl ⟨A,B,by show dW c=Ä;simp[dW];omega⟩)
  .exact .inr (.inr ⟨A,B,by show dW c=Ð;simp[dW];omega⟩)
theorem yz(a b:UInt8):((a.toNat:Int)==(b.toNat:Int))=(a==b):=by
 rw[Bool.eq_iff_iff,beq_iff_eq,beq_iff_eq];constructor
 .intro h;exact UInt8.toNat_inj.1 (by omega)
 .intro h;rw[h]
theorem NK(c){q}(h:q<9):(mw.take (q+1)).any (·==c)=((mw.take q).any (·==c)||((⟨#[40,41,91,93,44,43,42,61,59]⟩:ByteArray)[q]'h==c)):=by
 have A:=h;rw[Æ A,List.any_append];simp only[List.any_cons,List.any_nil,Bool.or_false];rfl
theorem zD{t}{k q:Nat}{c:UInt8}(h:k+1<=q)(I:t=(decide (q-k<=6)&&(c != 48||q-k==1))):(¬(q:Int)-(k:Int)<=6/\Hid (t=Ä))\/(((q:Int)-(k:Int)<=6)/\((c.toNat:Int) != 48)=Ð/\Hid (t=Ð))
  \/(((q:Int)-(k:Int)<=6)/\((c.toNat:Int) != 48)=Ä/\((q:Int)==(k:Int)+1)=Ð/\Hid (t=Ð))\/(((q:Int)-(k:Int)<=6)/\((c.toNat:Int) != 48)=Ä/\((q:Int)==(k:Int)+1)=Ä/\Hid (t=Ä)):=by
 have G:=fC c 48 (by decide)
 have A:((c.toNat:Int) != 48)=(c != 48):=by
  show(!((c.toNat:Int)==48))=(!(c==48))
  rw[show(48:Int)=((48:Nat):Int)from rfl,G];rfl
 by_cases E:q-k<=6
 .have C:=decide_eq_true E;cases B:(c != 48)with
  | true=>exact .inr (.inl ⟨by omega,by rw[A];exact B,by show t=Ð;rw[I,C,B];rfl⟩)
  | false=>
   by_cases H:q=k+1
   .have D:(q-k==1)=true:=by rw[beq_iff_eq];omega
    exact .inr (.inr (.inl ⟨by omega,by rw[A];exact B,by rw[beq_iff_eq];omega,by show t=Ð;rw[I,C,B,D];rfl⟩))
   .have D:(q-k==1)=false:=by rw[beq_eq_false_iff_ne];omega
    exact .inr (.inr (.inr ⟨by omega,by rw[A];exact B,by rw[beq_eq_false_iff_ne];omega,by show t=Ä;rw[I,C,B,D];rfl⟩))
 .exact .inl ⟨by omega,by show t=Ä;rw[I,decide_eq_false E];rfl⟩
theorem zQ{L k}(h:ſ L<=60000)(A:cM L 0=Ë k):dc L=5/\fX L=k:=by grind [dc,fX,cM]
theorem CR{L}(h:ſ L<=60000)(A:cM L 0=É)(B:300<many (aQ L)):dc L=3/\fX L=0:=by
 have e:dc L=3:=by rw[dc,if_neg (by omega),A,if_neg (by simp),if_pos B]
 exact⟨e,by rw[fX,e];rfl⟩
theorem CS{L}(h:ſ L<=60000)(A:cM L 0=É)(B:¬300<many (aQ L)):dc L=0/\fX L=0:=by
 have e:dc L=0:=by rw[dc,if_neg (by omega),A,if_neg (by simp),if_neg B]
 exact⟨e,by rw[fX,e];rfl⟩
theorem CQ{L}(h:60000<ſ L):dc L=3/\fX L=0:=by grind [dc,fX]
theorem CU{s w i B A P C D wr}(h:fx s w i B A P C D wr)(hi:¬i<s.size):cM (ae s) 0=É/\bZ (ae s) 0=B:=by
 have e:=h.eq;rw[List.drop_eq_nil_of_le (by rw[aw];omega),bZ,cM,j5,Ô]at e;rw[cM,bZ,e];exact⟨rfl,rfl⟩
theorem zY{s k}(h:k<s.size)(H:cZ s[k]=Ä):many [aK ((ae s).drop k)]=if s[k] != 35 then 1 else 0:=by
 have C:∃z,aK ((ae s).drop k)=s[k]::z:=by
  rw[aK,fv h];have E:=lJ s[k] ((ae s).drop (k+1));obtain⟨m,D⟩:∃m,aV (s[k]::(ae s).drop (k+1))=m+1:=⟨_,(Nat.sub_add_cancel E).symm⟩;rw[D,List.take_succ_cons];exact xK (mn H) _
 obtain⟨z,G⟩:=C;rw[G];have B:EN (s[k]::z)=(s[k] != 35):=rfl;cases A:(s[k] != 35)with
 | true=>rw[many,List.filter_cons_of_pos (by rw[B];exact A)];rfl
 | false=>rw[many,List.filter_cons_of_neg (by rw[B,A];decide)];rfl
theorem Oy{s k j}(h:k<=j)(C:j<s.size):((ae s).drop k).take (j+1-k)=((ae s).drop k).take (j-k)++[s[j]]:=by
 have e:j+1-k=(j-k)+1:=by omega
 have B:j-k<((ae s).drop k).length:=by rw[List.length_drop,aw];omega
 rw[e,Æ B]
 congr 2
 rw[List.getElem_drop];have A:k+(j-k)=j:=by omega
 simp only[A];rfl
theorem Vs(s)(i e:Nat)(A:i<=e)(B:e<=s.size)(W):(Instr.slice 9 (Ã s) (Ë ↑(i:Int)) (Ë ↑((e:Nat):Int)) É).run prog W=.ok (Ã (ab (((ae s).drop i).take (e-i)))) W:=by
 have h:=run_slice_string (P:=prog) (w:=W) 9 s .i64 .i64 (i:Int) (e:Int) Tryz.underlying9 (by omega) (by omega) (by omega);rw[Int.toNat_natCast,Int.toNat_natCast,m8]at h;exact h
def uD(s:ByteArray)(w:World)(e:Ending)(w':World):Prop:=
 (dc (ae s)≠0/\e=.returned (Ö #[Á É 0 0,Á É 0 0,Ñ .i64 ((fX (ae s):Nat):Int),Ñ .i64 (dc (ae s))]))\/
 (dc (ae s)=0/\∃A P a b,e=.returned (Ö #[Á A (aQ (ae s)).length a,Á P (aQ (ae s)).length b,Ñ .i64 0,Ñ .i64 0])/\cP w (Á A (aQ (ae s)).length a) ((aQ (ae s)).map ab) w'/\jm w.heap.size (Á P (aQ (ae s)).length b) (ec (ae s)) w')
theorem R2(s)(w:World)(hl:(ae s).length<=60000):
  Calls prog 30 #[Ã s] w λe a=>uD s w e a/\Below w w a:=by
 have Ag:s.size<=60000:=by rw[<-aw];exact hl
 go_in;go_wp2
 go_loopw [6,7,8,9] (λx p m i wr=>∃(k:Nat)(D:List (Nat × List UInt8))(A P:Option Addr)(ac pc:Nat),x=Á A (ſ D) ac/\p=Á P (ſ D) pc/\m=Ñ .i64 ((many (D.map (·.2)):Nat):Int)/\i=(k:Int)/\fx s w k D A P ac pc wr) (λ_ _ _ i _=>s.size-(Ê i).toNat)
 case atStart=>exact⟨0,[],É,É,0,0,rfl,rfl,rfl,rfl,{b:=Below.refl _ _,le:=Nat.zero_le _,ln:=Å _,eq:=rfl,ws:=World.ownsRow_nil _ _ _ _,ps:=World.ownsRow_nil _ _ _ _}⟩
 case round=>
  obtain⟨k,D,A,P,ac,pc,rfl,rfl,rfl,rfl,hR⟩:=hrel;have J:=aa hR;have Bj:=hR.le;have Bk:=hR.ln
  have A3:many (D.map (·.2))<=60000:=by
   have h1:many (D.map (·.2))<=(D.map (·.2)).length:=List.length_filter_le _ _;rw[Î]at h1;omega
  generalize A2:many (D.map (·.2))=mm at A3;have l:=aa A2;by_cases E:k<s.size
  .have A0:(k:Int)<(s.size:Int):=by omega
   cases hs:cZ s[k]with
   | true=>
    have HN:=aa (J.o.space E hs);rcases Vt hs with h1|⟨h1,h2⟩
    .clear hs;go_wp2
     go_roundw
     case rel=>exact⟨k+1,D,A,P,ac,pc,rfl,rfl,by rw[l.o],by go_num,HN.o⟩
     case measure=>simp[Ê];omega
    .clear hs;go_wp2
     go_roundw
     case rel=>exact⟨k+1,D,A,P,ac,pc,rfl,rfl,by rw[l.o],by go_num,HN.o⟩
     case measure=>simp[Ê];omega
   | false=>
    obtain⟨h1,h2⟩:=PJ hs;have HS:=aa hs;obtain⟨Bo,Bp⟩:=EP E;obtain⟨L,A1⟩:∃L,L=k+eG s k:=⟨_,rfl⟩;have H:=aa A1;have Az:k+1<=L:=by omega
    go_upto_block 2 with(first|(go_at_call 51;refine(pT _ _).mono ?_;rintro e c⟨rfl,rfl⟩)|(go_at_call 27;refine(jz _ _).mono ?_;rintro e c⟨rfl,rfl⟩))
    go_cut [11,12,13,14] (λx a _ _ b=>x=(L:Int)/\a=.bool (dS s k)/\b=wr)
    case first=>
     cases n:aI s[k]with
     | true=>
      obtain⟨e1,e2⟩:=QL E n;have M:Hid (eG s k=ci aI s (k+1)+1/\dS s k=decide (ci aI s (k+1)+1<=8)):=⟨e1,e2⟩;go_wp2
      go_loopw [11] (λx a=>∃q:Nat,k+1<=q/\q<=s.size/\x=(q:Int)/\a=wr/\(k+1)+ci aI s (k+1)=q+ci aI s q) (λx _=>s.size-(Ê x).toNat)
      case atStart=>exact⟨k+1,Å _,by omega,by go_num,rfl,rfl⟩
      case round=>
       obtain⟨q,Z,Ao,rfl,rfl,hq⟩:=hrel;have S:=aa hq;by_cases C:q<s.size
       .have K:(q:Int)<(s.size:Int):=by omega
        cases I:aI s[q]with
        | true=>
         have R:=aa I
         have B:Hid ((k+1)+ci aI s (k+1)=(q+1)+ci aI s (q+1)):=by
          have r:=sk C I;have y:=S.o;show _=_;omega
         go_wp2_with(go_at_call 51;refine(pT _ _).mono ?_;rintro e c⟨rfl,rfl⟩;rw[R.o])
         go_roundw
         case rel=>exact⟨q+1,by omega,by omega,by go_num,by trivial,B.o⟩
         case measure=>simp[Ê];omega
        | false=>
         have R:=aa I
         have B:Hid (L=q/\dS s k=decide ((q:Int)-(k:Int)<=8)):=by
          have r:=rH C I;have y:=S.o;have h5:=H.o;have h6:=M.o.1;refine⟨by omega,?_⟩;rw[M.o.2]
          congr 1
          apply propext;omega
         go_wp2_with(go_at_call 51;refine(pT _ _).mono ?_;rintro e c⟨rfl,rfl⟩;rw[R.o])
         go_meet
         exact⟨by rw[B.o.1],by rw[B.o.2],rfl⟩
       .have K:¬(q:Int)<(s.size:Int):=by omega
        have B:Hid (L=q/\dS s k=decide ((q:Int)-(k:Int)<=8)):=by
         have r:=sj (p:=aI) C;have y:=S.o;have h5:=H.o;have h6:=M.o.1;refine⟨by omega,?_⟩;rw[M.o.2]
         congr 1
         apply propext;omega
        go_wp2
        go_meet
        exact⟨by rw[B.o.1],by rw[B.o.2],rfl⟩
     | false=>
      cases Ab:ay s[k]with
      | true=>
       obtain⟨e1,e2⟩:=QK E n Ab;have M:Hid (eG s k=ci ay s (k+1)+1/\dS s k=(decide (ci ay s (k+1)+1<=6)&&(s[k] != 48||ci ay s (k+1)==0))):=⟨e1,e2⟩;go_wp2
       go_loopw [11] (λx a=>∃q:Nat,k+1<=q/\q<=s.size/\x=(q:Int)/\a=wr/\(k+1)+ci ay s (k+1)=q+ci ay s q) (λx _=>s.size-(Ê x).toNat)
       case atStart=>exact⟨k+1,Å _,by omega,by go_num,rfl,rfl⟩
       case round=>
        obtain⟨q,Z,Ao,rfl,rfl,hq⟩:=hrel;have S:=aa hq;by_cases C:q<s.size
        .have K:(q:Int)<(s.size:Int):=by omega
         cases I:ay s[q]with
         | true=>
          have R:=aa I
          have B:Hid ((k+1)+ci ay s (k+1)=(q+1)+ci ay s (q+1)):=by
           have r:=sk C I;have y:=S.o;show _=_;omega
          go_wp2_with(go_at_call 27;refine(jz _ _).mono ?_;rintro e c⟨rfl,rfl⟩;rw[R.o])
          go_roundw
          case rel=>exact⟨q+1,by omega,by omega,by go_num,by trivial,B.o⟩
          case measure=>simp[Ê];omega
         | false=>
          have R:=aa I
          have Af:ci ay s (k+1)+1=q-k:=by
           have r:=rH C I;have y:=S.o;omega
          have B:=aa (zE H.o M.o Af);rcases zD Z B.o.2 with⟨a,G⟩|⟨a,X,G⟩|⟨a,X,g3,G⟩|⟨a,X,g3,G⟩
          all_goals
           go_wp2_with(go_at_call 27;refine(jz _ _).mono ?_;rintro e c⟨rfl,rfl⟩;rw[R.o])
           go_meet
           exact⟨by rw[B.o.1],by rw[G.o],rfl⟩
        .have K:¬(q:Int)<(s.size:Int):=by omega
         have Af:ci ay s (k+1)+1=q-k:=by
          have r:=sj (p:=ay) C;have y:=S.o;omega
         have B:=aa (zE H.o M.o Af);rcases zD Z B.o.2 with⟨a,G⟩|⟨a,X,G⟩|⟨a,X,g3,G⟩|⟨a,X,g3,G⟩
         all_goals
          go_wp2
          go_meet
          exact⟨by rw[B.o.1],by rw[G.o],rfl⟩
      | false=>
       cases o:(s[k]==35)with
       | true=>
        obtain⟨e1,e2⟩:=PO E n Ab o;have M:Hid (eG s k=ci bO s (k+1)+1/\dS s k=i9 s (k+1)):=⟨e1,e2⟩;have As:((s[k].toNat:Int)==35)=true:=by rw[show(35:Int)=((35:Nat):Int)from rfl,fC _ 35 (by decide)];exact o
        go_wp2
        go_loopw [11,12] (λx a c=>∃(q:Nat)(b:Bool),k+1<=q/\q<=s.size/\x=(q:Int)/\a=.bool b/\c=wr/\(k+1)+ci bO s (k+1)=q+ci bO s q/\dS s k=(b&&i9 s q)) (λx _ _=>s.size-(Ê x).toNat)
        case atStart=>exact⟨k+1,Ð,Å _,by omega,by go_num,rfl,rfl,rfl,by rw[M.o.2];rfl⟩
        case round=>
         obtain⟨q,b,Z,Ao,rfl,rfl,rfl,hq,I⟩:=hrel;have S:=aa hq;have R:=aa I;by_cases C:q<s.size
         .have K:(q:Int)<(s.size:Int):=by omega
          cases Q:bO s[q]with
          | true=>
           have Ar:((s[q].toNat:Int) != 10)=true:=by
            show(!((s[q].toNat:Int)==10))=Ð
            rw[show(10:Int)=((10:Nat):Int)from rfl,fC _ 10 (by decide)];exact Q
           have B:Hid ((k+1)+ci bO s (k+1)=(q+1)+ci bO s (q+1)):=by
            have r:=sk C Q;have y:=S.o;show _=_;omega
           have d:Hid (dS s k=(b&&(dW s[q]&&i9 s (q+1)))):=by
            show _=_;rw[R.o,Ls C Q]
           rcases Vb s[q]with⟨a,G⟩|⟨a,X,G⟩|⟨a,X,G⟩
           all_goals
            go_wp2
            go_roundw
            case rel=>
             first
              | exact⟨q+1,Ä,by omega,by omega,by go_num,rfl,by trivial,B.o,by rw[d.o,G.o];simp⟩
              | exact⟨q+1,b,by omega,by omega,by go_num,rfl,by trivial,B.o,by rw[d.o,G.o];simp⟩
            case measure=>simp[Ê];omega
          | false=>
           have Ar:((s[q].toNat:Int) != 10)=false:=by
            show(!((s[q].toNat:Int)==10))=Ä
            rw[show(10:Int)=((10:Nat):Int)from rfl,fC _ 10 (by decide)];exact Q
           have B:Hid (L=q/\dS s k=b):=by
            have r:=rH C Q;have y:=S.o;have h5:=H.o;have h6:=M.o.1;exact⟨by omega,by rw[R.o,MM C Q,Õ]⟩
           go_wp2
           go_meet
           exact⟨by rw[B.o.1],by rw[B.o.2],rfl⟩
         .have K:¬(q:Int)<(s.size:Int):=by omega
          have B:Hid (L=q/\dS s k=b):=by
           have r:=sj (p:=bO) C;have y:=S.o;have h5:=H.o;have h6:=M.o.1;exact⟨by omega,by rw[R.o,Lr C,Õ]⟩
          go_wp2
          go_meet
          exact⟨by rw[B.o.1],by rw[B.o.2],rfl⟩
       | false=>
        obtain⟨e1,e2⟩:=PN E n Ab o;have M:Hid (L=k+1/\dS s k=ml s[k]):=⟨by rw[H.o,e1],e2⟩;have As:((s[k].toNat:Int)==35)=false:=by rw[show(35:Int)=((35:Nat):Int)from rfl,fC _ 35 (by decide)];exact o
        go_wp2
        go_loopw [12,15] (λa j b=>∃q:Nat,q<=9/\j=(q:Int)/\a=.bool ((mw.take q).any (·==s[k]))/\b=wr) (λ_ j _=>9-(Ê j).toNat)
        case atStart=>exact⟨0,by omega,by go_num,rfl,rfl⟩
        case round=>
         obtain⟨q,Z,rfl,rfl,rfl⟩:=hrel;by_cases C:q<9
         .have K:(q:Int)<9:=by omega
          have HM:=aa (NK s[k] C);cases hm:((⟨#[40,41,91,93,44,43,42,61,59]⟩:ByteArray)[q]==s[k])with
          | true=>
           have Ac:((((⟨#[40,41,91,93,44,43,42,61,59]⟩:ByteArray)[q]).toNat:Int)==(s[k].toNat:Int))=true:=by rw[yz];exact hm
           rw[hm]at HM;go_wp2
           go_roundw
           case rel=>exact⟨q+1,by omega,by go_num,by rw[HM.o];simp,by trivial⟩
           case measure=>simp[Ê];omega
          | false=>
           have Ac:((((⟨#[40,41,91,93,44,43,42,61,59]⟩:ByteArray)[q]).toNat:Int)==(s[k].toNat:Int))=false:=by rw[yz];exact hm
           rw[hm]at HM;go_wp2
           go_roundw
           case rel=>exact⟨q+1,by omega,by go_num,by rw[HM.o];simp,by trivial⟩
           case measure=>simp[Ê];omega
         .have K:¬(q:Int)<9:=by omega
          have G:Hid (dS s k=(mw.take q).any (·==s[k])):=by
           show _=_;rw[M.o.2,List.take_of_length_le (by show 9<=q;omega)];rfl
          generalize(mw.take q).any (·==s[k])=b at G
          go_wp2
          go_meet
          exact⟨by rw[M.o.1];go_num,by rw[G.o],rfl⟩
    case rest=>
     obtain⟨rfl,rfl,rfl⟩:=hcut;cases An:dS s k with
     | false=>
      have g:=aa (zQ (by rw[aw];exact Ag) (CT J.o E HS.o An));go_wp2;refine bodyPost_ret (v:=Ö #[Á É 0 0,Á É 0 0,(k:Int),Ñ .i64 5]) (by simp[results,Tryz.results30,go_sem]) rfl ?_;exact⟨.inl ⟨by rw[g.o.1];decide,by rw[g.o.1,g.o.2]⟩,J.o.b⟩
     | true=>
      have Ap:=aa An
      have Ak:Hid (bU (((ae s).drop k).take (L-k))=aK ((ae s).drop k)):=by
       show _=_;rw[aK,H.o]
       congr 2
       rw[eG];omega
      have Ai:Hid (many (D.map (·.2)++[aK ((ae s).drop k)])=mm+(if s[k] != 35 then 1 else 0)):=by
       show _=_;rw[zX,l.o,zY E HS.o]
      generalize hW:aK ((ae s).drop k)=W at Ak Ai;have HW:=aa hW;go_wp2
      go_loopw [16] (λx a=>∃e:Nat,k+1<=e/\e<=L/\x=(e:Int)/\a=wc/\bU (((ae s).drop k).take (e-k))=W) (λx _=>(Ê x).toNat)
      case atStart=>exact⟨L,Az,Å _,rfl,rfl,Ak.o⟩
      case round=>
       obtain⟨e,Bf,Bg,rfl,rfl,he⟩:=hrel;have G:Hid (bU (((ae s).drop k).take (e-k))=W):=he;obtain⟨j,rfl⟩:∃j,e=j+1:=⟨e-1,by omega⟩;have Y:((j+1:Nat):Int)=(j:Int)+1:=by omega
       rw[Y];have Ay:j<s.size:=by omega
       have Bh:(j:Int)<(s.size:Int):=by omega
       have Bi:(k:Int)<(j:Int)+1:=by omega
       have Aj:Hid (((ae s).drop k).take (j+1-k)=((ae s).drop k).take (j-k)++[s[j]]):=Oy (by omega) Ay;clear Y;cases I:(s[j]==32)with
       | true=>
        have Av:((s[j].toNat:Int)==32)=true:=by rw[show(32:Int)=((32:Nat):Int)from rfl,fC _ 32 (by decide)];exact I
        have f:Hid (k+1<=j/\bU (((ae s).drop k).take (j-k))=W):=by
         have Al:=beq_iff_eq.1 I;refine⟨?_,by rw[<-G.o,Aj.o,Al,xv]⟩;rcases Nat.eq_or_lt_of_le (show k<=j by omega)with h|h
         .subst h;exact absurd Al (mn HS.o)
         .exact h
        clear I;go_wp2
        go_roundw
        case rel=>exact⟨j,f.o.1,by omega,by go_num,by trivial,f.o.2⟩
        case measure=>simp[Ê]
       | false=>
        have Av:((s[j].toNat:Int)==32)=false:=by rw[show(32:Int)=((32:Nat):Int)from rfl,fC _ 32 (by decide)];exact I
        have f:Hid (((ae s).drop k).take (j+1-k)=W):=by
         show _=_;rw[<-G.o,Aj.o,jA _ (by simpa using I)]
        have Bm:∀a:World,(Instr.slice 9 (Ã s) (Ë ↑(k:Int)) (Ë ↑((j:Int)+1)) É).run prog a=.ok (Ã (ab W)) a:=λWW=>by
         have h9:=Vs s k (j+1) (by omega) (by omega) WW;rw[f.o,show((j+1:Nat):Int)=(j:Int)+1 by omega]at h9;exact h9
        obtain⟨i0,Aw,A8,A9,Ba⟩:=info_parts j7;have Bn:=J.o.b.size;go_wp2_with(at_builtin;refine wpList_append_lies _ rfl _ _ 72 rfl w.heap.size 9 i0 _ 1 16 Tryz.underlying72 Aw A8 A9 Ba rfl (by decide) _ _ _ rfl (Â J.o.ws _) wr.heap.size 1 1 [Ã (ab W)] rfl rfl (cell_one_new wr _ _) (by intro u hu;simp at hu;subst hu;rfl) (by decide) (by unfold maxLen;omega) (by omega) (by simp;omega) (wr.heap.size+1) (by simp) ?_);intro X U c Ad N Bb Bd;have Am:=(J.o.b.alloc (by omega) (.cells #[Ã (ab W)] 9)).grown N (by simp;omega) (λj a=>(Ó J.o.ws j a).1);have d:=(show Hid (Below _ _ _)from Am);have Aa:=aa (oU (Â J.o.ps _) (Â J.o.ws _) (by decide) N);have Aq:=(show Hid (c.ownsRow _ _ _ _ _ _)from Ad);have Bl:=Am.size;obtain⟨i1,Ax,A5,A6,A7⟩:=info_parts lW;go_wp2_with(at_builtin;refine wpList_append_lies _ rfl _ _ 73 rfl w.heap.size 3 i1 _ 1 8 Tryz.underlying73 Ax A5 A6 A7 rfl (by decide) _ _ _ rfl (Â Aa.o _) c.heap.size 1 1 [(k:Int)] rfl rfl (cell_one_new c _ _) (by intro u hu;simp at hu;subst hu;rfl) (by decide) (by unfold maxLen;omega) (by omega) (by simp;omega) (c.heap.size+1) (by simp) ?_);intro g3 V w3 Ae O Bc Be;have Au:=(d.o.alloc (by omega) (.cells #[(k:Int)] 3)).grown O (by simp;omega) (λj a=>(Ó Aa.o j a).1);have At:=oU (Â Aq.o _) (Â Aa.o _) (by decide) O
        have hN:fx s w L (D++[(k,W)]) X g3 U V w3:=by
         rw[H.o,<-HW.o];refine J.o.word E HS.o Ap.o Au ?_ ?_
         .rw[HW.o];exact At
         .exact Ae
        have HN:=aa hN
        have Ah:Hid (many ((D++[(k,W)]).map (·.2))=mm+(if s[k] != 35 then 1 else 0)):=by
         show _=_;rw[Í];exact Ai.o
        cases hn:(s[k] != 35)with
        | true=>
         have A4:((s[k].toNat:Int) != 35)=true:=by
          show(!((s[k].toNat:Int)==35))=Ð
          rw[show(35:Int)=((35:Nat):Int)from rfl,fC _ 35 (by decide)];exact hn
         have z:Hid (many ((D++[(k,W)]).map (·.2))=mm+1):=by show _=_;rw[Ah.o,hn];rfl
         go_wp2
         go_roundw
         case rel=>exact⟨L,D++[(k,W)],Ë ↑X,Ë ↑g3,U,V,by rw[À];rfl,by rw[À];rfl,by rw[z.o];go_num,by go_num,HN.o⟩
         case measure=>simp[Ê];omega
        | false=>
         have A4:((s[k].toNat:Int) != 35)=false:=by
          show(!((s[k].toNat:Int)==35))=Ä
          rw[show(35:Int)=((35:Nat):Int)from rfl,fC _ 35 (by decide)];exact hn
         have z:Hid (many ((D++[(k,W)]).map (·.2))=mm):=by show _=_;rw[Ah.o,hn];rfl
         go_wp2
         go_roundw
         case rel=>exact⟨L,D++[(k,W)],Ë ↑X,Ë ↑g3,U,V,by rw[À];rfl,by rw[À];rfl,by rw[z.o],by go_num,HN.o⟩
         case measure=>simp[Ê];omega
  .have A0:¬(k:Int)<(s.size:Int):=by omega
   have HX:=aa (CU J.o E)
   have HL:Hid ((aQ (ae s)).length=ſ D/\many (aQ (ae s))=mm):=by
    refine⟨?_,?_⟩
    .rw[aQ,HX.o.2,Î]
    .rw[aQ,HX.o.2];exact l.o
   by_cases t:300<mm
   .have Ac:(300:Int)<(mm:Int):=by omega
    have g:=aa (CR (by rw[aw];exact Ag) HX.o.1 (by rw[HL.o.2];exact t));go_wp2;refine bodyPost_ret (v:=Ö #[Á É 0 0,Á É 0 0,Ñ .i64 0,Ñ .i64 3]) (by simp[results,Tryz.results30,go_sem]) rfl ?_;exact⟨.inl ⟨by rw[g.o.1];decide,by rw[g.o.1,g.o.2];rfl⟩,J.o.b⟩
   .have Ac:¬(300:Int)<(mm:Int):=by omega
    have g:=aa (CS (by rw[aw];exact Ag) HX.o.1 (by rw[HL.o.2];exact t));go_wp2;refine bodyPost_ret (v:=Ö #[Á A (ſ D) ac,Á P (ſ D) pc,Ñ .i64 0,Ñ .i64 0]) (by simp[results,Tryz.results30,go_sem]) rfl ?_;refine⟨.inr ⟨g.o.1,A,P,ac,pc,by rw[HL.o.1],?_,?_⟩,J.o.b⟩
    .show wr.ownsRow _ _ _ _ _ _;rw[Î,HL.o.1,aQ,HX.o.2,List.map_map];exact J.o.ws
    .show wr.ownsRow _ _ _ _ _ _;rw[<-kX,HL.o.1,ec,HX.o.2];exact J.o.ps
def ef(ds:List Td):List Value:=ds.flatMap λx=>[Ñ .i64 x.op,Ã x.tx,Ñ .i64 x.n]
theorem su:∀A:List Td,(ef A).length=ſ A*3
 | []=>rfl
 | x::r=>by
  have:=su r
  unfold ef at this⊢;rw[List.flatMap_cons,À,this,List.length_cons];simp;omega
theorem Jb(a b):ef (a++b)=ef a++ef b:=by simp[ef,List.flatMap_append]
theorem xJ:∀(A:List Td)(i:Nat)(h:i<ſ A),(ef A)[i*3]?=Ë (A[i].op)/\(ef A)[i*3+1]?=Ë (Ã A[i].tx)/\(ef A)[i*3+2]?=Ë (A[i].n)
 | x::r,0,_=>by simp[ef]
 | x::r,i+1,h=>by
  have B:=xJ r i (by simpa using h);have e:ef (x::r)=↑x.op::Ã x.tx::↑x.n::ef r:=by simp[ef]
  rw[e,show(i+1)*3=i*3+1+1+1 by omega];exact B
theorem Jc(C):∀u∈ef C,u.oneCell'=true:=by
 intro u B;obtain⟨x,_,A⟩:=List.mem_flatMap.1 B;simp at A;rcases A with rfl|rfl|rfl<;>rfl
theorem M1(G)(j:Nat)(u)(h:(ef G)[j]?=Ë u):∃i,∃a:i<ſ G,(j=i*3/\u=G[i].op)\/(j=i*3+1/\u=Ã G[i].tx)\/(j=i*3+2/\u=G[i].n):=by
 have E:j<ſ G*3:=by rw[<-su];exact(Ì.1 h).1
 have hi:j / 3<ſ G:=by omega
 obtain⟨A,B,C⟩:=xJ G (j / 3) hi;refine⟨j / 3,hi,?_⟩;have D:j=j / 3*3\/j=j / 3*3+1\/j=j / 3*3+2:=by omega
 rcases D with e|e|e
 .rw[<-e,h]at A;exact .inl ⟨e,Ï A⟩
 .rw[<-e,h]at B;exact .inr (.inl ⟨e,Ï B⟩)
 .rw[<-e,h]at C;exact .inr (.inr ⟨e,Ï C⟩)
theorem xa:(prog.info? 81).map (λi=>(i.zero,i.size,i.bytes))=Ë (Ë (.agg #[Ñ .i64 0,Ã ⟨#[]⟩,Ñ .i64 0]),3,32):=by kernel_rfl
theorem uw{B w a n S R}(h:w.ownsRow B 81 3 (Á a n S) (ſ R) (ef R)):n=ſ R/\(ſ R)<=S/\aG w a R:=by
 rcases h.2 with⟨D,H⟩|⟨g,c,M,D,_,L,K,_,P,C⟩
 .simp only[Ç]at D;obtain⟨rfl,rfl,rfl⟩:=D;refine⟨H.symm,by omega,λi hi=>?_⟩;omega
 .simp only[Ç]at D;obtain⟨rfl,rfl,rfl⟩:=D;refine⟨rfl,K,λi hi=>?_⟩
  have J:g<w.heap.size:=by
   rcases Nat.lt_or_ge g w.heap.size with G|G
   .exact G
   .simp[Array.getElem?_eq_none G]at L
  have A:∀k u,(ef R)[k]?=Ë u->w.cell? ⟨g,k,É⟩=Ë u:=by
   intro k u E;rw[<-C]at E
   have I:k<ſ R*3:=by
    have:=(Ì.1 E).1
    simp at this;omega
   rw[List.getElem?_take_of_lt I]at E;simp only[World.cell?,L];simpa using E
  obtain⟨H,N,O⟩:=xJ R i hi;refine⟨g,0,rfl,J,?_,?_,?_⟩
  .rw[Ò];exact A _ _ H
  .rw[Ò];exact A _ _ N
  .rw[Ò];exact A _ _ O
theorem AZ{w}{b o:Nat}{K}(h:aG w (Ë ↑(b,o)) K):∀j u,(ef K)[j]?=Ë u->w.cell? (((b,o):Addr).add j)=Ë u:=by
 intro j u H;obtain⟨i,G,E⟩:=M1 K j u H;obtain⟨I,J,e,_,A,B,C⟩:=h i G;simp only[Ø,Addr.mk.injEq,and_true]at e;obtain⟨rfl,rfl⟩:=e
 have D:∀k,((b,o):Addr).add k=(b,o+k):=by
  intro k;unfold Addr.add
  split
  .rename_i h;subst h;rfl
  .rfl
 rw[D];rcases E with⟨rfl,rfl⟩|⟨rfl,rfl⟩|⟨rfl,rfl⟩
 .exact A
 .rw[show o+(i*3+1)=o+i*3+1 by omega];exact B
 .rw[show o+(i*3+2)=o+i*3+2 by omega];exact C
def au(B:Nat)(v:Value)(xs:List Td)(w:World):Prop:=w.ownsRow B 81 3 v (ſ xs) (ef xs)
theorem au.tds{B w A n c C}(h:au B (Á A n c) C w):aG w A C:=(uw h).2.2
theorem au.none{B w A n c H}(h:au B (Á A n c) H w):n=ſ H/\(A=É->n=0/\c=0):=by
 rcases h.2 with⟨C,E⟩|⟨g,G,D,C,_⟩
 .simp only[Ç]at C;obtain⟨rfl,rfl,rfl⟩:=C;exact⟨E.symm,λ_=>⟨rfl,rfl⟩⟩
 .simp only[Ç]at C;obtain⟨rfl,rfl,rfl⟩:=C;exact⟨rfl,λe=>by cases e⟩
theorem jf{w G rest o a}{Q:Exit->Act->World->Prop}(J:o.guard=É)(s x)
  (i:o.op=.call {callee:=.builtin .append,args:=#[s,x],argTypes:=#[82,82]})
  (B v Z) (k:a.eval s=v) (C:au B v Z w)
  (d n ws) (q:ſ ws=n) (wc) (l:a.eval x=Á d n wc) (f:aG w d ws) (K:d=É->n=0/\wc=0)
  (m) (p:ſ Z+n=m) (r:m<=1000000) (E:B<=w.heap.size)
  (h:∀A c Y,au B (Á A m c) (Z++ws) Y->w.grownBy Y v.ownBlock->wpList prog G Q rest (a.put o.dst (Á A m c)) Y):wpList prog G Q (o::rest) a w:=by
 subst q p;obtain⟨V,U,O,P,R⟩:=info_parts xa
 have S:∀H Y,au B H (Z++ws) Y->w.grownBy Y v.ownBlock->wpList prog G Q rest (a.put o.dst H) Y:=by
  intro H Y I M
  obtain⟨A,c,rfl⟩:∃A c,H=Á A (ſ Z+ſ ws) c:=by
   rcases I.2 with⟨L,D⟩|⟨g,c,W,L,_⟩
   .rw[À]at D;exact⟨.none,0,by rw[L,D]⟩
   .rw[À]at L;exact⟨_,c,L⟩
  exact h A c Y I M
 cases d with
 | none=>
  obtain⟨D,rfl⟩:=K rfl;obtain rfl:ws=[]:=È D;refine wpList_append_own_none J s x 82 i B 81 V 3 Tryz.underlying82 U v (ſ Z) (ef Z) k C l ?_;refine S v w ?_ ⟨rfl,rfl,rfl,Å _,λ_ _ _=>rfl⟩;rw[Ô];exact C
 | some ad=>
  have N:ws=[]\/∃b o,ad=⟨b,o,É⟩:=by
   rcases Nat.eq_zero_or_pos (ſ ws) with D|D
   .exact .inl (È D)
   .obtain⟨b,o,e,_⟩:=f 0 D;exact .inr ⟨b,o,by simpa using e⟩
  refine wpList_append_own w J s x 82 i B 81 V _ 3 32 Tryz.underlying82 U O P R rfl (by decide) v (ſ Z) (ef Z) k C ad (ſ ws) wc (ef ws) l (su ws) ?_ (Jc ws) (by unfold maxLen;omega) (by omega) E ?_
  .rcases N with rfl|⟨b,o,rfl⟩
   .intro j u X;simp[ef]at X
   .exact AZ f
  .intro H Y I M _;rw[<-Jb]at I;refine S H Y ?_ M;show Y.ownsRow _ _ _ _ _ _;rw[À];exact I
theorem au.down{B B' v H w}(h:au B v H w)(I:B'<=B):au B' v H w:=by
 refine⟨h.1,?_⟩;rcases h.2 with D|⟨g,c,C,E,G,A⟩
 .exact .inl D
 .exact .inr ⟨g,c,C,E,by omega,A⟩
theorem au.kept{B v I w w'}(h:au B v I w)(J:∀g,B<=g->g<w.heap.size->w'.heap[g]?=w.heap[g]?):au B v I w':=by
 refine⟨h.1,?_⟩;rcases h.2 with G|⟨g,c,C,H,D,E,A⟩
 .exact .inl G
 .exact .inr ⟨g,c,C,H,D,(J g D (Array.getElem?_eq_some_iff.1 E).1).trans E,A⟩
theorem au.one(w:World)(x):au w (Á (Ë ⟨w.heap.size,0,É⟩) 1 1) [x] (w.alloc (.cells #[x.op,Ã x.tx,x.n] 81)):=by
 have A:(w.alloc (.cells #[x.op,Ã x.tx,x.n] 81)).heap[w.heap.size]?=Ë (.cells #[x.op,Ã x.tx,x.n] 81 (0,0)):=by
  show(w.heap.push _)[w.heap.size]?=_
  simp
 exact⟨rfl,.inr ⟨w.heap.size,1,_,rfl,Å _,A,Å _,by unfold maxLen;decide,rfl,rfl⟩⟩
