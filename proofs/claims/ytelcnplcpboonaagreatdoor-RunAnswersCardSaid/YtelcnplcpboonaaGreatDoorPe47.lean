import Derived.Test.YtelcnplcpboonaaGreatDoorPe45
import Derived.Test.YtelcnplcpboonaaGreatDoorPe44
open Go.Proofs.Tryz
open List renaming getElem_mem->À
namespace Go.Proofs.YtelcnplcpboonaaGreatDoor
open Go Go.RowKit
set_option maxRecDepth 100000
set_option maxHeartbeats 8000000
theorem EH{t u}(A:ag t=0)(B:ag u=0):((ab (aT t)).toList==(ab (aT u)).toList)=true↔t=u:=by grind [Hd,vq,ag,ab,aT]
theorem sp{α:Type}{l:List α}{k}(h:k<l.length){x}:x∈l.take (k+1)↔x∈l.take k\/l[k]=x:=by grind [List.take_succ_eq_append_getElem,List.mem_singleton]
theorem RN(ps C A B c c')(w:World)(hP:bP w A ps)(hO:bP w B C)(Ap:∀t∈ps,ag t=0)(g:∀t∈C,ag t=0)(hl:ps.length<=20)(Al:C.length<=20):
  Cb 18 #[.slice A ps.length c,.slice B C.length c'] w (cV ps C:Nat):=by
 unfold Cb;have HP:=aa hP;have HO:=aa hO;have P:=aa Ap;have Z:=aa g
 have Ac:Hid (0+gS (C.map aT++(ps.map aT).take 0) ((ps.map aT).drop 0)=cV ps C):=by
  show _=_;simp[cV]
 have R:Hid (∀(t:List Td)(W:World)(a:Option Addr)(cp:Nat),ag t=0->aG W a t->Below w w W->Cp 37 #[.slice a t.length cp,.int .i64 0] W λe a=>e=.returned (.string (ab (aT t)))/\Below w w a):=λt W a cp h0 hT hb=>by
  have o:gd t a cp 0 (aT t) W:=LG h0 W hT;exact o.mono λ_ _ hh=>⟨hh.1,hb.trans (hh.2.mono hb.size)⟩
 generalize Ao:ps.length=np at hl⊢;have Ab:=aa Ao;generalize An:C.length=no at Al⊢;have Aa:=aa An;go_in;go_wp2_with fail
 go_loopw [5,6] (λq x wr=>∃i k:Nat,q=(k:Int)/\x=(i:Int)/\i<=np/\k+gS (C.map aT++(ps.map aT).take i) ((ps.map aT).drop i)=cV ps C/\Below w w wr) (λ_ x _=>np-(intOf x).toNat)
 case atStart=>exact⟨0,0,rfl,rfl,Nat.zero_le _,Ac.o,Below.refl _ _⟩
 case round=>
  obtain⟨i,k,rfl,rfl,At,b,L⟩:=hrel;have Au:=Ab.o;have s:=aa L;have O:=(show Hid (_=_)from b);by_cases Av:i<np
  .have Ai:(i:Int)<(np:Int):=by omega
   have f:i<ps.length:=by omega
   obtain⟨b0,o0,A0,c0,rfl,Af,Ad,_,Ae⟩:=HP.o i f;have d0:=((a9 L).1 _ _ Af).trans Ad;have Q:=aa (P.o ps[i] (À _));have H:=aa (R.o _ wr A0 c0 Q.o (Ae.W L) L)
   have Ar:k<=20:=by
    have o:=O.o;have h2:=ru ps C;omega
   go_wp2_with fail;refine ai H.o λw2 hb2=>?_
   have r:=aa hb2;go_wp2_with fail
   go_loopw [8,9] (λv y a=>∃(M:Bool)(j:Nat),v=.bool M/\y=(j:Int)/\j<=i/\(M=true↔ps[i]∈ps.take j)/\Below w w a) (λ_ y _=>i-(intOf y).toNat)
   case atStart=>exact⟨false,0,rfl,rfl,Nat.zero_le _,by simp,r.o⟩
   case round=>
    obtain⟨M,j,rfl,rfl,hj,I,E⟩:=hrel;have J:=aa E;by_cases As:j<i
    .have Ak:(j:Int)<(i:Int):=by omega
     have X:j<ps.length:=by omega
     have G:=aa I;cases M with
     | true=>
      have D:Hid (true=true↔ps[i]∈ps.take (j+1)):=⟨λ_=>(sp X).2 (.inl (G.o.1 rfl)),λ_=>rfl⟩;go_wp2;refine⟨⟨true,j+1,rfl,by go_num,by omega,D.o,J.o⟩,?_⟩;simp[intOf];omega
     | false=>
      obtain⟨b1,o1,p,c1,e1,V,S,_,U⟩:=HP.o j X;simp only[Option.some.injEq,Addr.mk.injEq,and_true]at e1;obtain⟨rfl,rfl⟩:=e1;have d1:=((a9 E).1 _ _ V).trans S;have K:=P.o ps[j] (À _);have H:=aa (R.o _ wr p c1 K (U.W E) E)
      have D:Hid ((((ab (aT ps[j])).toList==(ab (aT ps[i])).toList)=true)↔ps[i]∈ps.take (j+1)):=by
       have n:ps[i]∉ps.take j:=λq=>by have:=G.o.2 q;cases this
       rw[show Hid _↔_ from⟨λh=>h.o,λh=>h⟩,EH K Q.o,sp X];exact⟨λh=>.inr h,λh=>h.elim (λq=>absurd q n) id⟩
      generalize ab (aT ps[j])=S1 at H D;go_wp2_with fail;refine ai H.o λw3 hb3=>?_
      have N:=aa hb3;go_wp2;refine⟨⟨_,j+1,rfl,by go_num,by omega,D.o,N.o⟩,?_⟩;simp[intOf];omega
    .have Ak:¬(j:Int)<(i:Int):=by omega
     have Aj:j=i:=by omega
     subst Aj;have G:=aa I;go_wp2_with fail
     go_loopw [8,10] (λv y a=>∃(M:Bool)(m:Nat),v=.bool M/\y=(m:Int)/\m<=no/\(M=true↔ps[j]∈C.take m\/ps[j]∈ps.take j)/\Below w w a) (λ_ y _=>no-(intOf y).toNat)
     case atStart=>exact⟨M,0,rfl,rfl,Nat.zero_le _,by rw[G.o];simp,J.o⟩
     case round=>
      obtain⟨l,m,rfl,rfl,hm,I,E⟩:=hrel;have g:=Aa.o;have J:=aa E;by_cases Aw:m<no
      .have Am:(m:Int)<(no:Int):=by omega
       have Y:m<C.length:=by omega
       have G:=aa I;obtain⟨b1,o1,p,c1,rfl,V,S,_,U⟩:=HO.o m Y;cases l with
       | true=>
        have D:Hid (true=true↔ps[j]∈C.take (m+1)\/ps[j]∈ps.take j):=⟨λ_=>(G.o.1 rfl).imp (λq=>(sp Y).2 (.inl q)) id,λ_=>rfl⟩;go_wp2;refine⟨⟨true,m+1,rfl,by go_num,by omega,D.o,J.o⟩,?_⟩;simp[intOf];omega
       | false=>
        have d1:=((a9 E).1 _ _ V).trans S;have K:=Z.o C[m] (À _);have H:=aa (R.o _ wr p c1 K (U.W E) E)
        have D:Hid ((((ab (aT C[m])).toList==(ab (aT ps[j])).toList)=true)↔ps[j]∈C.take (m+1)\/ps[j]∈ps.take j):=by
         have n:¬(ps[j]∈C.take m\/ps[j]∈ps.take j):=λq=>by have:=G.o.2 q;cases this
         rw[show Hid _↔_ from⟨λh=>h.o,λh=>h⟩,EH K Q.o,sp Y];exact⟨λh=>.inl (.inr h),λh=>h.elim (λq=>q.elim (λq=>absurd (.inl q) n) id) (λq=>absurd (.inr q) n)⟩
        generalize ab (aT C[m])=S1 at H D;go_wp2_with fail;refine ai H.o λw3 hb3=>?_
        have N:=aa hb3;go_wp2;refine⟨⟨_,m+1,rfl,by go_num,by omega,D.o,N.o⟩,?_⟩;simp[intOf];omega
      .have Am:¬(m:Int)<(no:Int):=by omega
       have Aq:C.take m=C:=List.take_of_length_le (by omega);rw[Aq]at I;obtain⟨Ag,Ah⟩:=rP f P.o Z.o O.o;cases l with
       | true=>
        have z:=(show Hid (_=_)from Ag (I.1 rfl));go_wp2;refine⟨⟨j+1,k,rfl,by go_num,by omega,z.o,J.o⟩,?_⟩;simp[intOf];omega
       | false=>
        have z:=(show Hid (_=_)from Ah (λq=>by have:=I.2 q;cases this));go_wp2;refine⟨⟨j+1,k+1,by go_num,by go_num,by omega,z.o,J.o⟩,?_⟩;simp[intOf];omega
  .have Ai:¬(i:Int)<(np:Int):=by omega
   have d:k=cV ps C:=by
    have o:=O.o;rw[List.drop_eq_nil_of_le (by simp;omega),gS]at o;omega
   have u:=aa d;go_wp2;go_ret;exact⟨by rw[<-u.o];rfl,s.o⟩
