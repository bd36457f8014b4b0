/- Texts as one: TreS, SyR, AppT, SyS, SyT, SyU, SyV, SyX, SyN, PgO, PgL. -/
import Derived.Test.YthjapabokcajhaaGreatDoorPf32
import Derived.Test.YthjapabokcajhaaGreatDoorPf09
import Derived.Test.YthjapabokcajhaaGreatDoorPf39
import Derived.Test.YthjapabokcajhaaGreatDoorPf36
import Derived.Test.YthjapabokcajhaaGreatDoorPf06
import Derived.Test.YthjapabokcajhaaGreatDoorShg
import Derived.BigRegion
import Derived.Laws.Strings2
import Derived.Test.YthjapabokcajhaaGreatDoorPf05
import Derived.Test.YthjapabokcajhaaGreatDoorPf10
import Derived.OwnWalk
import Derived.Lib.AppendZerosOnto
import Derived.Lib.SliceRun
import Derived.Lib.Atoi
import Derived.Lib.AtoiErrMem
import Derived.Test.YthjapabokcajhaaGreatDoorShf
import Derived.Test.YthjapabokcajhaaGreatDoorPf07
import Derived.Test.YthjapabokcajhaaGreatDoorPf11
namespace Go.Proofs.YthjapabokcajhaaGreatDoor
open Go Go.RowKit
set_option maxRecDepth 100000
set_option maxHeartbeats 4000000
theorem q2i(s:ByteArray)(w:World):Calls Tryz.prog 23 #[.string s] w fun e w'=>e=.returned (.bool (q0r s))/\w=w':=by
 by_cases h1:(s.size:Int)<1
 ·have HE:Hid (q0r s=false):=q9p (by omega);go_in;go_wp2;go_ret;exact⟨by rw[HE.out];rfl,rfl⟩
 by_cases h2:8<(s.size:Int)
 ·have HE:Hid (q0r s=false):=z1f (by omega);go_in;go_wp2;go_ret;exact⟨by rw[HE.out];rfl,rfl⟩
 by_cases h3:s=⟨#[108,101,116]⟩
 ·subst h3;go_in;go_wp2;go_ret;exact⟨by rfl,rfl⟩
 have HL:Hid (¬s=⟨#[108,101,116]⟩):=h3
 have hnb:¬s.toList=[108,101,116]:=by
  rw[ByteArray.toList_eq];intro e;exact h3 (k4n.1 e)
 have hnb2:(s.toList==[108,101,116])=false:=beq_false_of_ne hnb;have hnb3:(⟨#[108,101,116]⟩:ByteArray).toList=[108,101,116]:=by rw[ByteArray.toList_eq]
 clear h3;go_in;go_wp2
 go_loopw [3] (fun i wr=>wr=w/\∃k:Nat,k<=s.size/\i=.int .i64 k/\∀j(h:j<s.size),j<k->q7n s[j]=true) (fun i _=>s.size-(intOf i).toNat)
 case atStart=>exact⟨rfl,0,Nat.zero_le _,rfl,fun j _ hj=>by omega⟩
 case round=>
  obtain⟨rfl,k,hk,rfl,hall⟩:=hrel;have HA:Hid (∀j(h:j<s.size),j<k->q7n s[j]=true):=hall;clear hall;by_cases hlt:k<s.size
  ·cases hb:q7n s[k]with
   | false=>
    have HE:Hid (q0r s=false):=z4v hlt hb;have HB:Hid (q7n s[k]=false):=hb;clear hb;go_wp2_with(go_at_call 53;refine(z1j _ _).mono ?_;rintro e w2⟨rfl,rfl⟩;rw[HB.out]);go_ret;exact⟨by rw[HE.out];rfl,rfl⟩
   | true=>
    have HB:Hid (q7n s[k]=true):=hb
    have HA':Hid (∀j(h:j<s.size),j<k+1->q7n s[j]=true):=fun j h hj=>by
     by_cases hjk:j=k
     ·subst hjk;exact hb
     ·exact HA.out j h (by omega)
    clear hb;go_wp2_with(go_at_call 53;refine(z1j _ _).mono ?_;rintro e w2⟨rfl,rfl⟩;rw[HB.out])
    go_roundw
    case rel=>exact⟨by trivial,k+1,by omega,by go_num,HA'.out⟩
    case measure=>simp[intOf];omega
  ·have HE:Hid (q0r s=true):=z4u (by omega) (by omega) HL.out fun j h=>HA.out j h (by omega)
   go_wp2;go_ret;exact⟨by rw[HE.out];rfl,rfl⟩
theorem k7s(s:ByteArray)(i e:Nat)(h1:i<=e)(h2:e<=s.size)(W:World):(Instr.slice 9 (.string s) (some (.int .i64 (i:Int))) (some (.int .i64 ((e:Nat):Int))) none).run Tryz.prog W=.ok (.string (wbS (((btL s).drop i).take (e-i)))) W:=by
 have h:=run_slice_string (P:=Tryz.prog) (w:=W) 9 s .i64 .i64 (i:Int) (e:Int) Tryz.underlying9 (by omega) (by omega) (by omega);rw[Int.toNat_natCast,Int.toNat_natCast,z7j]at h;exact h
structure v1g(s:ByteArray)(w:World)(fr i:Nat)(dn:List (List UInt8))(A:Option Addr)(c:Nat)(wr:World):Prop where
 b:Below w.heap.size w wr
 le:fr<=i
 li:i<=s.size
 ln:dn.length<=fr
 no:∀j(h:j<s.size),fr<=j->j<i->s[j]≠32
 eq:q3w (btL s)=dn++q3w ((btL s).drop fr)
 ro:wr.ownsRow w.heap.size 9 1 (.slice A dn.length c) dn.length (strCells (dn.map wbS))
theorem z8t{s:ByteArray}{fr i:Nat}(h:fr<=i)(hi:i<=s.size)(no:∀j(h:j<s.size),fr<=j->j<i->s[j]≠32):∀b∈((btL s).drop fr).take (i-fr),b≠32:=by
 intro b hb;obtain⟨j,hj,rfl⟩:=List.getElem_of_mem hb;rw[List.length_take,List.length_drop,q0h]at hj;rw[List.getElem_take,List.getElem_drop];exact no (fr+j) (by omega) (by omega) (by omega)
theorem j0w{s:ByteArray}{fr i:Nat}(h:fr<=i)(hi:i<s.size):(btL s).drop fr=((btL s).drop fr).take (i-fr)++s[i]::(btL s).drop (i+1):=by
 have h1:=(List.take_append_drop (i-fr) ((btL s).drop fr)).symm;rw[List.drop_drop,show fr+(i-fr)=i by omega,z2a hi]at h1;exact h1
theorem k6e{s:ByteArray}{fr:Nat}:((btL s).drop fr).take (s.size-fr)=(btL s).drop fr:=by
 rw[List.take_of_length_le (by rw[List.length_drop,q0h];exact Nat.le_refl _)]
theorem q5t(s:ByteArray)(w:World)(hsz:s.size<=1000000000000):Calls Tryz.prog 22 #[.string s] w fun e w'=>(∃A c,e=.returned (.slice A (q0f (btL s)).length c)/\q6l w.heap.size (.slice A (q0f (btL s)).length c) ((q0f (btL s)).map wbS) w')/\Below w.heap.size w w':=by
 by_cases h0:s.size=0
 ·have HE:Hid (q0f (btL s)=[]):=by
   show q0f (btL s)=[];rw[q0f,if_pos (List.eq_nil_of_length_eq_zero (by rw[q0h];exact h0))]
  have h0i:((s.size:Int)==0)=true:=beq_iff_eq.2 (by omega);clear h0;go_in;go_wp2;go_ret;rw[HE.out];exact⟨⟨none,0,rfl,World.ownsRow_nil _ _ _ _⟩,Below.refl _ _⟩
 ·have HE:Hid (q0f (btL s)=q3w (btL s)):=by
   show q0f (btL s)=_;rw[q0f,if_neg];intro e
   have:=congrArg List.length e
   rw[q0h,List.length_nil]at this;exact h0 this
  have h0i:((s.size:Int)==0)=false:=beq_false_of_ne (by omega);clear h0;obtain⟨i0,hi0,hz0,hz1,hz2⟩:=info_parts z9i;go_in;go_wp2
  go_loopw [3,4,5] (fun x f i wr=>∃(fr k:Nat)(dn:List (List UInt8))(A:Option Addr)(c:Nat),x=.slice A dn.length c/\f=.int .i64 (fr:Int)/\i=.int .i64 (k:Int)/\v1g s w fr k dn A c wr) (fun _ _ i _=>s.size-(intOf i).toNat)
  case atStart=>exact⟨0,0,[],none,0,rfl,rfl,rfl,{b:=Below.refl _ _,le:=Nat.le_refl _,li:=Nat.zero_le _,ln:=Nat.le_refl _,no:=fun j _ _ h=>by omega,eq:=rfl,ro:=World.ownsRow_nil _ _ _ _}⟩
  case round=>
   obtain⟨fr,k,dn,A,c,rfl,rfl,rfl,hR⟩:=hrel;have HR:Hid (v1g s w fr k dn A c wr):=hR;have hle:=hR.le;have hli:=hR.li;have hln:=hR.ln;have hsr:=hR.b.size;clear hR;by_cases hlt:k<s.size
   ·have hki:(k:Int)<(s.size:Int):=by omega
    cases hb:(s[k]==32)with
    | true=>
     have hbi:((s[k].toNat:Int)==32)=true:=by rw[show(32:Int)=((32:Nat):Int)from rfl,v0n _ 32 (by decide)];exact hb
     have hsl:=k7s s fr k hle hli
     have HEQ:Hid (q3w (btL s)=(dn++[((btL s).drop fr).take (k-fr)])++q3w ((btL s).drop (k+1))):=by
      show _=_;have h1:=j0w hle hlt;rw[beq_iff_eq.1 hb]at h1;rw[HR.out.eq,List.append_assoc]
      congr 1
      conv=>lhs;rw[h1]
      rw[z9f _ _ (z8t hle hli HR.out.no)];rfl
     generalize((btL s).drop fr).take (k-fr)=W at hsl HEQ
     clear hb;go_wp2_with(at_builtin;refine wpList_append_lies _ rfl _ _ 58 rfl w.heap.size 9 i0 _ 1 16 Tryz.underlying58 hi0 hz0 hz1 hz2 rfl (by decide) _ _ _ rfl (World.ownsRow.alloc HR.out.ro _) ⟨wr.heap.size,0,none⟩ 1 1 [.string (wbS W)] rfl rfl (cell_one_new wr _ _) (by intro u hu;simp at hu;subst hu;rfl) (by decide) (by unfold maxLen;omega) (by omega) (by simp;omega) (wr.heap.size+1) (by simp) ?_);intro g2 cap2 w2 hown2 hgrow2 hat2 hlt2
     have HN:Hid (v1g s w (k+1) (k+1) (dn++[W]) (some ⟨g2,0,none⟩) cap2 w2):=by
      refine{b:=(HR.out.b.alloc hsr (.cells #[.string (wbS W)] 9)).grown hgrow2 (by simp;omega) (fun j hj=>(World.ownsRow.lt HR.out.ro j hj).1),le:=Nat.le_refl _,li:=hlt,ln:=by simp;omega,no:=fun j _ _ h=>by omega,eq:=HEQ.out,ro:=?_};rw[List.length_append,List.map_append,q5b];exact hown2
     clear hown2 hgrow2 hat2 hlt2;go_wp2
     go_roundw
     case rel=>exact⟨k+1,k+1,dn++[W],some ⟨g2,0,none⟩,cap2,by rw[List.length_append];rfl,by go_num,by go_num,HN.out⟩
     case measure=>simp[intOf];omega
    | false=>
     have hbi:((s[k].toNat:Int)==32)=false:=by rw[show(32:Int)=((32:Nat):Int)from rfl,v0n _ 32 (by decide)];exact hb
     have HN:Hid (v1g s w fr (k+1) dn A c wr):=by
      refine{b:=HR.out.b,le:=by omega,li:=hlt,ln:=hln,no:=fun j h h1 h2=>?_,eq:=HR.out.eq,ro:=HR.out.ro};by_cases hjk:j=k
      ·subst hjk;simpa using hb
      ·exact HR.out.no j h h1 (by omega)
     clear hb;go_wp2
     go_roundw
     case rel=>exact⟨fr,k+1,dn,A,c,rfl,rfl,by go_num,HN.out⟩
     case measure=>simp[intOf];omega
   ·obtain rfl:k=s.size:=by omega
    have hki:¬(s.size:Int)<(s.size:Int):=by omega
    have hsl:∀W:World,(Instr.slice 9 (.string s) (some (.int .i64 (fr:Int))) none none).run Tryz.prog W=.ok (.string (wbS ((btL s).drop fr))) W:=fun W=>by
     have h:=run_slice_string_l (P:=Tryz.prog) W 9 s Tryz.underlying9 .i64 (fr:Int) (by omega) (by omega);rw[Int.toNat_natCast,z7j,k6e]at h;exact h
    have HEQ:Hid (q0f (btL s)=dn++[(btL s).drop fr]):=by
     show _=_;rw[HE.out,HR.out.eq,z9g];have h1:=z8t hle hli HR.out.no;rw[k6e]at h1;exact h1
    generalize(btL s).drop fr=W at hsl HEQ
    go_wp2_with(at_builtin;refine wpList_append_lies _ rfl _ _ 58 rfl w.heap.size 9 i0 _ 1 16 Tryz.underlying58 hi0 hz0 hz1 hz2 rfl (by decide) _ _ _ rfl (World.ownsRow.alloc HR.out.ro _) ⟨wr.heap.size,0,none⟩ 1 1 [.string (wbS W)] rfl rfl (cell_one_new wr _ _) (by intro u hu;simp at hu;subst hu;rfl) (by decide) (by unfold maxLen;omega) (by omega) (by simp;omega) (wr.heap.size+1) (by simp) ?_);intro g2 cap2 w2 hown2 hgrow2 hat2 hlt2;have hb2:=(HR.out.b.alloc hsr (.cells #[.string (wbS W)] 9)).grown hgrow2 (by simp;omega) (fun j hj=>(World.ownsRow.lt HR.out.ro j hj).1)
    have hO:q6l w.heap.size (.slice (some ⟨g2,0,none⟩) (dn.length+1) cap2) ((dn++[W]).map wbS) w2:=by
     show w2.ownsRow _ _ _ _ _ _;rw[List.length_map,List.length_append,List.map_append,q5b];exact hown2
    have HO:=(show Hid (_)from hO);have HB2:=(show Hid (_)from hb2);clear hown2 hgrow2 hat2 hlt2 hO hb2;go_wp2;go_ret;rw[HEQ.out,List.length_append];exact⟨⟨some ⟨g2,0,none⟩,cap2,rfl,HO.out⟩,HB2.out⟩
end Go.Proofs.YthjapabokcajhaaGreatDoor
namespace Go.Proofs.YthjapabokcajhaaGreatDoor
open Go Go.RowKit
theorem k7g{B:Nat}{w:World}{A:Option Addr}{n c:Nat}{xs:List ByteArray}(h:q6l B (.slice A n c) xs w):n=xs.length/\n<=c/\((A=none/\n=0/\c=0)\/∃g,A=some ⟨g,0,none⟩/\g<w.heap.size):=by
 rcases h.2 with⟨hv,h0⟩|⟨g,c',cur,hv,_,hg,hnc,_⟩
 ·simp only[Value.slice.injEq]at hv;obtain⟨rfl,rfl,rfl⟩:=hv;exact⟨h0.symm,Nat.le_refl _,.inl ⟨rfl,rfl,rfl⟩⟩
 ·simp only[Value.slice.injEq]at hv;obtain⟨rfl,rfl,rfl⟩:=hv;exact⟨rfl,hnc,.inr ⟨g,rfl,(Array.getElem?_eq_some_iff.1 hg).1⟩⟩
end Go.Proofs.YthjapabokcajhaaGreatDoor
namespace Go.Proofs.YthjapabokcajhaaGreatDoor
open Go Go.RowKit
set_option maxRecDepth 100000
theorem k6w(wd:Int)(w:World):Calls Tryz.prog 6 #[.int .i64 wd] w fun e w'=>e=.returned (.bool (decide (¬(wd<10\/100<wd))))/\w=w':=by
 by_cases h1:wd<10
 ·rw[show decide (¬(wd<10\/100<wd))=false by simp;omega];have h2:¬10<=wd:=by omega
  go_in;go_wp2;go_ret;exact⟨rfl,rfl⟩
 ·have h2:10<=wd:=by omega
  by_cases h3:wd<=100
  ·rw[show decide (¬(wd<10\/100<wd))=true by simp;omega];go_in;go_wp2;go_ret;exact⟨rfl,rfl⟩
  ·rw[show decide (¬(wd<10\/100<wd))=false by simp;omega];go_in;go_wp2;go_ret;exact⟨rfl,rfl⟩
end Go.Proofs.YthjapabokcajhaaGreatDoor
namespace Go.Proofs.YthjapabokcajhaaGreatDoor
open Go Go.RowKit
set_option maxRecDepth 100000
set_option maxHeartbeats 4000000
theorem j5o{ps:List (List Td)}{i:Nat}(h:i<ps.length):ps.drop i=ps[i]::ps.drop (i+1):=List.drop_eq_getElem_cons h
structure v1f(ps:List (List Td))(w:World)(i:Nat)(wr:World):Prop where
 le:i<=ps.length
 z:fmE (ps.drop i)=fmE ps
 b:Below w.heap.size w wr
theorem z6m{ps:List (List Td)}(hall:∀t∈ps,q0b t=0)(hlen:ps.length<=1000000)(wd:Int)(a:Option Addr)(cap:Nat)(w:World)(hP:Prg w a ps):
  Calls Tryz.prog 15 #[.slice a ps.length cap,.int .i64 wd] w fun e w'=>e=.returned (.bool (decide (fmE ps=0/\¬(wd<10\/100<wd))))/\Below w.heap.size w w':=by
 have HP:Hid (Prg w a ps):=hP;have HA:Hid (∀t∈ps,q0b t=0):=hall;have HW:Hid (Calls Tryz.prog 6 #[.int .i64 wd] w fun e w'=>e=.returned (.bool (decide (¬(wd<10\/100<wd))))/\w=w'):=k6w wd w;have HE1:Hid (fmE ps≠0->decide (fmE ps=0/\¬(wd<10\/100<wd))=false):=fun h=>by simp[h]
 have HE2:Hid (fmE ps=0->decide (fmE ps=0/\¬(wd<10\/100<wd))=decide (¬(wd<10\/100<wd))):=fun h=>by simp[h]
 generalize decide (fmE ps=0/\¬(wd<10\/100<wd))=R at HE1 HE2⊢;generalize decide (¬(wd<10\/100<wd))=B at HW HE2;clear hP hall;generalize hn:ps.length=n at hlen⊢;have HN:Hid (ps.length=n):=hn;clear hn;have HS0:Hid (v1f ps w 0 w):=⟨Nat.zero_le _,rfl,Below.refl _ _⟩;go_in;go_wp2_with fail;refine HW.out.mono ?_;rintro e w1⟨rfl,rfl⟩;go_wp2_with fail
 go_loopw [6] (fun x wr=>∃i:Nat,x=.int .i64 (i:Int)/\v1f ps w i wr) (fun x _=>n-(intOf x).toNat)
 case atStart=>exact⟨0,rfl,HS0.out⟩
 case round=>
  obtain⟨i,rfl,hL⟩:=hrel;have hll:=HN.out;have hle:=hL.le;by_cases hlt:i<n
  ·have hii:(i:Int)<(n:Int):=by omega
   have hip:i<ps.length:=by omega
   obtain⟨b0,o0,A0,c0,rfl,hb0,d0,hc0,hT0⟩:=(HP.out.below hL.b) i hip;have ht0:=HA.out ps[i] (List.getElem_mem _);obtain⟨hpos,b2,o2,rfl,hb2,c1,_⟩:=z3b ht0 hT0;have hpi:(0:Int)<(ps[i].length:Int):=by omega
   have hdr:=j5o hip;have hz0:=hL.z;rw[hdr]at hz0;have HZ:=(show Hid (_=_)from hz0);have HB:Hid (Below w.heap.size w wr):=hL.b;by_cases h9:opT ps[i]=9
   ·rw[h9]at c1;have HX:Hid (v1f ps w (i+1) wr):=⟨by omega,(by have:=HZ.out;rw[z8d (z3c h9)]at this;exact this),HB.out⟩;clear hL hdr hz0 ht0 hT0 h9 HZ hc0;generalize ps[i].length=tn at d0 hpi hpos;go_wp2;refine⟨⟨i+1,by go_num,HX.out⟩,?_⟩;simp[intOf];omega
   ·have h9b:(opT ps[i]==9)=false:=by simp[h9]
    have h9c:(opT ps[i] != 9)=true:=by simp[h9]
    have HD:Hid (Calls Tryz.prog 26 #[.slice (some ⟨b2,o2,none⟩) ps[i].length c0,.int .i64 0] wr fun e w'=>NdR wr (q0i ps[i]).nodes e w'):=v0h ht0 h9 wr hT0;have hn9:=(q5q ht0 h9).n;by_cases hm:400<(q0i ps[i]).nodes.length
    ·have e3:pgE ps[i]≠0:=by rw[pgE,if_neg h9,if_pos hm];decide
     have HR:Hid (R=false):=HE1.out (by have:=HZ.out;rw[k3u e3]at this;rw[<-this];exact e3);clear hL hdr hz0 ht0 hT0 h9 HZ hc0 e3
     generalize(q0i ps[i]).nodes=xs at HD hm hn9
     generalize opT ps[i]=op0 at c1 h9b h9c;generalize ps[i].length=tn at d0 hpi hpos HD;have hmi:(400:Int)<(xs.length:Int):=by omega
     go_wp2_with fail;refine HD.out.mono ?_;rintro e w3⟨A3,k3,rfl,_,b3⟩;have HB3:Hid (Below w.heap.size w w3):=q0g HB.out (Nat.le_refl _) b3;clear b3;go_wp2;go_ret;exact⟨by rw[HR.out];rfl,HB3.out⟩
    ·have e0:pgE ps[i]=0:=by rw[pgE,if_neg h9,if_neg hm]
     have HZ2:Hid (fmE (ps.drop (i+1))=fmE ps):=(show _=_ by have:=HZ.out;rw[z8d e0]at this;exact this);clear hL hdr hz0 ht0 hT0 h9 HZ hc0 e0
     generalize(q0i ps[i]).nodes=xs at HD hm hn9
     generalize opT ps[i]=op0 at c1 h9b h9c;generalize ps[i].length=tn at d0 hpi hpos HD;have hmi:¬(400:Int)<(xs.length:Int):=by omega
     go_wp2_with fail;refine HD.out.mono ?_;rintro e w3⟨A3,k3,rfl,_,b3⟩;have HX:Hid (v1f ps w (i+1) w3):=⟨by omega,HZ2.out,q0g HB.out (Nat.le_refl _) b3⟩;clear b3;go_wp2;refine⟨⟨i+1,by go_num,HX.out⟩,?_⟩;simp[intOf];omega
  ·have hii:¬(i:Int)<(n:Int):=by omega
   have hid:ps.drop i=[]:=List.drop_eq_nil_of_le (by omega);have h1:=hL.z;rw[hid]at h1;have HR:Hid (R=B):=HE2.out h1.symm;have HB:Hid (Below w.heap.size w wr):=hL.b;clear hL hid h1;go_wp2;go_ret;exact⟨by rw[HR.out];rfl,HB.out⟩
end Go.Proofs.YthjapabokcajhaaGreatDoor
