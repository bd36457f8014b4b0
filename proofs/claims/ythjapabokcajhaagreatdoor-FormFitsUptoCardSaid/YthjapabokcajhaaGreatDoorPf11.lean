/- Texts as one: TreZ, PgC, FilG. -/
import Derived.Test.YthjapabokcajhaaGreatDoorPf10
import Derived.Test.YthjapabokcajhaaGreatDoorPf07
import Derived.Test.YthjapabokcajhaaGreatDoorPf09
namespace Go.Proofs.YthjapabokcajhaaGreatDoor
open Go Go.RowKit
set_option maxRecDepth 100000
set_option maxHeartbeats 4000000
def k1o(ds:List Td):Prop:=∀x∈ds,x.tx.size<=140737488351232
theorem j4g.nine{ds:List Td}(h:j4g ds):k1o ds:=fun x hx=>Nat.le_trans (h x hx) (by decide)
theorem k7l(x:Td)(w:World):Calls Tryz.prog 154 #[tdV x] w fun e w'=>e=.returned (.int .i64 (kdZ x))/\Below w.heap.size w w':=by
 obtain⟨op,tx,n⟩:=x;have hb:∀O:Obj,Below w.heap.size w (w.alloc O):=fun O=>(Below.refl _ w).alloc (Nat.le_refl _) O
 by_cases h3:op=3
 ·subst h3;go_in;go_wp2;go_ret;exact⟨by simp[kdZ],hb _⟩
 by_cases h4:op=4
 ·subst h4;go_in;go_wp2;go_ret;exact⟨by simp[kdZ],hb _⟩
 by_cases h5:op=5
 ·subst h5;go_in;go_wp2;go_ret;exact⟨by simp[kdZ,kdT],hb _⟩
 by_cases h6:op=6
 ·subst h6;go_in;go_wp2;go_ret;exact⟨by simp[kdZ,kdT],hb _⟩
 by_cases h7:op=7
 ·subst h7;go_in;go_wp2;go_ret;exact⟨by simp[kdZ,kdT],hb _⟩
 by_cases h8:op=8
 ·subst h8;go_in;go_wp2;go_ret;exact⟨by simp[kdZ,kdT],hb _⟩
 have HE:Hid (kdZ ⟨op,tx,n⟩=0):=by show kdZ ⟨op,tx,n⟩=0;simp[kdZ,kdT,h3,h4,h5,h6,h7,h8]
 have g3:(op==3)=false:=by simp[h3]
 have g4:(op==4)=false:=by simp[h4]
 have g5:(op==5)=false:=by simp[h5]
 have g6:(op==6)=false:=by simp[h6]
 have g7:(op==7)=false:=by simp[h7]
 have g8:(op==8)=false:=by simp[h8]
 clear h3 h4 h5 h6 h7 h8;go_in;go_wp2;go_ret;exact⟨by rw[HE.out];rfl,hb _⟩
theorem j1q(x:Td)(h:q0l x=0)(w:World):Calls Tryz.prog 154 #[.agg #[.int .i64 x.op,.string x.tx,.int .i64 x.n]] w fun e w'=>e=.returned (.int .i64 (kdT x:Int))/\Below w.heap.size w w':=by
 have:=k7l x w
 rw[j3a h]at this;exact this
def j4e(o:Option Nat)(j:Nat)(b:Bool):Prop:=o=if b=true then some j else none
def j2k(ds:List Td)(i:Nat)(e:Ending):Prop:=∃(j:Nat)(b:Bool),e=.returned (.tuple #[.int .i64 (j:Int),.bool b])/\j4e (q2h ds i 1) j b
theorem j4e.yes{o:Option Nat}{j:Nat}(h:o=some j):j4e o j true:=h
theorem j4e.no{o:Option Nat}{j:Nat}(h:o=none):j4e o j false:=h
theorem k1h(ds:List Td)(a:Option Addr)(cap:Nat)(hl:ds.length<=40)(hk:∀x∈ds,q0l x=0)(i:Nat)(hi:i<=ds.length)(w:World)(hN:Tds w a ds):
  Calls Tryz.prog 102 #[.slice a ds.length cap,.int .i64 i] w fun e w'=>j2k ds i e/\Below w.heap.size w w':=by
 have HN:Hid (Tds w a ds):=hN;have HK:Hid (∀x∈ds,q0l x=0):=hk;clear hN hk;go_in;go_wp2
 go_loopw [1,6] (fun z m wr=>Below w.heap.size w wr/\∃k q:Nat,k<=ds.length/\q<=1+6*k/\z=.int .i64 (k:Int)/\m=.int .i64 (q:Int)/\q2h ds i 1=q2h ds k q) (fun z _ _=>ds.length-(intOf z).toNat)
 case atStart=>exact⟨Below.refl _ _,i,1,hi,by omega,rfl,rfl,rfl⟩
 case round=>
  obtain⟨hbr,k,q,hk1,hq,rfl,rfl,he⟩:=hrel;have HE:Hid (q2h ds i 1=q2h ds k q):=he;have HBR:Hid (Below w.heap.size w wr):=hbr;clear he hbr;by_cases h0:q=0
  ·subst h0
   have HZ:Hid (q2h ds i 1=some k):=by
    show _=_;rw[HE.out,z3x]
   go_wp2;go_ret2;exact⟨⟨k,true,rfl,j4e.yes HZ.out⟩,HBR.out⟩
  ·obtain⟨p,rfl⟩:∃p,q=p+1:=⟨q-1,by omega⟩;have hpc:((p+1:Nat):Int)=(p:Int)+1:=by omega
   have hpi:(0:Int)<(p:Int)+1:=by omega
   have hpe:((p:Int)+1==0)=false:=beq_false_of_ne (by omega);by_cases hlt:k<ds.length
   ·have hki:(k:Int)<(ds.length:Int):=by omega
    obtain⟨b,o,ea,hb,c1,c2,c3⟩:=(HN.out.below HBR.out) k hlt;subst ea;have hkd:=j2z (HK.out _ (List.getElem_mem hlt));have HM:Hid (∀W:World,Calls Tryz.prog 154 #[.agg #[.int .i64 ds[k].op,.string ds[k].tx,.int .i64 ds[k].n]] W fun e w'=>e=.returned (.int .i64 (kdT ds[k]:Int))/\Below W.heap.size W w'):=fun W=>j1q _ (HK.out _ (List.getElem_mem hlt)) W
    have HS:Hid (q2h ds i 1=q2h ds (k+1) (kdT ds[k]+p)):=by
     show _=_;rw[HE.out,q9d ds k p hlt]
    generalize kdT ds[k]=d at hkd HM HS;generalize ds[k].op=xo at c1 HM;generalize ds[k].tx=xt at c2 HM;generalize ds[k].n=xn at c3 HM;rw[hpc];clear h0 hpe hpc;go_wp2_with fail;refine(HM.out _).mono ?_;rintro e w2⟨rfl,b2⟩;have HB2:Hid (Below w.heap.size w w2):=q0g HBR.out (Nat.le_refl _) b2;clear b2 c1 c2 c3;go_wp2
    go_roundw
    case rel=>exact⟨HB2.out,k+1,d+p,by omega,by omega,by go_num,by go_num,HS.out⟩
    case measure=>simp[intOf];omega
   ·have hki:¬(k:Int)<(ds.length:Int):=by omega
    have HZ:Hid (q2h ds i 1=none):=by
     show _=_;rw[HE.out,q5i ds k p (by omega)]
    rw[hpc];clear h0 hpc;go_wp2;go_ret2;exact⟨⟨k,false,rfl,j4e.no HZ.out⟩,HBR.out⟩
theorem j1u{w:World}{a:Option Addr}{c:Nat}{x:Td}{r:List Td}(h:Tds w a (x::r))(hc:r.length+1<=c):
  ∃A,(∀W:World,(Instr.slice 22 (.slice a (r.length+1) c) (some (.int .i64 1)) none none).run Tryz.prog W=.ok (.slice A r.length (c-1)) W)/\Tds w A r:=by
 obtain⟨b,o,rfl,hb,_,_,_⟩:=h 0 (by simp);refine⟨if c=1 then some ⟨b,o,none⟩else some ⟨b,o+3,none⟩,fun W=>?_,?_⟩
 ·have h1:=run_slice_l (P:=Tryz.prog) W 22 (some ⟨b,o,none⟩) (r.length+1) c Tryz.underlying22 .i64 1 (by omega) (by omega);rw[h1];have hz:(sizeOf (Tryz.prog.elem 22)).run Tryz.prog W=.ok 3 W:=by kernel_rfl
  rw[hz];have ha:(⟨b,o,none⟩:Addr).add 3=⟨b,o+3,none⟩:=rfl;simp[Result.andThen,sliced,ha]
 ·by_cases e:c=1
  ·have:r=[]:=List.eq_nil_of_length_eq_zero (by omega)
   subst this;exact fun i hi=>by simp at hi
  ·rw[if_neg e];intro i hi;obtain⟨b',o',e1,hb',d1,d2,d3⟩:=h (i+1) (by simp;omega);cases e1;rw[show o+(i+1)*3=o+3+i*3 by omega]at d1 d2 d3;exact⟨b,o+3,rfl,hb,d1,d2,d3⟩
theorem j9x{x:Td}(h:q0l x=0):1<=x.op/\x.op<=9:=by
 unfold q0l at h
 split at h
 ·cases h
 ·omega
def q4r(ds:List Td):Bool:=decide (q2h ds 0 1=some ds.length)&&z7h ds
theorem k7f:q4r []=false:=by
 have:q2h [] 0 1=none:=q5i _ _ _ (Nat.le_refl _)
 simp[q4r,this]
theorem k1j{ds:List Td}(hl:ds.length<=40)(ha:∀x∈ds,q0l x=0):q0b ds=if q4r ds=true then 0 else 2:=by
 rw[q7h hl ha];simp only[q4r,Bool.and_eq_true,decide_eq_true_eq]
theorem k7m(ds:List Td)(a:Option Addr)(cap:Nat)(hl:ds.length<=40)(hk:∀x∈ds,q0l x=0)(w:World)(hc:ds.length<=cap)(hN:Tds w a ds):
  Calls Tryz.prog 67 #[.slice a ds.length cap] w fun e w'=>e=.returned (.bool (q4r ds))/\Below w.heap.size w w':=by
 cases ds with
 | nil=>
  rw[k7f];clear hk hN hl hc;go_in;go_wp2;go_ret;exact⟨rfl,Below.refl _ _⟩
 | cons x r=>
  have HN:Hid (Tds w a (x::r)):=hN;have HK:Hid (∀y∈x::r,q0l y=0):=hk;obtain⟨b,o,ea,hb,c1,_,_⟩:=hN 0 (by simp);have hx:=j9x (hk x (by simp));have hlen:(x::r).length=r.length+1:=rfl;rw[hlen]at hl hc⊢;have hp:¬(r.length:Int)+1=0:=by omega
  have hpb:((r.length:Int)+1==0)=false:=beq_false_of_ne hp;have hp0:(0:Int)<(r.length:Int)+1:=by omega
  have c1':w.cell? ⟨b,o,none⟩=some (.int .i64 x.op):=by simpa using c1
  clear c1 hN;subst ea;by_cases h7:7<=x.op
  ·have HX:Hid (exB x.op=false):=by show exB x.op=false;simp[exB];omega
   obtain⟨A,hsl,hT⟩:=j1u HN.out hc;have HT:Hid (Tds w A r):=hT;clear hT;generalize hxo:x.op=xo at c1' HX;go_in;go_wp2_with fail;refine(q7g xo _).mono ?_;rintro e w2⟨rfl,rfl⟩;rw[HX.out];go_wp2_with fail
   go_loopw [20] (fun i wr=>Below w.heap.size w wr/\∃k:Nat,k<=r.length/\i=.int .i64 (k:Int)/\∀y∈r.take k,y.op<7) (fun i _=>r.length-(intOf i).toNat)
   case atStart=>exact⟨Below.refl _ _,0,Nat.zero_le _,rfl,by simp⟩
   case round=>
    obtain⟨hbr,k,hk1,rfl,hall⟩:=hrel;have HBR:Hid (Below w.heap.size w wr):=hbr;have HAL:Hid (∀O:Obj,Below w.heap.size w (wr.alloc O)):=fun O=>hbr.alloc hbr.size O
    clear hbr;have HA:Hid (∀y∈r.take k,y.op<7):=hall;clear hall hsl;by_cases hlt:k<r.length
    ·have hki:(k:Int)<(r.length:Int):=by omega
     obtain⟨b1,o1,e1,hb1,d1,d2,d3⟩:=(HT.out.below HBR.out) k hlt;subst e1;have hy:=j9x (HK.out r[k] (by simp));by_cases hyt:r[k].op<7
     ·have HY:Hid (exB r[k].op=true):=by show exB r[k].op=true;simp[exB];omega
      have HA2:Hid (∀y∈r.take (k+1),y.op<7):=by
       intro y hyy;rw[List.take_succ_eq_append_getElem hlt]at hyy;rcases List.mem_append.1 hyy with hyy|hyy
       ·exact HA.out y hyy
       ·simp at hyy;subst hyy;exact hyt
      clear hyt hy;generalize r[k].op=yo at d1 HY;generalize r[k].tx=yt at d2;generalize r[k].n=yn at d3;go_wp2_with fail;refine(q7g yo _).mono ?_;rintro e w2⟨rfl,rfl⟩;rw[HY.out];go_wp2
      go_roundw
      case rel=>exact⟨HAL.out _,k+1,by omega,by go_num,HA2.out⟩
      case measure=>simp[intOf];omega
     ·have HY:Hid (exB r[k].op=false):=by show exB r[k].op=false;simp[exB];omega
      have HF:Hid (q4r (x::r)=false):=by
       show _=_
       have:z7h (x::r)=false:=by
        simp only[z7h,Bool.and_eq_false_iff,List.all_eq_false];exact .inr ⟨r[k],List.getElem_mem hlt,by simp[hyt]⟩
       simp[q4r,this]
      clear hyt hy;generalize r[k].op=yo at d1 HY;generalize r[k].tx=yt at d2;generalize r[k].n=yn at d3;go_wp2_with fail;refine(q7g yo _).mono ?_;rintro e w2⟨rfl,rfl⟩;rw[HY.out];go_wp2;go_ret;exact⟨by rw[HF.out];rfl,HAL.out _⟩
    ·have hki:¬(k:Int)<(r.length:Int):=by omega
     have HTOP:Hid (z7h (x::r)=true):=by
      show _=_;simp only[z7h,Bool.and_eq_true,decide_eq_true_eq,List.all_eq_true];refine⟨by omega,fun y hy=>HA.out y ?_⟩;rw[List.take_of_length_le (by omega)];exact hy
     have HEO:Hid (Calls Tryz.prog 102 #[.slice (some ⟨b,o,none⟩) (r.length+1) cap,.int .i64 0] wr fun e w'=>j2k (x::r) 0 e/\Below wr.heap.size wr w'):=k1h (x::r) _ cap hl HK.out 0 (Nat.zero_le _) wr (HN.out.below HBR.out);go_wp2_with fail;refine HEO.out.mono ?_;rintro e w2⟨⟨j,bb,rfl,he⟩,b2'⟩;have b2:=q0g HBR.out (Nat.le_refl _) b2';clear b2';cases bb with
     | false=>
      have he:q2h (x::r) 0 1=none:=he
      have HF:Hid (q4r (x::r)=false):=by
       show _=_;simp[q4r,he]
      clear he;go_wp2;go_ret;exact⟨by rw[HF.out];rfl,b2⟩
     | true=>
      have he:q2h (x::r) 0 1=some j:=he;by_cases hj:(j:Int)=(r.length:Int)+1
      ·have HF:Hid (q4r (x::r)=true):=by
        show _=_
        have:j=r.length+1:=by omega
        simp[q4r,he,this,HTOP.out]
       have hjb:((j:Int)==(r.length:Int)+1)=true:=beq_iff_eq.2 hj;clear he hj;go_wp2;go_ret;exact⟨by rw[HF.out];rfl,b2⟩
      ·have HF:Hid (q4r (x::r)=false):=by
        show _=_
        have:¬j=r.length+1:=by omega
        simp[q4r,he,this]
       have hjb:((j:Int)==(r.length:Int)+1)=false:=beq_false_of_ne hj;clear he hj;go_wp2;go_ret;exact⟨by rw[HF.out];rfl,b2⟩
  ·have HX:Hid (exB x.op=true):=by show exB x.op=true;simp[exB];omega
   have HF:Hid (q4r (x::r)=false):=by
    show _=_
    have:z7h (x::r)=false:=by simp[z7h,h7]
    simp[q4r,this]
   generalize x.op=xo at c1' HX;go_in;go_wp2_with fail;refine(q7g xo _).mono ?_;rintro e w2⟨rfl,rfl⟩;rw[HX.out];go_wp2;go_ret;exact⟨by rw[HF.out];rfl,Below.refl _ _⟩
theorem q4k(ds:List Td)(a:Option Addr)(cap:Nat)(w:World)(hc:ds.length<=cap)(hN:Tds w a ds)(hsz:k1o ds):Calls Tryz.prog 29 #[.slice a ds.length cap] w fun e w'=>e=.returned (q1p (q0b ds))/\Below w.heap.size w w':=by
 have HN:Hid (Tds w a ds):=hN;have HSZ:Hid (k1o ds):=hsz;clear hN hsz;by_cases h4:40<(ds.length:Int)
 ·rw[z1m (by omega),j2t];go_in;go_wp2;go_ret;exact⟨rfl,Below.refl _ _⟩
 ·have hl:ds.length<=40:=by omega
  go_in;go_wp2
  go_loopw [12] (fun i wr=>Below w.heap.size w wr/\∃k:Nat,k<=ds.length/\i=.int .i64 k/\∀x∈ds.take k,q0l x=0) (fun i _=>ds.length-(intOf i).toNat)
  case atStart=>exact⟨Below.refl _ _,0,Nat.zero_le _,rfl,by simp⟩
  case round=>
   obtain⟨hB,k,hk,rfl,hall⟩:=hrel;have HA:Hid (∀x∈ds.take k,q0l x=0):=hall;have HM:Hid (Tds wr a ds):=HN.out.below hB;clear hall;by_cases hlt:k<ds.length
   ·obtain⟨b,o,ea,hb,c1,c2,c3⟩:=HM.out k hlt;have htx:=HSZ.out _ (List.getElem_mem hlt);subst ea;by_cases h0:q0l ds[k]=0
    ·have H0:Hid (q0l ds[k]=0):=h0;clear h0;go_wp2_with fail;refine(z5j ds[k] _ htx).mono ?_;rintro e w2⟨rfl,hb2⟩;rw[H0.out,q0u];have hB2:=z3n hB (Nat.le_refl _) hb2;clear hb2;go_wp2
     go_roundw
     case rel=>exact⟨hB2,k+1,by omega,by go_num,z1l hlt HA.out H0.out⟩
     case measure=>simp[intOf];omega
    ·have H0:Hid (q0l ds[k]≠0):=h0;clear h0;go_wp2_with fail;refine(z5j ds[k] _ htx).mono ?_;rintro e w2⟨rfl,hb2⟩;rw[q0o H0.out];have hB2:=z3n hB (Nat.le_refl _) hb2;clear hb2;go_wp2;go_ret;refine⟨?_,hB2⟩;rw[z1n hl hlt HA.out H0.out,q0o H0.out];rfl
   ·have HK:Hid (∀x∈ds,q0l x=0):=by
     have:=HA.out
     rw[List.take_of_length_le (by omega)]at this;exact this
    have HF:Hid (q0b ds=if q4r ds=true then 0 else 2):=k1j hl HK.out;have HS:Hid (Calls Tryz.prog 67 #[.slice a ds.length cap] wr fun e w'=>e=.returned (.bool (q4r ds))/\Below wr.heap.size wr w'):=k7m ds a cap hl HK.out wr hc HM.out;generalize q4r ds=sb at HF HS;go_wp2_with fail;refine HS.out.mono ?_;rintro e w2⟨rfl,b2⟩;have B2:=q0g hB (Nat.le_refl _) b2;clear b2;cases sb with
    | true=>
     go_wp2;go_ret;exact⟨by rw[HF.out];rfl,B2⟩
    | false=>
     go_wp2;go_ret;exact⟨by rw[HF.out];rfl,B2⟩
end Go.Proofs.YthjapabokcajhaaGreatDoor
namespace Go.Proofs.YthjapabokcajhaaGreatDoor
open Go Go.RowKit
abbrev v1h:Prop:=∀(t:List Td)(a:Option Addr)(cap:Nat)(wd:Int)(w:World),t.length<=cap->Tds w a t->k1o t->z7p w->
 Calls Tryz.prog 9 #[.slice a t.length cap,.int .i64 wd] w fun e w'=>e=.returned (.tuple #[.string (k8r t wd),q1p (q8r t wd)])/\Below w.heap.size w w'
theorem z6x{t:List Td}{wd:Int}(h:q8r t wd≠0):k8r t wd=⟨#[]⟩:=by rw[k8r,if_neg h]
theorem z6y{t:List Td}{n:Nat}(h:q8r t (n:Int)=0):k8r t (n:Int)=wbS (q5s n t):=by rw[k8r,if_pos h];rfl
end Go.Proofs.YthjapabokcajhaaGreatDoor
