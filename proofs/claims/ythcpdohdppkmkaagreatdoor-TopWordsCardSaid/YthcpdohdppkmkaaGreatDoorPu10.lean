import Derived.Test.YthcpdohdppkmkaaGreatDoorPu09
import Derived.Lib.AppendIntMem
import Derived.Lib.ItoaNum
import Derived.Lib.AppendZerosOnto
import Derived.Lib.SliceRun
open Go.Proofs.Tryz
namespace Go.Proofs.YthcpdohdppkmkaaGreatDoor
open Go Go.RowKit
set_option maxRecDepth 100000
set_option maxHeartbeats 4000000
def z4e(ds:List Td):Prop:=∀x∈ds,x.tx.size<=140737488351232
theorem v2u(x:Td)(w:World):Calls prog 207 #[tdV x] w fun e w'=>e=.returned (.int .i64 (kdZ x))/\Below w w w':=by
 obtain⟨op,tx,n⟩:=x;have hb:∀O:Obj,Below w w (w.alloc O):=fun O=>(Below.refl _ w).alloc Zl O
 by_cases h3:op=3
 ·subst h3;go_in;go_wp2;go_ret;exact⟨by simp[kdZ],hb _⟩
 by_cases h4:op=4
 ·subst h4;go_in;go_wp2;go_ret;exact⟨by simp[kdZ],hb _⟩
 by_cases h5:op=5
 ·subst h5;go_in;go_wp2;go_ret;exact⟨by simp[kdZ,kdT],hb _⟩
 by_cases h6:op=6
 ·subst h6;go_in;go_wp2;go_ret;exact⟨by simp[kdZ,kdT],hb _⟩
 by_cases h7:op=7
 ·subst h7;go_in;go_wp2;go_ret;exact⟨by simp[kdZ,kdT],hb _⟩
 by_cases h8:op=8
 ·subst h8;go_in;go_wp2;go_ret;exact⟨by simp[kdZ,kdT],hb _⟩
 have HE:Hid (kdZ ⟨op,tx,n⟩=0):=by show kdZ ⟨op,tx,n⟩=0;simp[kdZ,kdT,h3,h4,h5,h6,h7,h8]
 have g3:(op==3)=false:=by simp[h3]
 have g4:(op==4)=false:=by simp[h4]
 have g5:(op==5)=false:=by simp[h5]
 have g6:(op==6)=false:=by simp[h6]
 have g7:(op==7)=false:=by simp[h7]
 have g8:(op==8)=false:=by simp[h8]
 clear h3 h4 h5 h6 h7 h8;go_in;go_wp2;go_ret;exact⟨by rw[HE.o];rfl,hb _⟩
theorem v9w(x:Td)(h:q0r x=0)(w:World):Calls prog 207 #[.agg #[.int .i64 x.op,.string x.tx,.int .i64 x.n]] w fun e w'=>e=.returned (.int .i64 (kdT x:Int))/\Below w w w':=by
 have:=v2u x w
 rw[g0z h]at this;exact this
def y3j(o:Option Nat)(j:Nat)(b:Bool):Prop:=o=if b=true then some j else none
def y1a(ds:List Td)(i:Nat)(e:Ending):Prop:=∃(j:Nat)(b:Bool),e=.returned (.tuple #[.int .i64 (j:Int),.bool b])/\y3j (z3l ds i 1) j b
theorem y3j.yes{o:Option Nat}{j:Nat}(h:o=some j):y3j o j true:=h
theorem y3j.no{o:Option Nat}{j:Nat}(h:o=none):y3j o j false:=h
theorem j3y(ds:List Td)(a:Option Addr)(cap:Nat)(hl:ds.length<=40)(hk:∀x∈ds,q0r x=0)(i:Nat)(hi:i<=ds.length)(w:World)(hN:Tds w a ds):
  Calls prog 163 #[.slice a ds.length cap,.int .i64 i] w fun e w'=>y1a ds i e/\Below w w w':=by
 have HN:Hid (Tds w a ds):=hN;have HK:Hid (∀x∈ds,q0r x=0):=hk;clear hN hk;go_in;go_wp2
 go_loopw [1,6] (fun z m wr=>Below w w wr/\∃k q:Nat,k<=ds.length/\q<=1+6*k/\z=.int .i64 (k:Int)/\m=.int .i64 (q:Int)/\z3l ds i 1=z3l ds k q) (fun z _ _=>ds.length-(intOf z).toNat)
 case atStart=>exact⟨Below.refl _ _,i,1,hi,by omega,rfl,rfl,rfl⟩
 case round=>
  obtain⟨hbr,k,q,hk1,hq,rfl,rfl,he⟩:=hrel;have HE:Hid (z3l ds i 1=z3l ds k q):=he;have HBR:Hid (Below w w wr):=hbr;clear he hbr;by_cases h0:q=0
  ·subst h0
   have HZ:Hid (z3l ds i 1=some k):=by
    show _=_;rw[HE.o,j7s]
   go_wp2;go_ret2;exact⟨⟨k,true,rfl,y3j.yes HZ.o⟩,HBR.o⟩
  ·obtain⟨p,rfl⟩:∃p,q=p+1:=⟨q-1,by omega⟩;have hpc:((p+1:Nat):Int)=(p:Int)+1:=by omega
   have hpi:(0:Int)<(p:Int)+1:=by omega
   have hpe:((p:Int)+1==0)=false:=beq_false_of_ne (by omega);by_cases hlt:k<ds.length
   ·have hki:(k:Int)<(ds.length:Int):=by omega
    obtain⟨b,o,ea,hb,c1,c2,c3⟩:=(HN.o.W HBR.o) k hlt;subst ea;have hkd:=g0y (HK.o _ (List.getElem_mem hlt));have HM:Hid (∀W:World,Calls prog 207 #[.agg #[.int .i64 ds[k].op,.string ds[k].tx,.int .i64 ds[k].n]] W fun e w'=>e=.returned (.int .i64 (kdT ds[k]:Int))/\Below W W w'):=fun W=>v9w _ (HK.o _ (List.getElem_mem hlt)) W
    have HS:Hid (z3l ds i 1=z3l ds (k+1) (kdT ds[k]+p)):=by
     show _=_;rw[HE.o,j7r ds k p hlt]
    generalize kdT ds[k]=d at hkd HM HS;generalize ds[k].op=xo at c1 HM;generalize ds[k].tx=xt at c2 HM;generalize ds[k].n=xn at c3 HM;rw[hpc];clear h0 hpe hpc;go_wp2_with fail;refine(HM.o _).mono ?_;rintro e w2⟨rfl,b2⟩;have HB2:Hid (Below w w w2):=q0c HBR.o Zl b2;clear b2 c1 c2 c3;go_wp2
    go_roundw
    case rel=>exact⟨HB2.o,k+1,d+p,by omega,by omega,by go_num,by go_num,HS.o⟩
    case measure=>simp[intOf];omega
   ·have hki:¬(k:Int)<(ds.length:Int):=by omega
    have HZ:Hid (z3l ds i 1=none):=by
     show _=_;rw[HE.o,z3w ds k p (by omega)]
    rw[hpc];clear h0 hpc;go_wp2;go_ret2;exact⟨⟨k,false,rfl,y3j.no HZ.o⟩,HBR.o⟩
theorem y0b{w:World}{a:Option Addr}{c:Nat}{x:Td}{r:List Td}(h:Tds w a (x::r))(hc:r.length+1<=c):
  ∃A,(∀W:World,(Instr.slice 51 (.slice a (r.length+1) c) (some (.int .i64 1)) none none).run prog W=.ok (.slice A r.length (c-1)) W)/\Tds w A r:=by
 obtain⟨b,o,rfl,hb,_,_,_⟩:=h 0 (by simp);refine⟨if c=1 then some ⟨b,o,none⟩else some ⟨b,o+3,none⟩,fun W=>?_,?_⟩
 ·have h1:=run_slice_l (P:=prog) W 51 (some ⟨b,o,none⟩) (r.length+1) c Tryz.underlying51 .i64 1 (by omega) (by omega);rw[h1];have hz:(sizeOf (prog.elem 51)).run prog W=.ok 3 W:=by kernel_rfl
  rw[hz];have ha:(⟨b,o,none⟩:Addr).add 3=⟨b,o+3,none⟩:=rfl;simp[Result.andThen,sliced,ha]
 ·by_cases e:c=1
  ·have:r=[]:=List.eq_nil_of_length_eq_zero (by omega)
   subst this;exact fun i hi=>by simp at hi
  ·rw[if_neg e];intro i hi;obtain⟨b',o',e1,hb',d1,d2,d3⟩:=h (i+1) (by simp;omega);cases e1;rw[show o+(i+1)*3=o+3+i*3 by omega]at d1 d2 d3;exact⟨b,o+3,rfl,hb,d1,d2,d3⟩
theorem g2e{x:Td}(h:q0r x=0):1<=x.op/\x.op<=9:=by
 unfold q0r at h
 split at h
 ·cases h
 ·omega
def q7n(ds:List Td):Bool:=decide (z3l ds 0 1=some ds.length)&&v3b ds
theorem v2m:q7n []=false:=by
 have:z3l [] 0 1=none:=z3w _ _ _ Zl
 simp[q7n,this]
theorem j4n{ds:List Td}(hl:ds.length<=40)(ha:∀x∈ds,q0r x=0):q0d ds=if q7n ds=true then 0 else 2:=by
 rw[v3c hl ha];simp only[q7n,Bool.and_eq_true,decide_eq_true_eq]
theorem v2v(ds:List Td)(a:Option Addr)(cap:Nat)(hl:ds.length<=40)(hk:∀x∈ds,q0r x=0)(w:World)(hc:ds.length<=cap)(hN:Tds w a ds):
  Calls prog 100 #[.slice a ds.length cap] w fun e w'=>e=.returned (.bool (q7n ds))/\Below w w w':=by
 cases ds with
 | nil=>
  rw[v2m];clear hk hN hl hc;go_in;go_wp2;go_ret;exact⟨rfl,Below.refl _ _⟩
 | cons x r=>
  have HN:Hid (Tds w a (x::r)):=hN;have HK:Hid (∀y∈x::r,q0r y=0):=hk;obtain⟨b,o,ea,hb,c1,_,_⟩:=hN 0 (by simp);have hx:=g2e (hk x (by simp));have hlen:(x::r).length=r.length+1:=rfl;rw[hlen]at hl hc⊢;have hp:¬(r.length:Int)+1=0:=by omega
  have hpb:((r.length:Int)+1==0)=false:=beq_false_of_ne hp;have hp0:(0:Int)<(r.length:Int)+1:=by omega
  have c1':w.cell? ⟨b,o,none⟩=some (.int .i64 x.op):=by simpa using c1
  clear c1 hN;subst ea;by_cases h7:7<=x.op
  ·have HX:Hid (exB x.op=false):=by show exB x.op=false;simp[exB];omega
   obtain⟨A,hsl,hT⟩:=y0b HN.o hc;have HT:Hid (Tds w A r):=hT;clear hT;generalize hxo:x.op=xo at c1' HX;go_in;go_wp2_with fail;refine(z1i xo _).mono ?_;rintro e w2⟨rfl,rfl⟩;rw[HX.o];go_wp2_with fail
   go_loopw [20] (fun i wr=>Below w w wr/\∃k:Nat,k<=r.length/\i=.int .i64 (k:Int)/\∀y∈r.take k,y.op<7) (fun i _=>r.length-(intOf i).toNat)
   case atStart=>exact⟨Below.refl _ _,0,Nat.zero_le _,rfl,by simp⟩
   case round=>
    obtain⟨hbr,k,hk1,rfl,hall⟩:=hrel;have HBR:Hid (Below w w wr):=hbr;have HAL:Hid (∀O:Obj,Below w w (wr.alloc O)):=fun O=>hbr.alloc hbr.size O
    clear hbr;have HA:Hid (∀y∈r.take k,y.op<7):=hall;clear hall hsl;by_cases hlt:k<r.length
    ·have hki:(k:Int)<(r.length:Int):=by omega
     obtain⟨b1,o1,e1,hb1,d1,d2,d3⟩:=(HT.o.W HBR.o) k hlt;subst e1;have hy:=g2e (HK.o r[k] (by simp));by_cases hyt:r[k].op<7
     ·have HY:Hid (exB r[k].op=true):=by show exB r[k].op=true;simp[exB];omega
      have HA2:Hid (∀y∈r.take (k+1),y.op<7):=by
       intro y hyy;rw[List.take_succ_eq_append_getElem hlt]at hyy;rcases List.mem_append.1 hyy with hyy|hyy
       ·exact HA.o y hyy
       ·simp at hyy;subst hyy;exact hyt
      clear hyt hy;generalize r[k].op=yo at d1 HY;generalize r[k].tx=yt at d2;generalize r[k].n=yn at d3;go_wp2_with fail;refine(z1i yo _).mono ?_;rintro e w2⟨rfl,rfl⟩;rw[HY.o];go_wp2
      go_roundw
      case rel=>exact⟨HAL.o _,k+1,by omega,by go_num,HA2.o⟩
      case measure=>simp[intOf];omega
     ·have HY:Hid (exB r[k].op=false):=by show exB r[k].op=false;simp[exB];omega
      have HF:Hid (q7n (x::r)=false):=by
       show _=_
       have:v3b (x::r)=false:=by
        simp only[v3b,Bool.and_eq_false_iff,List.all_eq_false];exact .inr ⟨r[k],List.getElem_mem hlt,by simp[hyt]⟩
       simp[q7n,this]
      clear hyt hy;generalize r[k].op=yo at d1 HY;generalize r[k].tx=yt at d2;generalize r[k].n=yn at d3;go_wp2_with fail;refine(z1i yo _).mono ?_;rintro e w2⟨rfl,rfl⟩;rw[HY.o];go_wp2;go_ret;exact⟨by rw[HF.o];rfl,HAL.o _⟩
    ·have hki:¬(k:Int)<(r.length:Int):=by omega
     have HTOP:Hid (v3b (x::r)=true):=by
      show _=_;simp only[v3b,Bool.and_eq_true,decide_eq_true_eq,List.all_eq_true];refine⟨by omega,fun y hy=>HA.o y ?_⟩;rw[List.take_of_length_le (by omega)];exact hy
     have HEO:Hid (Calls prog 163 #[.slice (some ⟨b,o,none⟩) (r.length+1) cap,.int .i64 0] wr fun e w'=>y1a (x::r) 0 e/\Below wr wr w'):=j3y (x::r) _ cap hl HK.o 0 (Nat.zero_le _) wr (HN.o.W HBR.o);go_wp2_with fail;refine HEO.o.mono ?_;rintro e w2⟨⟨j,bb,rfl,he⟩,b2'⟩;have b2:=q0c HBR.o Zl b2';clear b2';cases bb with
     | false=>
      have he:z3l (x::r) 0 1=none:=he
      have HF:Hid (q7n (x::r)=false):=by
       show _=_;simp[q7n,he]
      clear he;go_wp2;go_ret;exact⟨by rw[HF.o];rfl,b2⟩
     | true=>
      have he:z3l (x::r) 0 1=some j:=he;by_cases hj:(j:Int)=(r.length:Int)+1
      ·have HF:Hid (q7n (x::r)=true):=by
        show _=_
        have:j=r.length+1:=by omega
        simp[q7n,he,this,HTOP.o]
       have hjb:((j:Int)==(r.length:Int)+1)=true:=beq_iff_eq.2 hj;clear he hj;go_wp2;go_ret;exact⟨by rw[HF.o];rfl,b2⟩
      ·have HF:Hid (q7n (x::r)=false):=by
        show _=_
        have:¬j=r.length+1:=by omega
        simp[q7n,he,this]
       have hjb:((j:Int)==(r.length:Int)+1)=false:=beq_false_of_ne hj;clear he hj;go_wp2;go_ret;exact⟨by rw[HF.o];rfl,b2⟩
  ·have HX:Hid (exB x.op=true):=by show exB x.op=true;simp[exB];omega
   have HF:Hid (q7n (x::r)=false):=by
    show _=_
    have:v3b (x::r)=false:=by simp[v3b,h7]
    simp[q7n,this]
   generalize x.op=xo at c1' HX;go_in;go_wp2_with fail;refine(z1i xo _).mono ?_;rintro e w2⟨rfl,rfl⟩;rw[HX.o];go_wp2;go_ret;exact⟨by rw[HF.o];rfl,Below.refl _ _⟩
theorem q7c(ds:List Td)(a:Option Addr)(cap:Nat)(w:World)(hc:ds.length<=cap)(hN:Tds w a ds)(hsz:z4e ds):Calls prog 56 #[.slice a ds.length cap] w fun e w'=>e=.returned (q0s (q0d ds))/\Below w w w':=by
 have HN:Hid (Tds w a ds):=hN;have HSZ:Hid (z4e ds):=hsz;clear hN hsz;by_cases h4:40<(ds.length:Int)
 ·rw[j4l (by omega),k9u];go_in;go_wp2;go_ret;exact⟨rfl,Below.refl _ _⟩
 ·have hl:ds.length<=40:=by omega
  go_in;go_wp2
  go_loopw [12] (fun i wr=>Below w w wr/\∃k:Nat,k<=ds.length/\i=.int .i64 k/\∀x∈ds.take k,q0r x=0) (fun i _=>ds.length-(intOf i).toNat)
  case atStart=>exact⟨Below.refl _ _,0,Nat.zero_le _,rfl,by simp⟩
  case round=>
   obtain⟨hB,k,hk,rfl,hall⟩:=hrel;have HA:Hid (∀x∈ds.take k,q0r x=0):=hall;have HM:Hid (Tds wr a ds):=HN.o.W hB;clear hall;by_cases hlt:k<ds.length
   ·obtain⟨b,o,ea,hb,c1,c2,c3⟩:=HM.o k hlt;have htx:=HSZ.o _ (List.getElem_mem hlt);subst ea;by_cases h0:q0r ds[k]=0
    ·have H0:Hid (q0r ds[k]=0):=h0;clear h0;go_wp2_with fail;refine(k4j ds[k] _ htx).mono ?_;rintro e w2⟨rfl,hb2⟩;rw[H0.o,q0e];have hB2:=q7o hB Zl hb2;clear hb2;go_wp2
     go_roundw
     case rel=>exact⟨hB2,k+1,by omega,by go_num,j4a hlt HA.o H0.o⟩
     case measure=>simp[intOf];omega
    ·have H0:Hid (q0r ds[k]≠0):=h0;clear h0;go_wp2_with fail;refine(k4j ds[k] _ htx).mono ?_;rintro e w2⟨rfl,hb2⟩;rw[q0f H0.o];have hB2:=q7o hB Zl hb2;clear hb2;go_wp2;go_ret;refine⟨?_,hB2⟩;rw[j4m hl hlt HA.o H0.o,q0f H0.o];rfl
   ·have HK:Hid (∀x∈ds,q0r x=0):=by
     have:=HA.o
     rw[List.take_of_length_le (by omega)]at this;exact this
    have HF:Hid (q0d ds=if q7n ds=true then 0 else 2):=j4n hl HK.o;have HS:Hid (Calls prog 100 #[.slice a ds.length cap] wr fun e w'=>e=.returned (.bool (q7n ds))/\Below wr wr w'):=v2v ds a cap hl HK.o wr hc HM.o;generalize q7n ds=sb at HF HS;go_wp2_with fail;refine HS.o.mono ?_;rintro e w2⟨rfl,b2⟩;have B2:=q0c hB Zl b2;clear b2;cases sb with
    | true=>
     go_wp2;go_ret;exact⟨by rw[HF.o];rfl,B2⟩
    | false=>
     go_wp2;go_ret;exact⟨by rw[HF.o];rfl,B2⟩
theorem y4t(n:Nat):Lib.decDigits n=q3q n:=by
 induction n using Nat.strongRecOn with
 | ind n ih=>
  rw[Lib.decDigits,q3q];by_cases h:n<10
  ·rw[dif_pos h,dif_pos (by omega)]
  ·rw[dif_neg h,dif_neg (by omega),ih (n / 10) (by omega)]
theorem j0a(n:Int)(h0:0<=n)(h1:n<=999999)(w:World)(ht:z8n w):Calls prog 154 #[.int .i64 n] w fun e w'=>e=.returned (.string (wbS (q3q n.toNat)))/\Below w w w':=by
 refine(itoa_sh n (by omega) (by omega) w ht).mono ?_;rintro e w'⟨rfl,k,os,rfl⟩;refine⟨?_,Lib.below_grow _ _ Zl _ _⟩;rw[Lib.itoa,if_neg (by omega),y4t];rfl
abbrev ExC(w0:World)(b:Nat)(x:Td)(k:Fo):Prop:=∀(bs:List UInt8)(rest:List Td)(w:World),bs.length+(q3o x k.R).length<=500000->WyE w0 b bs (x::(k.N++rest)) w->
 Calls prog 98 #[.pointer (some ⟨b,0,none⟩)] w fun e w'=>e=.returned (.tuple #[])/\WyE w0 b (bs++q3o x k.R) rest w'
def y3i(w0:World)(b:Nat):Fo->Prop
 | .nil=>True
 | .cons x k n=>ExC w0 b x k/\y3i w0 b n
theorem y0j{w0:World}{b:Nat}(ht:z8n w0)(n:Int)(h0:0<=n)(h9:n<=999999)(tx:ByteArray):ExC w0 b ⟨1,tx,n⟩ .nil:=by
 intro bs rest w hl hW;obtain⟨A,c,h⟩:=hW;have HN:Hid (Calls prog 96 #[.pointer (some ⟨b,0,none⟩)] w fun e w'=>e=.returned (tdV ⟨1,tx,n⟩)/\WyE w0 b bs rest w'):=q5b h;have HL:Hid (q3o ⟨1,tx,n⟩ Fo.nil.R=q3q n.toNat):=rfl;rw[HL.o]at hl⊢;have HT:Hid (z8n w0):=ht;clear h ht;go_in;go_wp2_with fail;refine HN.o.mono ?_;rintro e w1⟨rfl,A1,c1,h1⟩;have HI:Hid (∀W:World,Below w1 w1 W->Calls prog 154 #[.int .i64 n] W fun e w'=>e=.returned (.string (wbS (q3q n.toNat)))/\Below W W w'):=fun W hb=>j0a n h0 h9 W ((HT.o.W h1.bl).W hb)
 have HS:Hid (∀W:World,Below w1 w1 W->Calls prog 47 #[.pointer (some ⟨b,0,none⟩),.string (wbS (q3q n.toNat))] W fun e w'=>(∃z,e=.returned (.tuple #[z,.nilIface]))/\WyE w0 b (bs++q3q n.toNat) rest w'):=fun W hb=>by
  refine(q5c (h1.grew hb) (wbS (q3q n.toNat)) (by omega) (by rw[<-q0b,g4x];omega)).mono ?_;rintro e w'⟨rfl,h,_⟩;exact⟨⟨_,rfl⟩,_,_,h⟩
 generalize wbS (q3q n.toNat)=S at HI HS;clear h1 HN;go_wp2_with fail
 go_region_with (first|(go_at_call 154;refine(HI.o _ (z3k w1 _)).mono ?_;rintro e w2⟨rfl,b2⟩)|(go_at_call 47;refine(HS.o _ (q0c (z3k w1 _) Zl b2)).mono ?_;rintro e w3⟨⟨z,rfl⟩,h3⟩))
 all_goals
  go_wp2
  go_end0
  exact⟨rfl,h3⟩
theorem v3v{w0:World}{b:Nat}(tx:ByteArray)(n:Int):ExC w0 b ⟨2,tx,n⟩ .nil:=by
 intro bs rest w hl hW;obtain⟨A,c,h⟩:=hW;have HN:Hid (Calls prog 96 #[.pointer (some ⟨b,0,none⟩)] w fun e w'=>e=.returned (tdV ⟨2,tx,n⟩)/\WyE w0 b bs rest w'):=q5b h;have HL:Hid (q3o ⟨2,tx,n⟩ Fo.nil.R=btL tx):=rfl;rw[HL.o]at hl⊢;clear h;go_in;go_wp2_with fail;refine HN.o.mono ?_;rintro e w1⟨rfl,A1,c1,h1⟩
 have HS:Hid (∀W:World,Below w1 w1 W->Calls prog 47 #[.pointer (some ⟨b,0,none⟩),.string tx] W fun e w'=>(∃z,e=.returned (.tuple #[z,.nilIface]))/\WyE w0 b (bs++btL tx) rest w'):=fun W hb=>by
  refine(q5c (h1.grew hb) tx (by omega) (by rw[<-q0b];omega)).mono ?_;rintro e w'⟨rfl,h,_⟩;exact⟨⟨_,rfl⟩,_,_,h⟩
 clear h1 HN;go_wp2_with fail
 go_region_with (go_at_call 47;refine(HS.o _ (z3k w1 _)).mono ?_;rintro e w3⟨⟨z,rfl⟩,h3⟩)
 all_goals
  go_wp2
  go_end0
  exact⟨rfl,h3⟩
abbrev KdC(w0:World)(b:Nat)(F:Fo)(o z:UInt8):Prop:=∀(bs:List UInt8)(rest:List Td)(w:World),bs.length+(cmx F.R).length+2<=500000->WyE w0 b bs (F.N++rest) w->
 Calls prog 155 #[.pointer (some ⟨b,0,none⟩),.int .i64 (F.len:Int),.int .u8 (o.toNat:Int),.int .u8 (z.toNat:Int)] w fun e w'=>e=.returned (.tuple #[])/\WyE w0 b (bs++o::(cmx F.R++[z])) rest w'
theorem v3u{w0:World}{b:Nat}{F:Fo}(tx:ByteArray)(hK:KdC w0 b F 91 93):ExC w0 b ⟨4,tx,(F.len:Int)⟩ F:=by
 intro bs rest w hl hW;obtain⟨A,c,h⟩:=hW;have HN:Hid (Calls prog 96 #[.pointer (some ⟨b,0,none⟩)] w fun e w'=>e=.returned (tdV ⟨4,tx,(F.len:Int)⟩)/\WyE w0 b bs (F.N++rest) w'):=q5b h;have HL:Hid (q3o ⟨4,tx,(F.len:Int)⟩ F.R=91::(cmx F.R++[93])):=rfl;rw[HL.o]at hl⊢;have HK:Hid (KdC w0 b F 91 93):=hK;clear h hK;simp only[List.length_cons,List.length_append,List.length_nil]at hl;go_in;go_wp2_with fail;refine HN.o.mono ?_;rintro e w1⟨rfl,A1,c1,h1⟩;have HS:Hid (∀W:World,Below w1 w1 W->Calls prog 155 #[.pointer (some ⟨b,0,none⟩),.int .i64 (F.len:Int),.int .u8 91,.int .u8 93] W fun e w'=>e=.returned (.tuple #[])/\WyE w0 b (bs++91::(cmx F.R++[93])) rest w'):=fun W hb=>HK.o bs rest W (by omega) ⟨_,_,h1.grew hb⟩
 clear h1 HN HK;go_wp2_with fail;refine(HS.o _ (q1t w1 _)).mono ?_;rintro e w3⟨rfl,h3⟩;go_wp2
 go_end0
 exact⟨rfl,h3⟩
theorem v3t{w0:World}{b:Nat}{F:Fo}(tx:ByteArray)(hK:KdC w0 b F 40 41):ExC w0 b ⟨3,tx,(F.len:Int)⟩ F:=by
 intro bs rest w hl hW;obtain⟨A,c,h⟩:=hW;have HN:Hid (Calls prog 96 #[.pointer (some ⟨b,0,none⟩)] w fun e w'=>e=.returned (tdV ⟨3,tx,(F.len:Int)⟩)/\WyE w0 b bs (F.N++rest) w'):=q5b h;have HL:Hid (q3o ⟨3,tx,(F.len:Int)⟩ F.R=btL tx++40::(cmx F.R++[41])):=rfl;rw[HL.o]at hl⊢;have HK:Hid (KdC w0 b F 40 41):=hK;clear h hK;simp only[List.length_cons,List.length_append,List.length_nil]at hl;go_in;go_wp2_with fail;refine HN.o.mono ?_;rintro e w1⟨rfl,A1,c1,h1⟩
 have HS:Hid (∀W:World,Below w1 w1 W->Calls prog 47 #[.pointer (some ⟨b,0,none⟩),.string tx] W fun e w'=>(∃z,e=.returned (.tuple #[z,.nilIface]))/\WyE w0 b (bs++btL tx) (F.N++rest) w'/\Lib.OthersKept 5 (some b) W w'):=fun W hb=>by
  refine(q5c (h1.grew hb) tx (by omega) (by rw[<-q0b];omega)).mono ?_;rintro e w'⟨rfl,h,hk⟩;exact⟨⟨_,rfl⟩,⟨_,_,h⟩,hk⟩
 have HS2:Hid (∀W:World,WyE w0 b (bs++btL tx) (F.N++rest) W->Calls prog 155 #[.pointer (some ⟨b,0,none⟩),.int .i64 (F.len:Int),.int .u8 40,.int .u8 41] W fun e w'=>e=.returned (.tuple #[])/\WyE w0 b ((bs++btL tx)++40::(cmx F.R++[41])) rest w'):=fun W hW=>HK.o _ rest W (by rw[List.length_append];omega) hW
 have hbw:b<w1.heap.size:=h1.x.lt;clear h1 HN HK;generalize F.len=fn at HS2 HL⊢;go_wp2_with fail
 go_region_with (go_at_call 47;refine(HS.o _ (z3k w1 _)).mono ?_;rintro e w3⟨⟨z,rfl⟩,h3,hk3⟩)
 all_goals
  have hbox:w3.heap[w1.heap.size]?=some (.cells #[.int .i64 3,.string tx,.int .i64 (fn:Int)] 71 (0,0)):=hk3 _ _ (heap_alloc_new w1 _) (by simp;omega) (fun c fz e=>by cases e);have hn2:w3.cell? ⟨w1,2,none⟩=some (.int .i64 (fn:Int)):=by rw[Lib.cell_of_heap hbox];rfl
  clear hbox hk3;go_wp2_with fail;refine(HS2.o _ h3).mono ?_;rintro e w4⟨rfl,h4⟩;go_wp2
  go_end0
  rw[List.append_assoc]at h4;exact⟨rfl,h4⟩
def q1h(ds:List Nd):List Value:=ds.flatMap fun x=>[.int .i64 x.op,.string x.tx,.int .i64 x.n]
theorem q9o:∀ds:List Nd,(q1h ds).length=ds.length*3
 | []=>rfl
 | x::r=>by
  have:=q9o r
  unfold q1h at this⊢;rw[List.flatMap_cons,List.length_append,this,List.length_cons];simp;omega
theorem k6r(a b:List Nd):q1h (a++b)=q1h a++q1h b:=by simp[q1h,List.flatMap_append]
theorem z2o:∀(ds:List Nd)(i:Nat)(h:i<ds.length),(q1h ds)[i*3]?=some (.int .i64 ds[i].op)/\(q1h ds)[i*3+1]?=some (.string ds[i].tx)/\(q1h ds)[i*3+2]?=some (.int .i64 ds[i].n)
 | x::r,0,_=>by simp[q1h]
 | x::r,i+1,h=>by
  have h1:=z2o r i (by simpa using h);have e:q1h (x::r)=.int .i64 x.op::.string x.tx::.int .i64 x.n::q1h r:=by simp[q1h]
  rw[e,show(i+1)*3=i*3+1+1+1 by omega];exact h1
theorem k6t(ds:List Nd):∀u∈q1h ds,u.oneCell'=true:=by
 intro u hu;obtain⟨x,_,hx⟩:=List.mem_flatMap.1 hu;simp at hx;rcases hx with rfl|rfl|rfl<;>rfl
theorem k6s(ds:List Nd)(j:Nat)(u:Value)(h:(q1h ds)[j]?=some u):∃i,∃hi:i<ds.length,(j=i*3/\u=.int .i64 ds[i].op)\/(j=i*3+1/\u=.string ds[i].tx)\/(j=i*3+2/\u=.int .i64 ds[i].n):=by
 have hj:j<ds.length*3:=by rw[<-q9o];exact(List.getElem?_eq_some_iff.1 h).1
 have hi:j / 3<ds.length:=by omega
 obtain⟨h0,h1,h2⟩:=z2o ds (j / 3) hi;refine⟨j / 3,hi,?_⟩;have h3:j=j / 3*3\/j=j / 3*3+1\/j=j / 3*3+2:=by omega
 rcases h3 with e|e|e
 ·rw[<-e,h]at h0;exact .inl ⟨e,Option.some.inj h0⟩
 ·rw[<-e,h]at h1;exact .inr (.inl ⟨e,Option.some.inj h1⟩)
 ·rw[<-e,h]at h2;exact .inr (.inr ⟨e,Option.some.inj h2⟩)
theorem y2f:(prog.info? 177).map (fun i=>(i.zero,i.size,i.bytes))=some (some (.agg #[.int .i64 0,.string ⟨#[]⟩,.int .i64 0]),3,32):=by kernel_rfl
theorem j1a{B:Nat}{w:World}{a:Option Addr}{n cap:Nat}{ds:List Nd}(h:w.ownsRow B 177 3 (.slice a n cap) ds.length (q1h ds)):n=ds.length/\ds.length<=cap/\q3p w a ds:=by
 rcases h.2 with⟨hv,h0⟩|⟨g,c,cur,hv,_,hg,hnc,_,hsz,htake⟩
 ·simp only[Value.slice.injEq]at hv;obtain⟨rfl,rfl,rfl⟩:=hv;refine⟨h0.symm,by omega,fun i hi=>?_⟩;omega
 ·simp only[Value.slice.injEq]at hv;obtain⟨rfl,rfl,rfl⟩:=hv;refine⟨rfl,hnc,fun i hi=>?_⟩
  have hlt:g<w.heap.size:=by
   rcases Nat.lt_or_ge g w.heap.size with h'|h'
   ·exact h'
   ·simp[Array.getElem?_eq_none h']at hg
  have hcell:∀k u,(q1h ds)[k]?=some u->w.cell? ⟨g,k,none⟩=some u:=by
   intro k u hk;rw[<-htake]at hk
   have hk2:k<ds.length*3:=by
    have:=(List.getElem?_eq_some_iff.1 hk).1
    simp at this;omega
   rw[List.getElem?_take_of_lt hk2]at hk;simp only[World.cell?,hg];simpa using hk
  obtain⟨h0,h1,h2⟩:=z2o ds i hi;refine⟨g,0,rfl,hlt,?_,?_,?_⟩
  ·rw[Nat.zero_add];exact hcell _ _ h0
  ·rw[Nat.zero_add];exact hcell _ _ h1
  ·rw[Nat.zero_add];exact hcell _ _ h2
theorem v0r{w:World}{b o:Nat}{ds:List Nd}(h:q3p w (some ⟨b,o,none⟩) ds):∀j u,(q1h ds)[j]?=some u->w.cell? ((⟨b,o,none⟩:Addr).add j)=some u:=by
 intro j u hj;obtain⟨i,hi,hc⟩:=k6s ds j u hj;obtain⟨b',o',e,_,c1,c2,c3⟩:=h i hi;simp only[Option.some.injEq,Addr.mk.injEq,and_true]at e;obtain⟨rfl,rfl⟩:=e
 have ha:∀k,(⟨b,o,none⟩:Addr).add k=⟨b,o+k,none⟩:=by
  intro k;unfold Addr.add
  split
  ·rename_i h;subst h;rfl
  ·rfl
 rw[ha];rcases hc with⟨rfl,rfl⟩|⟨rfl,rfl⟩|⟨rfl,rfl⟩
 ·exact c1
 ·rw[show o+(i*3+1)=o+i*3+1 by omega];exact c2
 ·rw[show o+(i*3+2)=o+i*3+2 by omega];exact c3
def q9t(B:Nat)(v:Value)(xs:List Nd)(w:World):Prop:=w.ownsRow B 177 3 v xs.length (q1h xs)
theorem q9t.nods{B:Nat}{w:World}{A:Option Addr}{n c:Nat}{xs:List Nd}(h:q9t B (.slice A n c) xs w):q3p w A xs:=(j1a h).2.2
theorem q9t.none{B:Nat}{w:World}{A:Option Addr}{n c:Nat}{xs:List Nd}(h:q9t B (.slice A n c) xs w):n=xs.length/\(A=none->n=0/\c=0):=by
 rcases h.2 with⟨hv,h0⟩|⟨g,c',cur,hv,_⟩
 ·simp only[Value.slice.injEq]at hv;obtain⟨rfl,rfl,rfl⟩:=hv;exact⟨h0.symm,fun _=>⟨rfl,rfl⟩⟩
 ·simp only[Value.slice.injEq]at hv;obtain⟨rfl,rfl,rfl⟩:=hv;exact⟨rfl,fun e=>by cases e⟩
theorem y3q{w:World}{ops:Array Oper}{rest:List Oper}{o:Oper}{a:Act}{Q:Exit->Act->World->Prop}(hgd:o.guard=none)(s x:Operand)
  (ho:o.op=.call {callee:=.builtin .append,args:=#[s,x],argTypes:=#[53,53]})
  (base:Nat) (v:Value) (xs:List Nd) (hs:a.eval s=v) (hown:q9t base v xs w)
  (wa:Option Addr) (n:Nat) (ws:List Nd) (hn:ws.length=n) (wc:Nat) (hx:a.eval x=.slice wa n wc) (hW:q3p w wa ws) (hnil:wa=none->n=0/\wc=0)
  (m:Nat) (hm:xs.length+n=m) (hb:m<=1000000) (hbase:base<=w.heap.size)
  (h:∀A c w',q9t base (.slice A m c) (xs++ws) w'->w.grownBy w' v.ownBlock->wpList prog ops Q rest (a.put o.dst (.slice A m c)) w'):wpList prog ops Q (o::rest) a w:=by
 subst hn hm;obtain⟨i0,hi,hz0,hz1,hz2⟩:=info_parts y2f
 have h':∀v' w',q9t base v' (xs++ws) w'->w.grownBy w' v.ownBlock->wpList prog ops Q rest (a.put o.dst v') w':=by
  intro v' w' h1 h2
  obtain⟨A,c,rfl⟩:∃A c,v'=.slice A (xs.length+ws.length) c:=by
   rcases h1.2 with⟨hv,h0⟩|⟨g,c,cur,hv,_⟩
   ·rw[List.length_append]at h0;exact⟨.none,0,by rw[hv,h0]⟩
   ·rw[List.length_append]at hv;exact⟨_,c,hv⟩
  exact h A c w' h1 h2
 cases wa with
 | none=>
  obtain⟨h0,rfl⟩:=hnil rfl;obtain rfl:ws=[]:=List.eq_nil_of_length_eq_zero h0;refine wpList_append_own_none hgd s x 53 ho base 177 i0 3 Tryz.underlying53 hi v xs.length (q1h xs) hs hown hx ?_;refine h' v w ?_ ⟨rfl,rfl,rfl,Nat.le_refl _,fun _ _ _=>rfl⟩;rw[List.append_nil];exact hown
 | some ad=>
  have hsp:ws=[]\/∃b o,ad=⟨b,o,Option.none⟩:=by
   rcases Nat.eq_zero_or_pos ws.length with h0|h0
   ·exact .inl (List.eq_nil_of_length_eq_zero h0)
   ·obtain⟨b,o,e,_⟩:=hW 0 h0;exact .inr ⟨b,o,by simpa using e⟩
  refine wpList_append_own w hgd s x 53 ho base 177 i0 _ 3 32 Tryz.underlying53 hi hz0 hz1 hz2 rfl (by decide) v xs.length (q1h xs) hs hown ad ws.length wc (q1h ws) hx (q9o ws) ?_ (k6t ws) (by unfold maxLen;omega) (by omega) hbase ?_
  ·rcases hsp with rfl|⟨b,o,rfl⟩
   ·intro j u hj;simp[q1h]at hj
   ·exact v0r hW
  ·intro v' w' h1 h2 _;rw[<-k6r]at h1;refine h' v' w' ?_ h2;show w'.ownsRow _ _ _ _ _ _;rw[List.length_append];exact h1
theorem q9t.down{B B':Nat}{v:Value}{xs:List Nd}{w:World}(h:q9t B v xs w)(hB:B'<=B):q9t B' v xs w:=by
 refine⟨h.1,?_⟩;rcases h.2 with h0|⟨g,c,cur,hv,hg,rest⟩
 ·exact .inl h0
 ·exact .inr ⟨g,c,cur,hv,by omega,rest⟩
theorem q9t.kept{B:Nat}{v:Value}{xs:List Nd}{w w':World}(h:q9t B v xs w)(hk:∀g,B<=g->g<w.heap.size->w'.heap[g]?=w.heap[g]?):q9t B v xs w':=by
 refine⟨h.1,?_⟩;rcases h.2 with h0|⟨g,c,cur,hv,hB,hg,rest⟩
 ·exact .inl h0
 ·exact .inr ⟨g,c,cur,hv,hB,(hk g hB (Array.getElem?_eq_some_iff.1 hg).1).trans hg,rest⟩
theorem q9t.one(w:World)(x:Nd):q9t w.heap.size (.slice (some ⟨w.heap.size,0,Option.none⟩) 1 1) [x] (w.alloc (.cells #[.int .i64 x.op,.string x.tx,.int .i64 x.n] 177)):=by
 have h1:(w.alloc (.cells #[.int .i64 x.op,.string x.tx,.int .i64 x.n] 177)).heap[w.heap.size]?=some (.cells #[.int .i64 x.op,.string x.tx,.int .i64 x.n] 177 (0,0)):=by
  show(w.heap.push _)[w.heap.size]?=_
  simp
 exact⟨rfl,.inr ⟨w.heap.size,1,_,rfl,Nat.le_refl _,h1,Nat.le_refl _,by unfold maxLen;decide,rfl,rfl⟩⟩
theorem j9u(n:Nat)(h1:0<n)(hn:n<=1000000)(w:World):
  Calls prog 241 #[.slice none 0 0,.int .i64 (n:Int)] w fun e w'=>∃c,e=.returned (.slice (some ⟨w,0,none⟩) 0 c)/\q9t w.heap.size (.slice (some ⟨w,0,none⟩) 0 c) [] w'/\Below w w w':=by
 obtain⟨i0,hi,hz0,hz1,hz2⟩:=info_parts y2f
 have hrz:∀ty,(Builtin.append_ #[53,3] ty #[.slice none 0 0,.int .i64 (n:Int)]).run prog w=
   .ok (.slice (some ⟨w,0,none⟩) n (grownCap w n 0 177)) (w.drew.alloc (.cells (#[]++Builtin.zeroCells (Value.agg #[.int .i64 0,.string ⟨#[]⟩,.int .i64 0]).cells n++Builtin.zeroCells (Value.agg #[.int .i64 0,.string ⟨#[]⟩,.int .i64 0]).cells (grownCap w n 0 177-n)) 177)):=fun ty=>by
  have hold:(Builtin.firstCells i0.size 0 (.slice none 0 0)).run prog w.drew=.ok ([]:List Value).toArray w.drew:=run_firstCells_none w.drew i0.size 0 0 0;have h:=Lib.run_append_grow_zeros w 53 3 ty 177 i0 _ .i64 .i64 Tryz.underlying53 Tryz.underlying3 hi hz0 none 0 0 [] hold n h1 (by omega) (by omega) (by omega) (by rw[hz2];omega) (growslice_fits (by omega) (by rw[hz2];omega));simp only[Nat.zero_add]at h;exact h
 have hGn:n<=grownCap w n 0 177:=grownCap_ge w _ _ _;have hGm:=grownCap_le_maxLen w n 0 177 (by unfold maxLen;omega);generalize grownCap w n 0 177=G at hrz hGn hGm;have hG63:G<=9223372036854775807:=by unfold maxLen at hGm;omega
 have HO:Hid (q9t w.heap.size (.slice (some ⟨w,0,none⟩) 0 G) [] (w.drew.alloc (.cells (#[]++Builtin.zeroCells (Value.agg #[.int .i64 0,.string ⟨#[]⟩,.int .i64 0]).cells n++Builtin.zeroCells (Value.agg #[.int .i64 0,.string ⟨#[]⟩,.int .i64 0]).cells (G-n)) 177))):=by
  refine⟨rfl,.inr ⟨w.heap.size,G,_,rfl,Nat.le_refl _,heap_alloc_new w.drew _,Nat.zero_le _,hGm,?_,rfl⟩⟩;simp only[Array.size_append,size_zeroCells,Array.size_empty];show 0+n*3+(G-n)*3=G*3;omega
 have hni:(0:Int)<(n:Int):=by omega
 generalize(#[]++Builtin.zeroCells (Value.agg #[.int .i64 0,.string ⟨#[]⟩,.int .i64 0]).cells n++Builtin.zeroCells (Value.agg #[.int .i64 0,.string ⟨#[]⟩,.int .i64 0]).cells (G-n))=Z at hrz HO
 clear hi hz0 hz1 hz2 hGm;go_in;go_wp2_with(at_builtin;refine Lib.wpList_append_run _ rfl _ _ _ _ rfl _ _ rfl rfl _ _ (hrz _) ?_);go_ret;exact⟨G,rfl,HO.o,Below.drew (Zb.alloc Zl _)⟩
def y3n(w:World)(a:Option Addr)(ps:List (List Nd)):Prop:=
 ∀i(h:i<ps.length),∃b o a' c',a=some ⟨b,o,none⟩/\b<w.heap.size/\w.cell? ⟨b,o+i,none⟩=some (.slice a' ps[i].length c')/\q3p w a' ps[i]/\(a'=none->ps[i].length=0/\c'=0)
theorem y3n.W{w w':World}{a:Option Addr}{ps:List (List Nd)}(h:y3n w a ps)(hb:Below w w w'):y3n w' a ps:=by
 intro i hi;obtain⟨b,o,a',c',e,hlt,c1,c3,c4⟩:=h i hi;exact⟨b,o,a',c',e,Nat.lt_of_lt_of_le hlt hb.size,(hb.cell (p:=⟨b,_,none⟩) hlt).trans c1,c3.W hb,c4⟩
theorem z7g{ps:List (List Nd)}{i:Nat}(h:i<ps.length):(ps.take (i+1)).flatten=(ps.take i).flatten++ps[i]:=by
 rw[List.take_succ_eq_append_getElem h,List.flatten_append];simp
theorem z4y(ps:List (List Nd))(i:Nat):(ps.take i).flatten.length<=ps.flatten.length:=by
 have h:ps.flatten=(ps.take i).flatten++(ps.drop i).flatten:=by rw[<-List.flatten_append,List.take_append_drop]
 rw[h,List.length_append];omega
structure g4k(w:World)(ps:List (List Nd))(i:Nat)(v:Value)(wr:World):Prop where
 le:i<=ps.length
 o:q9t w.heap.size v (ps.take i).flatten wr
 b:Below w w wr
theorem z5f(ps:List (List Nd))(a:Option Addr)(c:Nat)(w:World)(hP:y3n w a ps)(h0:0<ps.flatten.length)(hl:ps.flatten.length<=900000)(hp:ps.length<=10):
  Calls prog 213 #[.slice a ps.length c] w fun e w'=>∃A c',e=.returned (.slice A ps.flatten.length c')/\q9t w.heap.size (.slice A ps.flatten.length c') ps.flatten w'/\Below w w w':=by
 have HP:Hid (y3n w a ps):=hP;have HG:Hid (Calls prog 241 #[.slice none 0 0,.int .i64 (ps.flatten.length:Int)] w fun e w'=>∃c,e=.returned (.slice (some ⟨w,0,none⟩) 0 c)/\q9t w.heap.size (.slice (some ⟨w,0,none⟩) 0 c) [] w'/\Below w w w'):=j9u ps.flatten.length h0 (by omega) w;clear hP;generalize hN:ps.flatten.length=N at HG h0 hl⊢;have HN:Hid (ps.flatten.length=N):=hN;clear hN;go_in;go_wp2_with fail
 go_loopw [3,11] (fun s x wr=>w=wr/\∃i:Nat,i<=ps.length/\x=.int .i64 (i:Int)/\s=.int .i64 ((ps.take i).flatten.length:Int)) (fun _ x _=>ps.length-(intOf x).toNat)
 case atStart=>exact⟨rfl,0,Nat.zero_le _,rfl,rfl⟩
 case round=>
  obtain⟨rfl,i,hi,rfl,rfl⟩:=hrel;by_cases hlt:i<ps.length
  ·have hii:(i:Int)<(ps.length:Int):=by omega
   obtain⟨b0,o0,A0,c0,rfl,hb0,d0,_,_⟩:=HP.o i hlt;have hft:=congrArg List.length (z7g hlt);rw[List.length_append]at hft;have hfl:=z4y ps (i+1);rw[HN.o]at hfl;have HF:=(show Hid (_=_)from hft);have hs1:(ps.take i).flatten.length+ps[i].length<=900000:=by omega
   clear hft hfl;generalize ps[i].length=pn at HF d0 hs1
   generalize(ps.take i).flatten.length=sn at HF hs1⊢
   have hs2:¬(sn:Int)+(pn:Int)<0:=by omega
   go_wp2;refine⟨⟨trivial,i+1,hlt,by go_num,?_⟩,?_⟩
   ·rw[HF.o];go_num
   ·simp[intOf];omega
  ·have hii:¬(i:Int)<(ps.length:Int):=by omega
   have hie:(ps.take i).flatten.length=N:=by rw[List.take_of_length_le (by omega)];exact HN.o
   rw[hie];clear hie;go_wp2_with fail;refine HG.o.mono ?_;rintro e w1⟨c1,rfl,ho1,b1⟩;have HC1:Hid (g4k w ps 0 (.slice (some ⟨w,0,none⟩) 0 c1) w1):=⟨Nat.zero_le _,ho1,b1⟩;clear ho1 b1;go_wp2_with fail
   go_loopw [6,27] (fun v x w'=>∃(i:Nat)(A:Option Addr)(n c:Nat),x=.int .i64 (i:Int)/\v=.slice A n c/\n=(ps.take i).flatten.length/\g4k w ps i (.slice A n c) w') (fun _ x _=>ps.length-(intOf x).toNat)
   case atStart=>exact⟨0,_,_,_,rfl,rfl,rfl,HC1.o⟩
   case round=>
    obtain⟨i,A,n,c2,rfl,rfl,hn,hC⟩:=hrel;have hfl:=z4y ps i;rw[HN.o,<-hn]at hfl;by_cases hlt:i<ps.length
    ·have hii:(i:Int)<(ps.length:Int):=by omega
     obtain⟨b0,o0,A0,c0,rfl,hb0,d0,hT,hnil⟩:=HP.o.W hC.b i hlt;have hft:=z7g hlt;have hfl2:=z4y ps (i+1);rw[hft,List.length_append,HN.o,<-hn]at hfl2;have HF:=(show Hid (_=_)from hft);have HO:Hid (q9t w.heap.size (.slice A n c2) (ps.take i).flatten wr):=hC.o;have HB:Hid (Below w w wr):=hC.b;have hsz:=hC.b.size;have HT:Hid (q3p wr A0 ps[i]):=hT;have HNI:Hid (A0=none->ps[i].length=0/\c0=0):=hnil;have HL:Hid ((ps.take i).flatten.length=n):=hn.symm;have HPL:Hid (∃m,ps[i].length=m):=⟨_,rfl⟩;generalize hpn:ps[i].length=pn at d0 hfl2 HNI;have HPN:Hid (ps[i].length=pn):=hpn;clear hft hT hnil hn hC hpn HPL hfl;go_wp2_with(at_builtin;refine y3q rfl _ _ rfl w.heap.size _ (ps.take i).flatten rfl HO.o A0 pn ps[i] HPN.o c0 rfl HT.o HNI.o (n+pn) (by rw[HL.o]) (by omega) hsz ?_);intro A3 c3 w3 hown3 hgrow3
     have HX3:Hid (g4k w ps (i+1) (.slice A3 (n+pn) c3) w3):=by
      refine⟨hlt,?_,HB.o.grown hgrow3 hsz (fun k hk=>(World.ownsRow.lt HO.o k hk).1)⟩;rw[HF.o];exact hown3
     clear hown3 hgrow3;go_wp2;refine⟨⟨i+1,A3,n+pn,c3,by go_num,rfl,?_,HX3.o⟩,?_⟩
     ·rw[HF.o,List.length_append,HL.o,HPN.o]
     ·simp[intOf];omega
    ·have hii:¬(i:Int)<(ps.length:Int):=by omega
     have hie:ps.take i=ps:=List.take_of_length_le (by omega);obtain⟨_,ho,hb⟩:=hC;rw[hie]at ho hn;rw[HN.o]at hn;subst hn;have HO:Hid (q9t w.heap.size (.slice A n c2) ps.flatten wr):=ho;have HB:Hid (Below w w wr):=hb;clear ho hb hie;go_wp2;go_ret;exact⟨A,c2,rfl,HO.o,HB.o⟩
end Go.Proofs.YthcpdohdppkmkaaGreatDoor
