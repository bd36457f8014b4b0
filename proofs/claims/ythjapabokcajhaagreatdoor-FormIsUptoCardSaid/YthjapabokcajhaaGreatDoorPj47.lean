/- Texts as one: PgX, OpenT, Laid, LaidS, LaidF. -/
import Derived.Test.YthjapabokcajhaaGreatDoorPj46
import Derived.Test.YthjapabokcajhaaGreatDoorRows
import Derived.Deep.Slices
import Derived.Carry
import Derived.RowKit
import Derived.SizedLaws
import Derived.ChangeSame
import Derived.ChangeVars
import Derived.JoinedOf
import Derived.LaidLaws
import Derived.LaidHandle
import Derived.Stop.Joined
import Derived.Lay
import Derived.LaidMore
import Derived.LaidSub
import Derived.LaidOnce
open Go.Proofs.Tryz
namespace Go.Proofs.YthjapabokcajhaaGreatDoor
open Go Go.RowKit
set_option maxRecDepth 100000
set_option maxHeartbeats 8000000
theorem v7s{n:Nat}(h1:10<=n)(h2:n<=100)(w:World):Calls prog 28 #[.int .i64 (n:Int)] w fun e w'=>e=.returned .nilIface/\w=w':=by
 have h3:¬(n:Int)<10:=by omega
 have h4:¬100<(n:Int):=by omega
 go_in;go_wp2;go_ret;exact⟨rfl,rfl⟩
theorem y5e{wd:Int}(h:wd<10\/100<wd)(w:World):Calls prog 28 #[.int .i64 wd] w fun e w'=>e=.returned (.iface 23 (.int .i64 1))/\w=w':=by
 by_cases h1:wd<10
 ·go_in;go_wp2;go_ret;exact⟨rfl,rfl⟩
 ·have h2:100<wd:=by omega
  go_in;go_wp2;go_ret;exact⟨rfl,rfl⟩
theorem j8c{t:List Td}(h:q0b t=0)(h9:opT t=9)(n:Nat)(hw1:10<=n)(hw2:n<=100)(a:Option Addr)(cap:Nat)(w:World)(hc:t.length<=cap)(hN:Tds w a t)(hsz:j1b t)(ht:z5t w):
  Calls prog 30 #[.slice a t.length cap,.int .i64 (n:Int)] w fun e w'=>e=.returned (.tuple #[.string (wbS (z3c n t)),.nilIface])/\Below w w w':=by
 obtain⟨_,_,e1,e2⟩:=z8p h h9;have hnf:=k4i h h9;rw[z4m h h9]
 have HLN:Hid (Calls prog 68 #[.slice a t.length cap] w fun e w'=>(∃A c,e=.returned (.tuple #[.slice A (q0e (btL (txT t))).length c,.nilIface])/\Wds w' A ((q0e (btL (txT t))).map wbS)/\(q0e (btL (txT t))).length<=c)/\Below w w w'):=by
  refine(k3w t a cap w ht hc hN hsz).mono ?_;rintro e w'⟨⟨A,c,he,hW,hl⟩,hb⟩;rw[e2]at hW hl;rw[List.length_map]at hl;exact⟨⟨A,c,by rw[he,e1,e2,q1m,List.length_map],hW,hl⟩,hb⟩
 have HFP:Hid (∀(W:World)(A:Option Addr)(c:Nat),(q0e (btL (txT t))).length<=c->Wds W A ((q0e (btL (txT t))).map wbS)->Calls prog 69 #[.slice A (q0e (btL (txT t))).length c,.int .i64 ((n:Int)-2)] W fun e w'=>(∃L c,e=.returned (.tuple #[.slice L (q1q (n-2) ((q0e (btL (txT t))).map wbS)).length c,.nilIface])/\q2r W (.slice L (q1q (n-2) ((q0e (btL (txT t))).map wbS)).length c) (q1q (n-2) ((q0e (btL (txT t))).map wbS)) w')/\Below W W w'):=fun W A c q1 q2=>j3q hnf n hw1 hw2 A c W q1 q2
 have hF:=z8z hnf;by_cases h0:q0e (btL (txT t))=[]
 ·have HL:Hid (ntL n (txT t)=[35,10]):=(show _=_ by rw[ntL,if_pos h0]);generalize ntL n (txT t)=L at HL⊢;rw[h0]at HLN HFP;simp only[List.map_nil,q4c,List.length_nil]at HLN HFP;clear hN hsz ht e1 e2 hnf h h9 hF h0;go_in;go_wp2_with fail;refine HLN.o.mono ?_;rintro e w1⟨⟨A1,c1,rfl,hW1,hc1⟩,b1⟩;have HB1:=hid b1;have HF1:=hid (HFP.o w1 A1 c1 hc1 hW1);clear b1 hW1 hc1 HFP HLN;go_wp2_with fail;refine HF1.o.mono ?_;rintro e w2⟨⟨A2,c2,rfl,_⟩,b2⟩;have HB2:=hid (q0d HB1.o Zl b2);clear b2;go_wp2;go_ret2;exact⟨by rw[HL.o];rfl,HB2.o⟩
 ·have hls:=q7s (n-2) _ ((q0e (btL (txT t))).map wbS) Zl;have hl60:=hF.1
  have hne:q1q (n-2) ((q0e (btL (txT t))).map wbS)≠[]:=by
   rw[q3t _ (by simpa using h0)];simp
  have HL:Hid (wbS (ntL n (txT t))=(⟨#[35,32]⟩:ByteArray)++wbS (Lib.join ((q1q (n-2) ((q0e (btL (txT t))).map wbS)).map fun x=>x.data.toList) [10,35,32])++(⟨#[10]⟩:ByteArray)):=by
   show _=_;rw[k6w n h0,<-q1t,<-q1t];rfl
  have hLl:=j7f hnf n
  have hjl:(wbS (Lib.join ((q1q (n-2) ((q0e (btL (txT t))).map wbS)).map fun x=>x.data.toList) [10,35,32])).size<=100000:=by
   rw[k6w n h0,List.length_append,List.length_append]at hLl;rw[z2q];omega
  have hnl0:=List.length_pos_iff.2 h0;generalize ntL n (txT t)=L at HL⊢;generalize q1q (n-2) ((q0e (btL (txT t))).map wbS)=ls at HFP HL hls hjl hne
  have HJ:Hid (∀(W:World)(A:Option Addr)(c B:Nat),q2r B (.slice A ls.length c) ls W->Calls prog 70 #[.slice A ls.length c,.string ⟨#[10,35,32]⟩] W fun e w'=>e=.returned (.string (wbS (Lib.join (ls.map fun x=>x.data.toList) [10,35,32])))/\Below W W w'):=fun W A c B hS=>by
   obtain⟨_,q2,hA⟩:=z4y hS;have hlp:=List.length_pos_iff.2 hne;rcases hA with⟨_,q,_⟩|⟨g,rfl,hg⟩
   ·omega
   ·refine join_sh g 0 c ls ⟨#[10,35,32]⟩ W ?_ hg (by omega) q2 ?_
    ·intro j x hx;obtain⟨hj,rfl⟩:=List.getElem?_eq_some_iff.1 hx;obtain⟨b',o',e,_,c1⟩:=q4g hS j hj;simp only[Option.some.injEq,Addr.mk.injEq,and_true]at e;obtain⟨rfl,rfl⟩:=e;exact c1
    ·rw[z2q]at hjl
     show(Lib.join (ls.map fun x=>x.data.toList) [10,35,32]).length<=_
     omega
  generalize wbS (Lib.join (ls.map fun x=>x.data.toList) [10,35,32])=J at HJ HL hjl
  generalize(q0e (btL (txT t))).map wbS=ws at HLN HFP
  generalize(q0e (btL (txT t))).length=nw at HLN HFP hnl0
  have hnl1:((ls.length:Int)==0)=false:=by
   have:=List.length_pos_iff.2 hne
   simp;omega
  have g1:¬9223372036854775807<2+J.size:=by omega
  have g2:¬9223372036854775807<2+J.size+1:=by omega
  clear hN hsz ht e1 e2 hnf h h9 hF h0 hLl hls hl60 hne;go_in;go_wp2_with fail;refine HLN.o.mono ?_;rintro e w1⟨⟨A1,c1,rfl,hW1,hc1⟩,b1⟩;have HB1:=hid b1;have HF1:=hid (HFP.o w1 A1 c1 hc1 hW1);clear b1 hW1 hc1 HFP HLN;go_wp2_with fail;refine HF1.o.mono ?_;rintro e w2⟨⟨A2,c2,rfl,hS2⟩,b2⟩;have HB2:=hid (q0d HB1.o Zl b2);have HJ2:=hid (HJ.o w2 A2 c2 _ hS2);clear b2 hS2 HJ HF1;generalize ls.length=nl at HJ2 hnl1⊢;go_wp2_with fail;refine HJ2.o.mono ?_;rintro e w3⟨rfl,b3⟩;have HB3:=hid (q0d HB2.o Zl b3);clear b3;go_wp2;go_ret2;exact⟨by rw[HL.o];rfl,HB3.o⟩
theorem k9t{t:List Td}(h:q0b t=0)(h9:opT t≠9)(n:Nat)(hw2:n<=100)(a:Option Addr)(cap:Nat)(w:World)(hc:t.length<=cap)(hN:Tds w a t)(hsz:j1b t)(ht:z5t w):
  Calls prog 31 #[.slice a t.length cap,.int .i64 (n:Int)] w fun e w'=>e=.returned (.tuple #[.string (if pgE t=0 then wbS (z3c n t)else⟨#[]⟩),q1y (pgE t)])/\Below w w w':=by
 have HLD:Hid (Calls prog 18 #[.slice a t.length cap] w fun e w'=>(∃A c,e=.returned (.tuple #[.slice A (q8o t).length c,q1y (q9a t)])/\q1u w' A (q8o t)/\(q8o t).length<=c)/\Below w w w'):=k9d t a cap w ht.pow hc hN hsz;rw[k4q h h9,z9c h h9];by_cases h0:q9a t=0
 ·have HBP:Hid (∀(W:World)(A:Option Addr)(c:Nat),(q8o t).length<=c->q1u W A (q8o t)->Calls prog 71 #[.slice A (q8o t).length c,.int .i64 (n:Int)] W fun e w'=>(∃s wa wl wc,∃q1 q2:Int,e=.returned (.tuple #[.string (wbS s),.slice wa wl wc,.agg #[.int .i64 q1,.int .i64 q2],.nilIface])/\dcL n t=s++[10]/\s.length<=20000)/\Below W W w'):=fun W A c q1 q2=>j1z h0 n hw2 A c W q1 q2
  rw[if_pos h0,h0,q1m];rw[h0,q1m]at HLD;generalize dcL n t=L at HBP⊢;generalize q8o t=xs at HLD HBP;clear hN hsz ht h h9 h0;go_in;go_wp2_with fail;refine HLD.o.mono ?_;rintro e w1⟨⟨A1,c1,rfl,hN1,hc1⟩,b1⟩;have HB1:=hid b1;have HP1:Hid (Calls prog 71 #[.slice A1 xs.length c1,.int .i64 (n:Int)] w1 fun e w'=>(∃s wa wl wc,∃q1 q2:Int,e=.returned (.tuple #[.string (wbS s),.slice wa wl wc,.agg #[.int .i64 q1,.int .i64 q2],.nilIface])/\L=s++[10]/\s.length<=20000)/\Below w1 w1 w'):=HBP.o w1 A1 c1 hc1 hN1;clear b1 hN1 hc1 HBP HLD;generalize xs.length=nx at HP1⊢;go_wp2_with fail;refine HP1.o.mono ?_;rintro e w2⟨⟨s,wa,wl,wc,q1,q2,rfl,hL,hsl⟩,b2⟩;have HB2:Hid (Below w w w2):=q0d HB1.o Zl b2;have HLS:Hid (wbS L=wbS s++(⟨#[10]⟩:ByteArray)):=(show _=_ by rw[hL,<-q1t];rfl);have hss:(wbS s).size<=20000:=by rw[z2q];exact hsl
  clear b2 hL hsl HP1;generalize wbS s=S at HLS hss⊢;have g1:¬9223372036854775807<S.size+1:=by omega
  go_wp2;go_ret2;exact⟨by rw[HLS.o];rfl,by first|exact HB2.o|exact q0d HB2.o Zl (q3p w2 _)⟩
 ·rw[if_neg h0];have HE:=(show Hid (_=_)from q0w h0);generalize q1y (q9a t)=E at HLD HE⊢;generalize q8o t=xs at HLD;generalize q9a t=z at HE;clear hN hsz ht h h9 h0;go_in;go_wp2_with fail;refine HLD.o.mono ?_;rintro e w1⟨⟨A1,c1,rfl,_,_⟩,b1⟩;rw[HE.o];generalize xs.length=nx;go_wp2;go_ret2;exact⟨by rw[HE.o];rfl,b1⟩
theorem j7o:y3f:=by
 intro t a cap wd w hc hN hsz ht;by_cases hw:wd<10\/100<wd
 ·have HW:=hid (y5e hw w);have e1:z5w t wd=1:=by rw[z5w,if_pos hw]
  rw[z2a (by rw[e1];decide),e1];clear hN hsz ht e1 hw;go_in;go_wp2_with fail;refine HW.o.mono ?_;rintro e w1⟨rfl,rfl⟩;go_wp2;go_ret2;exact⟨rfl,Below.refl _ _⟩
 ·obtain⟨n,rfl⟩:∃n:Nat,wd=(n:Int):=⟨wd.toNat,by omega⟩;have hw1:10<=n:=by omega
  have hw2:n<=100:=by omega
  have HW:=hid (v7s hw1 hw2 w);have HC:=hid (q7c t a cap w hc hN hsz);by_cases h0:q0b t=0
  ·obtain⟨hpos,b,o,rfl,hb,c1,c2⟩:=z4o h0 hN;have HCE:Hid (∀W:World,Below w w W->W.cell? ⟨b,o,none⟩=some (.int .i64 (opT t))):=fun W h=>((q1v h).1 _ _ hb).trans c1
   have hpi:(0:Int)<(t.length:Int):=by omega
   have e1:=k4l hw h0;rw[h0]at HC;by_cases h9:opT t=9
   ·have HPN:Hid (∀W:World,Below w w W->Calls prog 30 #[.slice (some ⟨b,o,none⟩) t.length cap,.int .i64 (n:Int)] W fun e w'=>e=.returned (.tuple #[.string (wbS (z3c n t)),.nilIface])/\Below W W w'):=fun W h=>j8c h0 h9 n hw1 hw2 _ cap W hc (hN.below h) hsz (ht.below h)
    rw[h9]at HCE;rw[k4m (by rw[e1];exact z9f h9),e1,z9f h9,q1m];clear hN hsz ht e1 hw c1 c2 h0 h9;generalize wbS (z3c n t)=S at HPN⊢;go_in;go_wp2_with fail;refine HW.o.mono ?_;rintro e w1⟨rfl,rfl⟩;go_wp2_with fail;refine HC.o.mono ?_;rintro e w2⟨rfl,b2⟩;rw[q1m];have c2:=HCE.o w2 b2;have HB2:=hid b2;clear b2;go_wp2_with fail;refine(HPN.o _ HB2.o).mono ?_;rintro e w3⟨rfl,b3⟩;have HB3:=hid (q0d HB2.o Zl b3);clear b3 c2;go_wp2;go_ret2;exact⟨rfl,HB3.o⟩
   ·have HPN:Hid (∀W:World,Below w w W->Calls prog 31 #[.slice (some ⟨b,o,none⟩) t.length cap,.int .i64 (n:Int)] W fun e w'=>e=.returned (.tuple #[.string (k7a t (n:Int)),q1y (z5w t (n:Int))])/\Below W W w'):=fun W h=>by
     have h1:=k9t h0 h9 n hw2 (some ⟨b,o,none⟩) cap W hc (hN.below h) hsz (ht.below h);have e2:(if pgE t=0 then wbS (z3c n t)else⟨#[]⟩)=k7a t (n:Int):=by rw[k7a,e1];rfl
     rw[e2,<-e1]at h1;exact h1
    have h9b:(opT t==9)=false:=by simp[h9]
    clear hN hsz ht e1 hw c1 c2 h0 h9;generalize opT t=op0 at HCE h9b;generalize k7a t (n:Int)=S at HPN⊢;generalize q1y (z5w t (n:Int))=E at HPN⊢;go_in;go_wp2_with fail;refine HW.o.mono ?_;rintro e w1⟨rfl,rfl⟩;go_wp2_with fail;refine HC.o.mono ?_;rintro e w2⟨rfl,b2⟩;rw[q1m];have c2:=HCE.o w2 b2;have HB2:=hid b2;clear b2;go_wp2_with fail;refine(HPN.o _ HB2.o).mono ?_;rintro e w3⟨rfl,b3⟩;have HB3:=hid (q0d HB2.o Zl b3);clear b3 c2;go_wp2;go_ret2;exact⟨rfl,HB3.o⟩
  ·have e1:z5w t (n:Int)=q0b t:=by rw[z5w,if_neg hw,if_pos h0]
   rw[z2a (by rw[e1];exact h0),e1];have HE:=hid (q0w h0);generalize q1y (q0b t)=E at HC HE⊢;generalize q0b t=z at HE;clear hN hsz ht e1 hw h0;go_in;go_wp2_with fail;refine HW.o.mono ?_;rintro e w1⟨rfl,rfl⟩;go_wp2_with fail;refine HC.o.mono ?_;rintro e w2⟨rfl,b2⟩;rw[HE.o];go_wp2;go_ret2;exact⟨by rw[HE.o];rfl,b2⟩
structure y7e(ps:List (List Td))(n:Nat)(w0:World)(i:Nat)(wr:World):Prop where
 le:i<=ps.length
 z:fmE (ps.drop i)=fmE ps
 x:IsX 81 w0.heap.size w0.heap.size (Lib.byteCells (q9i n (ps.take i))) [] wr
 bl:Below w0 w0 wr
 ln:(q9i n (ps.take i)).length<=i*2000001
theorem y8c:z7r 81 2:=by unfold z7r;kernel_rfl
theorem y9d:81≠5:=by decide
theorem v4b{s:ByteArray}{ps:List (List Td)}{k:Int}(h:q8j s ps k 0):∀t∈ps,j1b t:=fun t ht x hx=>Nat.le_trans (j8d (q4p h).2.1 t ht x hx) (by decide)
theorem v3x{ps:List (List Td)}{i:Nat}(h:i<ps.length):ps.drop i=ps[i]::ps.drop (i+1):=List.drop_eq_getElem_cons h
theorem v3y{ps:List (List Td)}{i:Nat}(wd:Nat)(h:i<ps.length):q9i wd (ps.take (i+1))=q9i wd (ps.take i)++z3c wd ps[i]:=by
 rw[q9i,List.take_succ_eq_append_getElem h,List.flatMap_append];simp[q9i]
theorem v9s:y3a:=by
 intro s wd w ht;by_cases hw:wd<10\/100<wd
 ·have HW:=hid (y5e hw w);have HR:Hid (z9y s wd w (.returned (.tuple #[.string ⟨#[]⟩,.int .i64 0,q1y 1])) w):=⟨_,_,_,rfl,.range hw,Below.refl _ _⟩;clear ht hw;go_in;go_wp2_with fail;refine HW.o.mono ?_;rintro e w1⟨rfl,rfl⟩;go_wp2;go_ret3;exact HR.o
 ·obtain⟨n,rfl⟩:∃n:Nat,wd=(n:Int):=⟨wd.toNat,by omega⟩;have hw1:10<=n:=by omega
  have hw2:n<=100:=by omega
  have HNW:=hid hw;have HW:=hid (v7s hw1 hw2 w);have HSY:=hid (k2k s w ht);have HT:=hid ht;clear ht hw;go_in;go_wp2_with fail;refine HW.o.mono ?_;rintro e w1⟨rfl,rfl⟩;go_wp2_with fail;refine HSY.o.mono ?_;rintro e w2⟨ps,k,f,A,c,rfl,hR,hP,_,b2⟩;have HB2:=hid b2;by_cases hf:f=0
  ·subst hf;obtain⟨rfl,_,hl20,hall⟩:=q4p hR;have HNI:=(show Hid (∀t∈ps,j1b t)from v4b hR);have HALL:=hid hall;have HRR:=hid hR;have HP:=hid hP;have HT2:=hid (HT.o.below b2);have HS0:Hid (y7e ps n w2 0 (w2.alloc (.cells #[.pointer none,.slice none 0 0] 81))):=⟨Nat.zero_le _,rfl,IsX.fresh 81 w2 [],q3p w2 _,by simp[q9i]⟩;rw[q1m];clear hR hP b2 hall;generalize hnp:ps.length=np at hl20⊢;have HNP:=hid hnp;clear hnp;go_wp2_with fail
   go_loopw [31] (fun x wr=>∃i:Nat,x=.int .i64 (i:Int)/\y7e ps n w2 i wr) (fun x _=>np-(intOf x).toNat)
   case atStart=>exact⟨0,rfl,HS0.o⟩
   case round=>
    obtain⟨i,rfl,hV⟩:=hrel;have hll:=HNP.o;have hle:=hV.le;have hln:=hV.ln;by_cases hlt:i<np
    ·have hii:(i:Int)<(np:Int):=by omega
     have hip:i<ps.length:=by omega
     obtain⟨b0,o0,A0,c0,rfl,hb0,d0,hc0,hT0⟩:=(HP.o.below hV.bl) i hip;have ht0:=HALL.o ps[i] (List.getElem_mem _);have HO1:=hid (j7o ps[i] A0 c0 (n:Int) wr hc0 hT0 (HNI.o ps[i] (List.getElem_mem _)) (HT2.o.below hV.bl));have e1:=k4l HNW.o ht0;have hdr:=v3x hip;have hz0:=hV.z;rw[hdr]at hz0;have HZ:=(show Hid (_=_)from hz0);have HFO:=(show Hid (_=_)from v3y (ps:=ps) n hip);have HV:=hid hV;by_cases hz:pgE ps[i]=0
     ·have hol:=j7q ht0 hz n;rw[k4m (by rw[e1];exact hz),e1,hz,q1m]at HO1
      have HNX:Hid (∀W,Below wr wr W->Calls prog 38 #[.pointer (some ⟨w2.heap.size,0,none⟩),.string (wbS (z3c n ps[i]))] W fun e w'=>(∃z,e=.returned (.tuple #[z,.nilIface]))/\y7e ps n w2 (i+1) w'):=fun W hb=>by
       have hsz:=hV.bl.size;refine(z5m 81 w2.heap.size w2.heap.size (Lib.byteCells (q9i n (ps.take i))) [] (wbS (z3c n ps[i])) W y8c y9d (hV.x.grew hb) (by rw[Lib.byteCells_length,z2q];omega) (by have:=hb.size;omega)).mono ?_;rintro e w'⟨rfl,q1,q2,_⟩;refine⟨⟨_,rfl⟩,by omega,?_,?_,?_,?_⟩
       ·have:=HZ.o
        rw[k6e hz]at this;exact this
       ·rw[HFO.o,z8b];exact q1
       ·exact(q0d hV.bl Zl hb).trans (q2.below Zl)
       ·rw[HFO.o,List.length_append];omega
      clear hV hdr hz0 ht0 hT0 hc0 e1 hz hol HZ HFO;generalize wbS (z3c n ps[i])=S at HO1 HNX;generalize ps[i].length=tn at d0 HO1;go_wp2_with fail;refine HO1.o.mono ?_;rintro e w3⟨rfl,b3⟩;have HB3:=hid b3;clear b3;go_wp2_with fail;refine(HNX.o _ HB3.o).mono ?_;rintro e w4⟨⟨q,rfl⟩,h4⟩;have HX4:=hid h4;clear h4;go_wp2;refine⟨⟨i+1,by go_num,HX4.o⟩,?_⟩;simp[intOf];omega
     ·have HR:Hid (∀W,Below wr wr W->z9y s (n:Int) w (.returned (.tuple #[.string ⟨#[]⟩,.int .i64 0,q1y (pgE ps[i])])) W):=fun W hb=>by
       have q:=HZ.o;rw[j4b hz]at q;have q2:=z5y.full HNW.o HRR.o (by rw[<-q];exact hz);rw[<-q]at q2;exact⟨_,_,_,rfl,q2,q0d HB2.o Zl (q0d hV.bl Zl hb)⟩
      have HE:=(show Hid (_=_)from q0w hz);rw[z2a (by rw[e1];exact hz),e1]at HO1;clear hV hdr hz0 ht0 hT0 hc0 e1 hz HZ HFO;generalize q1y (pgE ps[i])=E at HO1 HR HE;generalize pgE ps[i]=z at HE;generalize ps[i].length=tn at d0 HO1;go_wp2_with fail;refine HO1.o.mono ?_;rintro e w3⟨rfl,b3⟩;have HR3:=hid (HR.o w3 b3);clear b3;rw[HE.o];go_wp2;go_ret3;rw[<-HE.o];exact HR3.o
    ·have hii:¬(i:Int)<(np:Int):=by omega
     have hie:ps.take i=ps:=List.take_of_length_le (by omega);have hid:ps.drop i=[]:=List.drop_eq_nil_of_le (by omega);have hz:=hV.z;rw[hid]at hz;have hx:=hV.x;rw[hie]at hx;have HO:Hid (Calls prog 39 #[.pointer (some ⟨w2.heap.size,0,none⟩)] wr fun e w'=>e=.returned (.string (wbS (q9i n ps)))/\Below w2 wr w'):=k7y _ _ _ _ _ _ hx;have HR:Hid (∀W,Below w2 wr W->z9y s (n:Int) w (.returned (.tuple #[.string (wbS (q9i n ps)),.int .i64 0,q1y 0])) W):=fun W hb=>⟨_,_,_,rfl,.ok HNW.o HRR.o hz.symm,q0d HB2.o Zl (hV.bl.trans hb)⟩
     clear hV hie hid hz hx;generalize wbS (q9i n ps)=S at HO HR;go_wp2_with fail;refine HO.o.mono ?_;rintro e w3⟨rfl,b3⟩;have HR3:=hid (HR.o w3 b3);clear b3;go_wp2;go_ret3;exact HR3.o
  ·have HR:Hid (z9y s (n:Int) w (.returned (.tuple #[.string ⟨#[]⟩,.int .i64 k,q1y f])) w2):=⟨_,_,_,rfl,.bad HNW.o hR hf,b2⟩;have HE:=(show Hid (_=_)from q0w hf);generalize q1y f=E at HR HE⊢;clear hR hP b2 hf;rw[HE.o];generalize ps.length=np;go_wp2;go_ret3;rw[<-HE.o];exact HR.o
end Go.Proofs.YthjapabokcajhaaGreatDoor
namespace Go.Proofs.YthjapabokcajhaaGreatDoor
open Go Go.ChangeShapes Go.WideShapes Go.RowKit
theorem v2w:laidOutB prog=true:=by kernel_rfl
theorem j2n:prog.cellsOf 47=3:=by kernel_rfl
theorem v9e:prog.cellsOf 3=1:=by kernel_rfl
theorem v9f:prog.cellsOf 9=1:=by kernel_rfl
theorem j1l(b o n:Nat):(⟨b,o,none⟩:Addr).add n=⟨b,o+n,none⟩:=by
 unfold Addr.add
 split
 ·rename_i h;subst h;rfl
 ·rfl
theorem v7z{α:Type}{l:List α}(h:l.length=3):∃a b c,l=[a,b,c]:=by
 match l,h with
 | [a,b,c],_=>exact⟨a,b,c,rfl⟩
theorem k0k{H:Type}{d:DataW H}{l:List (DataW H)}(h:d∈l):Rows.uptoBulk d<=Rows.uptoBulkAll l:=by
 induction l with
 | nil=>cases h
 | cons x r ih=>
  simp only[Rows.uptoBulkAll];cases List.mem_cons.1 h with
  | inl e=>subst e;omega
  | inr e=>have:=ih e;omega
theorem k8k{H:Type}{d:DataW H}{l s:List (DataW H)}(h:d∈l):Rows.uptoBulk d<=Rows.uptoBulk (.slice l s):=by
 have:=k0k h
 simp only[Rows.uptoBulk];omega
section
variable {H:Type} {enc:TypeId × Value→H} {W:World}
theorem z1f{P:Program}{e:TypeId}:∀{l:List (DataW H)}{d:DataW H},d∈l->∀n∈d.weights P e,n∈DataW.weightsAll P e l
 | d'::r,d,hd,n,hn=>by
  simp only[DataW.weightsAll,List.mem_append];rcases List.mem_cons.1 hd with rfl|h
  ·exact Or.inl hn
  ·exact Or.inr (z1f h n hn)
theorem k4o{fuel:Nat}{a0:Option Addr}{l0 c0:Nat}{d:DataW H}{p:List MemPlace}(hf:DataW.trod enc prog W 0 (fun _=>true) true fuel 22 [.slice a0 l0 c0]=some (d,p)):
  ∃ds:List Td,l0=ds.length/\ds.length<=c0/\Tds W a0 ds/\∀x∈ds,x.tx.size<=Rows.uptoBulk d/\x.tx.size∈d.weights prog 22:=by
 rcases Deep.open_slice Tryz.underlying22 hf with⟨h1,_⟩|⟨a,len,cap,m,n,D,Pl,h1,_,hl,_,hm,hd,hx⟩
 ·simp only[List.cons.injEq,and_true,Value.slice.injEq]at h1;obtain⟨rfl,rfl,rfl⟩:=h1;exact⟨[],rfl,Nat.le_refl _,fun i hi=>by simp at hi,fun x hx=>by cases hx⟩
 ·simp only[List.cons.injEq,and_true,Value.slice.injEq]at h1;obtain⟨rfl,rfl,rfl⟩:=h1;have hlm:l0<=m:=by rw[hm];simp only[if_true];exact hl
  have each:∀i,i<l0->∃x:Td,W.cell? ((a.add (i*3)).add 0)=some (.int .i64 x.op)/\W.cell? ((a.add (i*3)).add 1)=some (.string x.tx)/\W.cell? ((a.add (i*3)).add 2)=some (.int .i64 x.n)/\x.tx.size<=Rows.uptoBulk (D i)/\x.tx.size∈(D i).weights prog 47:=by
   intro i hi;obtain⟨cs',g1,g2⟩:=hx i (by omega);rw[j2n]at g1;obtain⟨_,hlen,hcell⟩:=World.cells?_some g1;obtain⟨xs,k,_,hxd,_,hxl,hfl⟩:=DataW.trod_struct Tryz.underlying47 g2;have hfl0:=hfl 0 _ rfl;have hfl1:=hfl 1 _ rfl;have hfl2:=hfl 2 _ rfl;obtain⟨y0,y1,y2,rfl⟩:=v7z hxl;obtain⟨v0,v1,v2,rfl⟩:=v7z hlen;clear hxl hlen;simp[v9e,v9f]at hfl0 hfl1 hfl2;obtain⟨z0,e0,_,_⟩:=DataW.trod_int Tryz.underlying3 hfl0;obtain⟨s1,e1,e1d,_⟩:=DataW.trod_string Tryz.underlying9 hfl1;obtain⟨z2,e2,_,_⟩:=DataW.trod_int Tryz.underlying3 hfl2;simp only[List.cons.injEq,and_true]at e0 e1 e2;subst e0 e1 e2;refine⟨⟨z0,s1,z2⟩,hcell 0 (by omega),hcell 1 (by omega),hcell 2 (by omega),?_⟩;have hD:D i=.agg ([y0,y1,y2].map (·.1)):=(Prod.mk.inj hxd).1;rw[hD,e1d];have e:s1.data.toList.length=s1.size:=by rw[Array.length_toList];rfl
   refine⟨?_,?_⟩
   ·simp only[List.map_cons,List.map_nil,Rows.uptoBulk,Rows.uptoBulkAll];omega
   ·simp only[DataW.weights,Tryz.underlying47];refine DataW.weights_mem_each (j:=1) (t:=9) rfl rfl _ ?_;rw[<-e];exact List.mem_singleton.2 rfl
  have inh:Inhabited Td:=⟨⟨0,⟨#[]⟩,0⟩⟩;obtain⟨q,hq⟩:=Deep.choose_lt each;refine⟨(List.range l0).map q,by simp,by simpa using hl,?_,?_⟩
  ·intro i hi;have hi':i<l0:=by simpa using hi
   obtain⟨c0,c1,c2,_,_⟩:=hq i hi';obtain⟨c00,_,_,_,_⟩:=hq 0 (by omega)
   have hs:a.spot=none:=by
    have:=World.cell?_spot c00
    simpa[Addr.add]using this
   obtain⟨b,o,sp⟩:=a;simp only at hs;subst hs;simp only[j1l,Nat.add_zero]at c0 c1 c2
   have hb:b<W.heap.size:=by
    rcases Nat.lt_or_ge b W.heap.size with h'|h'
    ·exact h'
    ·simp[World.cell?,Array.getElem?_eq_none h']at c0
   refine⟨b,o,rfl,hb,?_,?_,?_⟩
   ·simpa using c0
   ·simpa using c1
   ·simpa using c2
  ·intro x hx;obtain⟨i,hi,rfl⟩:=List.mem_map.1 hx;have hi':=List.mem_range.1 hi;obtain⟨_,_,_,h4,h6⟩:=hq i hi';have hd':d=_:=(Prod.mk.inj hd).1
   have h5:Rows.uptoBulk (D i)<=Rows.uptoBulk d:=by
    rw[hd'];exact k8k (List.mem_map.2 ⟨i,hi,rfl⟩)
   refine⟨by omega,?_⟩;rw[hd'];simp only[DataW.weights,Tryz.underlying22];exact List.mem_cons_of_mem _ (List.mem_append_left _ (z1f (List.mem_map.2 ⟨i,hi,rfl⟩) _ h6))
theorem k4n{fuel:Nat}{a0:Option Addr}{l0 c0:Nat}{d:DataW H}{p:List MemPlace}(hf:DataW.trod enc prog W 0 (fun _=>true) true fuel 22 [.slice a0 l0 c0]=some (d,p)):
  ∃ds:List Td,l0=ds.length/\ds.length<=c0/\Tds W a0 ds/\∀x∈ds,x.tx.size<=Rows.uptoBulk d:=by
 obtain⟨ds,h1,h2,h3,h4⟩:=k4o hf;exact⟨ds,h1,h2,h3,fun x hx=>(h4 x hx).1⟩
theorem k9r{a0:Option Addr}{l0 c0:Nat}{d:DataW H}{p:List MemPlace}(h:DataW.Trod enc prog W 0 (fun _=>true) true 22 (.slice a0 l0 c0) d p):
  ∃ds:List Td,l0=ds.length/\ds.length<=c0/\Tds W a0 ds/\∀x∈ds,x.tx.size<=Rows.uptoBulk d:=by
 obtain⟨fuel,hf⟩:=h;exact k4n hf
end
end Go.Proofs.YthjapabokcajhaaGreatDoor
namespace Go.Proofs.YthjapabokcajhaaGreatDoor
open Go.ChangeShapes Go.WideShapes Go.RowKit
theorem Tryz.own:ownKnob prog.godebug=none:=by kernel_rfl
theorem Tryz.et : prog.globalNamed "errors.errorType" = some 0 := by kernel_rfl
theorem Tryz.rt : (prog.cutTypes.find? (·.1 == "internal/reflectlite.rtype")).map (·.2) = some 227 := by kernel_rfl
theorem Tryz.oneRow:((List.range 371).filter fun t=>prog.rowNamed t [101,114,114,111,114])=[29]:=by kernel_rfl
theorem Tryz.size:prog.types.size=371:=by kernel_rfl
abbrev y0a : List (String × DataW Unit) := [("errors.errorType", Rows.laid_errors_errorType)]
theorem z5v{W:World}(h:laidMetH prog y0a W):Hnd W:=by
 have h':laidMet prog [] W/\handlesMet prog y0a W:=h;obtain⟨name,u,ty,e1,e2,e3,e4,e5⟩:=h'.2 _ (List.mem_singleton.2 rfl);have en:name=[101,114,114,111,114]:=(Option.some.inj e1).symm;subst en;obtain rfl:=Option.some.inj (Tryz.rt.symm.trans e2);have hm:ty∈(List.range 371).filter fun t=>prog.rowNamed t [101,114,114,111,114]:=List.mem_filter.2 ⟨List.mem_range.2 (by rw[<-Tryz.size];exact e3),e4⟩
 rw[Tryz.oneRow]at hm;obtain rfl:=List.mem_singleton.1 hm;have hh:typeHandle prog 29=.pointer (some ⟨12,29,none⟩):=by kernel_rfl
 rw[hh]at e5
 have:=World.var?_cell Tryz.et e5 0
 simpa[Hnd]using this
def k0x(P:Program)(os:Os):World:=
 let w0:=World.holding P os ⟨#[],#[],[]⟩
 {w0 with heap:=w0.heap.modify 0 fun
   | .cells _ t frozen=>.cells #[.iface 227 (.agg #[.pointer (some ⟨12,29,none⟩)])] t frozen
   | o=>o}
set_option maxRecDepth 100000
def v4z : List (String × DataW Unit) := [("math/bits.deBruijn32tab", Rows.laid_math_bits_deBruijn32tab), ("math/bits.deBruijn64tab", Rows.laid_math_bits_deBruijn64tab), ("internal/strconv.uint64pow10", Rows.laid_internal_strconv_uint64pow10), ("unicode/utf8.acceptRanges", Rows.laid_unicode_utf8_acceptRanges), ("strconv.ErrRange", Rows.laid_strconv_ErrRange), ("strconv.ErrSyntax", Rows.laid_strconv_ErrSyntax), ("unicode.White_Space", Rows.laid_unicode_White_Space), ("strings.asciiSpace", Rows.laid_strings_asciiSpace), ("unicode/utf8.first", Rows.laid_unicode_utf8_first)]
abbrev y2x : List (String × DataW Unit) := [("math/bits.deBruijn32tab", Rows.laid_math_bits_deBruijn32tab), ("math/bits.deBruijn64tab", Rows.laid_math_bits_deBruijn64tab), ("internal/strconv.uint64pow10", Rows.laid_internal_strconv_uint64pow10), ("unicode/utf8.acceptRanges", Rows.laid_unicode_utf8_acceptRanges), ("errors.errorType", Rows.laid_errors_errorType), ("strconv.ErrRange", Rows.laid_strconv_ErrRange), ("strconv.ErrSyntax", Rows.laid_strconv_ErrSyntax), ("unicode.White_Space", Rows.laid_unicode_White_Space), ("strings.asciiSpace", Rows.laid_strings_asciiSpace), ("unicode/utf8.first", Rows.laid_unicode_utf8_first)]
def q7b(P:Program)(os:Os):World:=(k0x P os).layVars P v4z
theorem v5a(os:Os)(args:Array Value):laidMet prog v4z ((q7b prog os).forCall (fun _ _=>0) ⟨#[],args,[]⟩).memory:=by
 have e1:(v4z.filter fun x=>(v4z.map (·.1)).contains x.1)=v4z:=List.filter_eq_self.2 fun x hx=>List.contains_iff_mem.2 (List.mem_map.2 ⟨x,hx,rfl⟩)
 have e2:(v4z.filter fun x=>!(v4z.map (·.1)).contains x.1)=[]:=List.filter_eq_nil_iff.2 fun x hx=>by rw[List.contains_iff_mem.2 (List.mem_map.2 ⟨x,hx,rfl⟩)];simp
 have h:laidMet prog v4z (q7b prog os):=laidMet_layVars (w0:=k0x prog os) (v4z.map (·.1)) [] (by rw[e1];rfl) (by rw[e1];kernel_rfl) (by rw[e1];kernel_rfl) (by rw[e2];exact LaidIn.none);exact h.of_heap (by simp[World.memory,World.forCall,Input.heap])
theorem j8t(os:Os)(args:Array Value):((q7b prog os).forCall (fun _ _=>0) ⟨#[],args,[]⟩).Shaped prog:=World.shaped_of_ZipB (by kernel_rfl) (by kernel_rfl)
theorem y1t(os:Os)(args:Array Value):laidMetH prog y2x ((q7b prog os).forCall (fun _ _=>0) ⟨#[],args,[]⟩).memory:=
 laidMetH_of_parts (v5a os args) (by kernel_rfl)
theorem j0j{W:World}(h:laidMetH prog y2x W):Hnd W:=by
 have h1 := h.filter (fun x => x.1 == "errors.errorType")
 have e : (y2x.filter fun x => x.1 == "errors.errorType") = y0a := by rfl
 rw[e]at h1;exact z5v h1
theorem v5b{W:World}(h:laidMetH prog y2x W):z5t W:=by
 have h0:=(laidMetH_iff.1 h).1;refine⟨?_,?_⟩
 ·have h1 := h0.filter (fun x => x.1 == "internal/strconv.uint64pow10")
  have e : ((y2x.filter fun x => x.2.handleName?.isNone).filter fun x => x.1 == "internal/strconv.uint64pow10") = [("internal/strconv.uint64pow10", Lib.tabData .u64 Lib.pow10Tab)] := by kernel_rfl
  rw[e]at h1;exact Lib.tabIs_of_head (g:=4) (t:=321) (e:=255) (n:=20) (by kernel_rfl) (by kernel_rfl) (by kernel_rfl) (by kernel_rfl) (by kernel_rfl) (by kernel_rfl) h1
 ·have h1 := h0.filter (fun x => x.1 == "strings.asciiSpace")
  have e : ((y2x.filter fun x => x.2.handleName?.isNone).filter fun x => x.1 == "strings.asciiSpace") = [("strings.asciiSpace", Lib.tabData .u8 Lib.asciiSpaceTab)] := by kernel_rfl
  rw[e]at h1;exact Lib.tabIs_of_head (g:=1) (t:=216) (e:=5) (n:=256) (by kernel_rfl) (by kernel_rfl) (by kernel_rfl) (by kernel_rfl) (by kernel_rfl) (by kernel_rfl) h1
end Go.Proofs.YthjapabokcajhaaGreatDoor
