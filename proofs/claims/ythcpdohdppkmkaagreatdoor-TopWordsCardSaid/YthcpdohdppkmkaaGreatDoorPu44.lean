import Derived.Test.YthcpdohdppkmkaaGreatDoorPu43
import Derived.Test.YthcpdohdppkmkaaGreatDoorPu35
open Go.Proofs.Tryz
namespace Go.Proofs.YthcpdohdppkmkaaGreatDoor
open Go Go.RowKit
set_option maxRecDepth 100000
set_option maxHeartbeats 8000000
theorem v1y{n:Nat}(h1:10<=n)(h2:n<=100)(w:World):Calls prog 46 #[.int .i64 (n:Int)] w fun e w'=>e=.returned .nilIface/\w=w':=by
 have h3:¬(n:Int)<10:=by omega
 have h4:¬100<(n:Int):=by omega
 go_in;go_wp2;go_ret;exact⟨rfl,rfl⟩
theorem g2p{wd:Int}(h:wd<10\/100<wd)(w:World):Calls prog 46 #[.int .i64 wd] w fun e w'=>e=.returned (.iface 22 (.int .i64 1))/\w=w':=by
 by_cases h1:wd<10
 ·go_in;go_wp2;go_ret;exact⟨rfl,rfl⟩
 ·have h2:100<wd:=by omega
  go_in;go_wp2;go_ret;exact⟨rfl,rfl⟩
theorem v1s{t:List Td}(h:q0d t=0)(h9:opT t=9)(n:Nat)(hw1:10<=n)(hw2:n<=100)(a:Option Addr)(cap:Nat)(w:World)(hc:t.length<=cap)(hN:Tds w a t)(hsz:z4e t)(ht:q5u w):
  Calls prog 57 #[.slice a t.length cap,.int .i64 (n:Int)] w fun e w'=>e=.returned (.tuple #[.string (wbS (q4r n t)),.nilIface])/\Below w w w':=by
 obtain⟨_,_,e1,e2⟩:=z9l h h9;have hnf:=v0w h h9;rw[k3s h h9]
 have HLN:Hid (Calls prog 101 #[.slice a t.length cap] w fun e w'=>(∃A c,e=.returned (.tuple #[.slice A (q0j (btL (txT t))).length c,.nilIface])/\Wds w' A ((q0j (btL (txT t))).map wbS)/\(q0j (btL (txT t))).length<=c)/\Below w w w'):=by
  refine(k6j t a cap w ht hc hN hsz).mono ?_;rintro e w'⟨⟨A,c,he,hW,hl⟩,hb⟩;rw[e2]at hW hl;rw[List.length_map]at hl;exact⟨⟨A,c,by rw[he,e1,e2,q0e,List.length_map],hW,hl⟩,hb⟩
 have HFP:Hid (∀(W:World)(A:Option Addr)(c:Nat),(q0j (btL (txT t))).length<=c->Wds W A ((q0j (btL (txT t))).map wbS)->Calls prog 102 #[.slice A (q0j (btL (txT t))).length c,.int .i64 ((n:Int)-2)] W fun e w'=>(∃L c,e=.returned (.tuple #[.slice L (q3f (n-2) ((q0j (btL (txT t))).map wbS)).length c,.nilIface])/\q1j W (.slice L (q3f (n-2) ((q0j (btL (txT t))).map wbS)).length c) (q3f (n-2) ((q0j (btL (txT t))).map wbS)) w')/\Below W W w'):=fun W A c q1 q2=>j7w hnf n hw1 hw2 A c W q1 q2
 have hF:=j0q hnf;by_cases h0:q0j (btL (txT t))=[]
 ·have HL:Hid (ntL n (txT t)=[35,10]):=(show _=_ by rw[ntL,if_pos h0]);generalize ntL n (txT t)=L at HL⊢;rw[h0]at HLN HFP;simp only[List.map_nil,q5z,List.length_nil]at HLN HFP;clear hN hsz ht e1 e2 hnf h h9 hF h0;go_in;go_wp2_with fail;refine HLN.o.mono ?_;rintro e w1⟨⟨A1,c1,rfl,hW1,hc1⟩,b1⟩;have HB1:Hid (Below w w w1):=b1;have HF1:Hid (Calls prog 102 #[.slice A1 0 c1,.int .i64 ((n:Int)-2)] w1 fun e w'=>(∃L c,e=.returned (.tuple #[.slice L 0 c,.nilIface])/\q1j w1 (.slice L 0 c) [] w')/\Below w1 w1 w'):=HFP.o w1 A1 c1 hc1 hW1;clear b1 hW1 hc1 HFP HLN;go_wp2_with fail;refine HF1.o.mono ?_;rintro e w2⟨⟨A2,c2,rfl,_⟩,b2⟩;have HB2:Hid (Below w w w2):=q0c HB1.o Zl b2;clear b2;go_wp2;go_ret2;exact⟨by rw[HL.o];rfl,HB2.o⟩
 ·have hls:=z0k (n-2) _ ((q0j (btL (txT t))).map wbS) Zl;have hl60:=hF.1
  have hne:q3f (n-2) ((q0j (btL (txT t))).map wbS)≠[]:=by
   rw[q5y _ (by simpa using h0)];simp
  have HL:Hid (wbS (ntL n (txT t))=(⟨#[35,32]⟩:ByteArray)++wbS (Lib.join ((q3f (n-2) ((q0j (btL (txT t))).map wbS)).map fun x=>x.data.toList) [10,35,32])++(⟨#[10]⟩:ByteArray)):=by
   show _=_;rw[j0s n h0,<-q9q,<-q9q];rfl
  have hLl:=v0x hnf n
  have hjl:(wbS (Lib.join ((q3f (n-2) ((q0j (btL (txT t))).map wbS)).map fun x=>x.data.toList) [10,35,32])).size<=100000:=by
   rw[j0s n h0,List.length_append,List.length_append]at hLl;rw[q6h];omega
  have hnl0:0<(q0j (btL (txT t))).length:=List.length_pos_iff.2 h0;generalize ntL n (txT t)=L at HL⊢;generalize q3f (n-2) ((q0j (btL (txT t))).map wbS)=ls at HFP HL hls hjl hne
  have HJ:Hid (∀(W:World)(A:Option Addr)(c B:Nat),q1j B (.slice A ls.length c) ls W->Calls prog 103 #[.slice A ls.length c,.string ⟨#[10,35,32]⟩] W fun e w'=>e=.returned (.string (wbS (Lib.join (ls.map fun x=>x.data.toList) [10,35,32])))/\Below W W w'):=fun W A c B hS=>by
   obtain⟨_,q2,hA⟩:=k4f hS;have hlp:=List.length_pos_iff.2 hne;rcases hA with⟨_,q,_⟩|⟨g,rfl,hg⟩
   ·omega
   ·refine join_sh g 0 c ls ⟨#[10,35,32]⟩ W ?_ hg (by omega) q2 ?_
    ·intro j x hx;obtain⟨hj,rfl⟩:=List.getElem?_eq_some_iff.1 hx;obtain⟨b',o',e,_,c1⟩:=q6g hS j hj;simp only[Option.some.injEq,Addr.mk.injEq,and_true]at e;obtain⟨rfl,rfl⟩:=e;exact c1
    ·rw[q6h]at hjl
     show(Lib.join (ls.map fun x=>x.data.toList) [10,35,32]).length<=_
     omega
  generalize wbS (Lib.join (ls.map fun x=>x.data.toList) [10,35,32])=J at HJ HL hjl
  generalize(q0j (btL (txT t))).map wbS=ws at HLN HFP
  generalize(q0j (btL (txT t))).length=nw at HLN HFP hnl0
  have hnl1:((ls.length:Int)==0)=false:=by
   have:=List.length_pos_iff.2 hne
   simp;omega
  have g1:¬9223372036854775807<2+J.size:=by omega
  have g2:¬9223372036854775807<2+J.size+1:=by omega
  clear hN hsz ht e1 e2 hnf h h9 hF h0 hLl hls hl60 hne;go_in;go_wp2_with fail;refine HLN.o.mono ?_;rintro e w1⟨⟨A1,c1,rfl,hW1,hc1⟩,b1⟩;have HB1:Hid (Below w w w1):=b1;have HF1:Hid (Calls prog 102 #[.slice A1 nw c1,.int .i64 ((n:Int)-2)] w1 fun e w'=>(∃L c,e=.returned (.tuple #[.slice L ls.length c,.nilIface])/\q1j w1 (.slice L ls.length c) ls w')/\Below w1 w1 w'):=HFP.o w1 A1 c1 hc1 hW1;clear b1 hW1 hc1 HFP HLN;go_wp2_with fail;refine HF1.o.mono ?_;rintro e w2⟨⟨A2,c2,rfl,hS2⟩,b2⟩;have HB2:Hid (Below w w w2):=q0c HB1.o Zl b2;have HJ2:Hid (Calls prog 103 #[.slice A2 ls.length c2,.string ⟨#[10,35,32]⟩] w2 fun e w'=>e=.returned (.string J)/\Below w2 w2 w'):=HJ.o w2 A2 c2 _ hS2;clear b2 hS2 HJ HF1;generalize ls.length=nl at HJ2 hnl1⊢;go_wp2_with fail;refine HJ2.o.mono ?_;rintro e w3⟨rfl,b3⟩;have HB3:Hid (Below w w w3):=q0c HB2.o Zl b3;clear b3;go_wp2;go_ret2;exact⟨by rw[HL.o];rfl,HB3.o⟩
theorem j3m{t:List Td}(h:q0d t=0)(h9:opT t≠9)(n:Nat)(hw2:n<=100)(a:Option Addr)(cap:Nat)(w:World)(hc:t.length<=cap)(hN:Tds w a t)(hsz:z4e t)(ht:q5u w):
  Calls prog 58 #[.slice a t.length cap,.int .i64 (n:Int)] w fun e w'=>e=.returned (.tuple #[.string (if pgE t=0 then wbS (q4r n t)else⟨#[]⟩),q0s (pgE t)])/\Below w w w':=by
 have HLD:Hid (Calls prog 23 #[.slice a t.length cap] w fun e w'=>(∃A c,e=.returned (.tuple #[.slice A (q2p t).length c,q0s (q7s t)])/\q3p w' A (q2p t)/\(q2p t).length<=c)/\Below w w w'):=z7o t a cap w ht.pow hc hN hsz;rw[k7c h h9,k0c h h9];by_cases h0:q7s t=0
 ·have HBP:Hid (∀(W:World)(A:Option Addr)(c:Nat),(q2p t).length<=c->q3p W A (q2p t)->Calls prog 24 #[.slice A (q2p t).length c,.int .i64 (n:Int)] W fun e w'=>(∃s wa wl wc,∃q1 q2:Int,e=.returned (.tuple #[.string (wbS s),.slice wa wl wc,.agg #[.int .i64 q1,.int .i64 q2],.nilIface])/\dcL n t=s++[10]/\s.length<=2000000)/\Below W W w'):=fun W A c q1 q2=>j5w h0 n hw2 A c W q1 q2
  rw[if_pos h0,h0,q0e];rw[h0,q0e]at HLD;generalize dcL n t=L at HBP⊢;generalize q2p t=xs at HLD HBP;clear hN hsz ht h h9 h0;go_in;go_wp2_with fail;refine HLD.o.mono ?_;rintro e w1⟨⟨A1,c1,rfl,hN1,hc1⟩,b1⟩;have HB1:Hid (Below w w w1):=b1;have HP1:Hid (Calls prog 24 #[.slice A1 xs.length c1,.int .i64 (n:Int)] w1 fun e w'=>(∃s wa wl wc,∃q1 q2:Int,e=.returned (.tuple #[.string (wbS s),.slice wa wl wc,.agg #[.int .i64 q1,.int .i64 q2],.nilIface])/\L=s++[10]/\s.length<=2000000)/\Below w1 w1 w'):=HBP.o w1 A1 c1 hc1 hN1;clear b1 hN1 hc1 HBP HLD;generalize xs.length=nx at HP1⊢;go_wp2_with fail;refine HP1.o.mono ?_;rintro e w2⟨⟨s,wa,wl,wc,q1,q2,rfl,hL,hsl⟩,b2⟩;have HB2:Hid (Below w w w2):=q0c HB1.o Zl b2;have HLS:Hid (wbS L=wbS s++(⟨#[10]⟩:ByteArray)):=(show _=_ by rw[hL,<-q9q];rfl);have hss:(wbS s).size<=2000000:=by rw[q6h];exact hsl
  clear b2 hL hsl HP1;generalize wbS s=S at HLS hss⊢;have g1:¬9223372036854775807<S.size+1:=by omega
  go_wp2;go_ret2;exact⟨by rw[HLS.o];rfl,by first|exact HB2.o|exact q0c HB2.o Zl (q1t w2 _)⟩
 ·rw[if_neg h0];have HE:=(show Hid (_=_)from q0f h0);generalize q0s (q7s t)=E at HLD HE⊢;generalize q2p t=xs at HLD;generalize q7s t=z at HE;clear hN hsz ht h h9 h0;go_in;go_wp2_with fail;refine HLD.o.mono ?_;rintro e w1⟨⟨A1,c1,rfl,_,_⟩,b1⟩;rw[HE.o];generalize xs.length=nx;go_wp2;go_ret2;exact⟨by rw[HE.o];rfl,b1⟩
theorem z5o:g4d:=by
 intro t a cap wd w hc hN hsz ht;by_cases hw:wd<10\/100<wd
 ·have HW:Hid (Calls prog 46 #[.int .i64 wd] w fun e w'=>e=.returned (.iface 22 (.int .i64 1))/\w=w'):=g2p hw w;have e1:z5m t wd=1:=by rw[z5m,if_pos hw]
  rw[k0d (by rw[e1];decide),e1];clear hN hsz ht e1 hw;go_in;go_wp2_with fail;refine HW.o.mono ?_;rintro e w1⟨rfl,rfl⟩;go_wp2;go_ret2;exact⟨rfl,Below.refl _ _⟩
 ·obtain⟨n,rfl⟩:∃n:Nat,wd=(n:Int):=⟨wd.toNat,by omega⟩;have hw1:10<=n:=by omega
  have hw2:n<=100:=by omega
  have HW:Hid (Calls prog 46 #[.int .i64 (n:Int)] w fun e w'=>e=.returned .nilIface/\w=w'):=v1y hw1 hw2 w;have HC:Hid (Calls prog 56 #[.slice a t.length cap] w fun e w'=>e=.returned (q0s (q0d t))/\Below w w w'):=q7c t a cap w hc hN hsz;by_cases h0:q0d t=0
  ·obtain⟨hpos,b,o,rfl,hb,c1,c2⟩:=k6x h0 hN;have HCE:Hid (∀W:World,Below w w W->W.cell? ⟨b,o,none⟩=some (.int .i64 (opT t))):=fun W h=>((q1c h).1 _ _ hb).trans c1
   have hpi:(0:Int)<(t.length:Int):=by omega
   have e1:z5m t (n:Int)=pgE t:=z2r hw h0;rw[h0]at HC;by_cases h9:opT t=9
   ·have HPN:Hid (∀W:World,Below w w W->Calls prog 57 #[.slice (some ⟨b,o,none⟩) t.length cap,.int .i64 (n:Int)] W fun e w'=>e=.returned (.tuple #[.string (wbS (q4r n t)),.nilIface])/\Below W W w'):=fun W h=>v1s h0 h9 n hw1 hw2 _ cap W hc (hN.W h) hsz (ht.W h)
    rw[h9]at HCE;rw[z5n (by rw[e1];exact j1e h9),e1,j1e h9,q0e];clear hN hsz ht e1 hw c1 c2 h0 h9;generalize wbS (q4r n t)=S at HPN⊢;go_in;go_wp2_with fail;refine HW.o.mono ?_;rintro e w1⟨rfl,rfl⟩;go_wp2_with fail;refine HC.o.mono ?_;rintro e w2⟨rfl,b2⟩;rw[q0e];have c2:=HCE.o w2 b2;have HB2:Hid (Below w w w2):=b2;clear b2;go_wp2_with fail;refine(HPN.o _ HB2.o).mono ?_;rintro e w3⟨rfl,b3⟩;have HB3:Hid (Below w w w3):=q0c HB2.o Zl b3;clear b3 c2;go_wp2;go_ret2;exact⟨rfl,HB3.o⟩
   ·have HPN:Hid (∀W:World,Below w w W->Calls prog 58 #[.slice (some ⟨b,o,none⟩) t.length cap,.int .i64 (n:Int)] W fun e w'=>e=.returned (.tuple #[.string (j3i t (n:Int)),q0s (z5m t (n:Int))])/\Below W W w'):=fun W h=>by
     have h1:=j3m h0 h9 n hw2 (some ⟨b,o,none⟩) cap W hc (hN.W h) hsz (ht.W h);have e2:(if pgE t=0 then wbS (q4r n t)else⟨#[]⟩)=j3i t (n:Int):=by rw[j3i,e1];rfl
     rw[e2,<-e1]at h1;exact h1
    have h9b:(opT t==9)=false:=by simp[h9]
    clear hN hsz ht e1 hw c1 c2 h0 h9;generalize opT t=op0 at HCE h9b;generalize j3i t (n:Int)=S at HPN⊢;generalize q0s (z5m t (n:Int))=E at HPN⊢;go_in;go_wp2_with fail;refine HW.o.mono ?_;rintro e w1⟨rfl,rfl⟩;go_wp2_with fail;refine HC.o.mono ?_;rintro e w2⟨rfl,b2⟩;rw[q0e];have c2:=HCE.o w2 b2;have HB2:Hid (Below w w w2):=b2;clear b2;go_wp2_with fail;refine(HPN.o _ HB2.o).mono ?_;rintro e w3⟨rfl,b3⟩;have HB3:Hid (Below w w w3):=q0c HB2.o Zl b3;clear b3 c2;go_wp2;go_ret2;exact⟨rfl,HB3.o⟩
  ·have e1:z5m t (n:Int)=q0d t:=by rw[z5m,if_neg hw,if_pos h0]
   rw[k0d (by rw[e1];exact h0),e1];have HE:Hid (q0s (q0d t)=.iface 22 (.int .i64 (q0d t))):=q0f h0;generalize q0s (q0d t)=E at HC HE⊢;generalize q0d t=z at HE;clear hN hsz ht e1 hw h0;go_in;go_wp2_with fail;refine HW.o.mono ?_;rintro e w1⟨rfl,rfl⟩;go_wp2_with fail;refine HC.o.mono ?_;rintro e w2⟨rfl,b2⟩;rw[HE.o];go_wp2;go_ret2;exact⟨by rw[HE.o];rfl,b2⟩
structure v4r(ps:List (List Td))(n:Nat)(w0:World)(i:Nat)(wr:World):Prop where
 le:i<=ps.length
 z:fmE (ps.drop i)=fmE ps
 x:IsX 96 w0.heap.size w0.heap.size (Lib.byteCells (q3k n (ps.take i))) [] wr
 bl:Below w0 w0 wr
 ln:(q3k n (ps.take i)).length<=i*2000001
theorem g1c:z1v 96 2:=by unfold z1v;kernel_rfl
theorem g6g:96≠5:=by decide
theorem z4b{s:ByteArray}{ps:List (List Td)}{k:Int}(h:q2h s ps k 0):∀t∈ps,z4e t:=fun t ht x hx=>Nat.le_trans (v1u (q2g h).2.1 t ht x hx) (by decide)
theorem j1c{ps:List (List Td)}{i:Nat}(h:i<ps.length):ps.drop i=ps[i]::ps.drop (i+1):=List.drop_eq_getElem_cons h
theorem k0h{ps:List (List Td)}{i:Nat}(wd:Nat)(h:i<ps.length):q3k wd (ps.take (i+1))=q3k wd (ps.take i)++q4r wd ps[i]:=by
 rw[q3k,List.take_succ_eq_append_getElem h,List.flatMap_append];simp[q3k]
theorem z9h:y3l:=by
 intro s wd w ht;by_cases hw:wd<10\/100<wd
 ·have HW:Hid (Calls prog 46 #[.int .i64 wd] w fun e w'=>e=.returned (.iface 22 (.int .i64 1))/\w=w'):=g2p hw w;have HR:Hid (z4f s wd w (.returned (.tuple #[.string ⟨#[]⟩,.int .i64 0,q0s 1])) w):=⟨_,_,_,rfl,.range hw,Below.refl _ _⟩;clear ht hw;go_in;go_wp2_with fail;refine HW.o.mono ?_;rintro e w1⟨rfl,rfl⟩;go_wp2;go_ret3;exact HR.o
 ·obtain⟨n,rfl⟩:∃n:Nat,wd=(n:Int):=⟨wd.toNat,by omega⟩;have hw1:10<=n:=by omega
  have hw2:n<=100:=by omega
  have HNW:Hid (¬((n:Int)<10\/100<(n:Int))):=hw;have HW:Hid (Calls prog 46 #[.int .i64 (n:Int)] w fun e w'=>e=.returned .nilIface/\w=w'):=v1y hw1 hw2 w;have HSY:Hid (Calls prog 20 #[.string s] w fun e w'=>∃ps k f A c,e=.returned (.tuple #[.slice A ps.length c,.int .i64 k,q0s f])/\q2h s ps k f/\Prg w' A ps/\ps.length<=c/\Below w w w'):=q4g s w ht;have HT:Hid (q5u w):=ht;clear ht hw;go_in;go_wp2_with fail;refine HW.o.mono ?_;rintro e w1⟨rfl,rfl⟩;go_wp2_with fail;refine HSY.o.mono ?_;rintro e w2⟨ps,k,f,A,c,rfl,hR,hP,_,b2⟩;have HB2:Hid (Below w w w2):=b2;by_cases hf:f=0
  ·subst hf;obtain⟨rfl,_,hl20,hall⟩:=q2g hR;have HNI:=(show Hid (∀t∈ps,z4e t)from z4b hR);have HALL:Hid (∀t∈ps,q0d t=0):=hall;have HRR:Hid (q2h s ps 0 0):=hR;have HP:Hid (Prg w2 A ps):=hP;have HT2:Hid (q5u w2):=HT.o.W b2;have HS0:Hid (v4r ps n w2 0 (w2.alloc (.cells #[.pointer none,.slice none 0 0] 96))):=⟨Nat.zero_le _,rfl,IsX.fresh 96 w2 [],q1t w2 _,by simp[q3k]⟩;rw[q0e];clear hR hP b2 hall;generalize hnp:ps.length=np at hl20⊢;have HNP:Hid (ps.length=np):=hnp;clear hnp;go_wp2_with fail
   go_loopw [31] (fun x wr=>∃i:Nat,x=.int .i64 (i:Int)/\v4r ps n w2 i wr) (fun x _=>np-(intOf x).toNat)
   case atStart=>exact⟨0,rfl,HS0.o⟩
   case round=>
    obtain⟨i,rfl,hV⟩:=hrel;have hll:=HNP.o;have hle:=hV.le;have hln:=hV.ln;by_cases hlt:i<np
    ·have hii:(i:Int)<(np:Int):=by omega
     have hip:i<ps.length:=by omega
     obtain⟨b0,o0,A0,c0,rfl,hb0,d0,hc0,hT0⟩:=(HP.o.W hV.bl) i hip;have ht0:=HALL.o ps[i] (List.getElem_mem _);have HO1:Hid (Calls prog 22 #[.slice A0 ps[i].length c0,.int .i64 (n:Int)] wr fun e w'=>e=.returned (.tuple #[.string (j3i ps[i] (n:Int)),q0s (z5m ps[i] (n:Int))])/\Below wr wr w'):=z5o ps[i] A0 c0 (n:Int) wr hc0 hT0 (HNI.o ps[i] (List.getElem_mem _)) (HT2.o.W hV.bl);have e1:z5m ps[i] (n:Int)=pgE ps[i]:=z2r HNW.o ht0;have hdr:=j1c hip;have hz0:=hV.z;rw[hdr]at hz0;have HZ:=(show Hid (_=_)from hz0);have HFO:=(show Hid (_=_)from k0h (ps:=ps) n hip);have HV:Hid (v4r ps n w2 i wr):=hV;by_cases hz:pgE ps[i]=0
     ·have hol:=k0e ht0 hz n;rw[z5n (by rw[e1];exact hz),e1,hz,q0e]at HO1
      have HNX:Hid (∀W,Below wr wr W->Calls prog 47 #[.pointer (some ⟨w2,0,none⟩),.string (wbS (q4r n ps[i]))] W fun e w'=>(∃z,e=.returned (.tuple #[z,.nilIface]))/\v4r ps n w2 (i+1) w'):=fun W hb=>by
       have hsz:=hV.bl.size;refine(q7h 96 w2.heap.size w2.heap.size (Lib.byteCells (q3k n (ps.take i))) [] (wbS (q4r n ps[i])) W g1c g6g (hV.x.grew hb) (by rw[Lib.byteCells_length,q6h];omega) (by have:=hb.size;omega)).mono ?_;rintro e w'⟨rfl,q1,q2,_⟩;refine⟨⟨_,rfl⟩,by omega,?_,?_,?_,?_⟩
       ·have:=HZ.o
        rw[q4o hz]at this;exact this
       ·rw[HFO.o,q3j];exact q1
       ·exact(q0c hV.bl Zl hb).trans (q2.W Zl)
       ·rw[HFO.o,List.length_append];omega
      clear hV hdr hz0 ht0 hT0 hc0 e1 hz hol HZ HFO;generalize wbS (q4r n ps[i])=S at HO1 HNX;generalize ps[i].length=tn at d0 HO1;go_wp2_with fail;refine HO1.o.mono ?_;rintro e w3⟨rfl,b3⟩;have HB3:Hid (Below wr wr w3):=b3;clear b3;go_wp2_with fail;refine(HNX.o _ HB3.o).mono ?_;rintro e w4⟨⟨q,rfl⟩,h4⟩;have HX4:Hid (v4r ps n w2 (i+1) w4):=h4;clear h4;go_wp2;refine⟨⟨i+1,by go_num,HX4.o⟩,?_⟩;simp[intOf];omega
     ·have HR:Hid (∀W,Below wr wr W->z4f s (n:Int) w (.returned (.tuple #[.string ⟨#[]⟩,.int .i64 0,q0s (pgE ps[i])])) W):=fun W hb=>by
       have q:=HZ.o;rw[z5a hz]at q;have q2:=q9v.full HNW.o HRR.o (by rw[<-q];exact hz);rw[<-q]at q2;exact⟨_,_,_,rfl,q2,q0c HB2.o Zl (q0c hV.bl Zl hb)⟩
      have HE:=(show Hid (_=_)from q0f hz);rw[k0d (by rw[e1];exact hz),e1]at HO1;clear hV hdr hz0 ht0 hT0 hc0 e1 hz HZ HFO;generalize q0s (pgE ps[i])=E at HO1 HR HE;generalize pgE ps[i]=z at HE;generalize ps[i].length=tn at d0 HO1;go_wp2_with fail;refine HO1.o.mono ?_;rintro e w3⟨rfl,b3⟩;have HR3:Hid (z4f s (n:Int) w (.returned (.tuple #[.string ⟨#[]⟩,.int .i64 0,E])) w3):=HR.o w3 b3;clear b3;rw[HE.o];go_wp2;go_ret3;rw[<-HE.o];exact HR3.o
    ·have hii:¬(i:Int)<(np:Int):=by omega
     have hie:ps.take i=ps:=List.take_of_length_le (by omega);have hid:ps.drop i=[]:=List.drop_eq_nil_of_le (by omega);have hz:=hV.z;rw[hid]at hz;have hx:=hV.x;rw[hie]at hx;have HO:Hid (Calls prog 48 #[.pointer (some ⟨w2,0,none⟩)] wr fun e w'=>e=.returned (.string (wbS (q3k n ps)))/\Below w2 wr w'):=z4c _ _ _ _ _ _ hx;have HR:Hid (∀W,Below w2 wr W->z4f s (n:Int) w (.returned (.tuple #[.string (wbS (q3k n ps)),.int .i64 0,q0s 0])) W):=fun W hb=>⟨_,_,_,rfl,.ok HNW.o HRR.o hz.symm,q0c HB2.o Zl (hV.bl.trans hb)⟩
     clear hV hie hid hz hx;generalize wbS (q3k n ps)=S at HO HR;go_wp2_with fail;refine HO.o.mono ?_;rintro e w3⟨rfl,b3⟩;have HR3:Hid (z4f s (n:Int) w (.returned (.tuple #[.string S,.int .i64 0,q0s 0])) w3):=HR.o w3 b3;clear b3;go_wp2;go_ret3;exact HR3.o
  ·have HR:Hid (z4f s (n:Int) w (.returned (.tuple #[.string ⟨#[]⟩,.int .i64 k,q0s f])) w2):=⟨_,_,_,rfl,.bad HNW.o hR hf,b2⟩;have HE:=(show Hid (_=_)from q0f hf);generalize q0s f=E at HR HE⊢;clear hR hP b2 hf;rw[HE.o];generalize ps.length=np;go_wp2;go_ret3;rw[<-HE.o];exact HR.o
theorem v9f{a b:ByteArray}{ps:List (List Td)}(ha:q2h a ps 0 0)(hb:q2h b ps 0 0){r:Bool}{f:Int}(h:z6k a b r f):r=true/\f=0:=by
 cases h with
 | badA hp hf=>exact absurd (q0k hp ha).2.2 hf
 | badB _ hq hf=>exact absurd (q0k hq hb).2.2 hf
 | ok hp hq hr=>exact⟨hr.2 ((q0k hp ha).1.trans (q0k hb hq).1),rfl⟩
theorem k8h(hF:y3l)(s:ByteArray)(wd other:Int)(w:World)(ht:q5u w):
  Calls prog 4 #[.string s,.int .i64 wd,.int .i64 other] w fun e w'=>e=.returned (.bool true)/\Below w w w':=by
 have HON:Hid (Calls prog 17 #[] w fun e w'=>e=.returned (.bool true)/\Below w w w'):=q8v hF w ht;have HFM:Hid (∀(W:World)(s:ByteArray)(wd:Int),Below w w W->Calls prog 18 #[.string s,.int .i64 wd] W fun e w'=>∃T k f,e=.returned (.tuple #[.string T,.int .i64 k,q0s f])/\q9v s wd T k f/\Below W W w'):=fun W s wd h=>hF s wd W (ht.W h)
 have HSA:Hid (∀(W:World)(a b:ByteArray),Below w w W->Calls prog 16 #[.string a,.string b] W fun e w'=>∃r f,e=.returned (.tuple #[.bool r,q0s f])/\z6k a b r f/\Below W W w'):=fun W a b h=>z7q a b W (ht.W h)
 have HCK:Hid (∀(W:World)(s:ByteArray),Below w w W->Calls prog 13 #[.string s,.int .i64 wd] W fun e w'=>y3m s wd W e w'):=fun W s h=>z5h hF s wd W (ht.W h)
 have HSY:Hid (∀(W:World),Below w w W->Calls prog 20 #[.string s] W fun e w'=>∃ps k f A c,e=.returned (.tuple #[.slice A ps.length c,.int .i64 k,q0s f])/\q2h s ps k f/\Prg w' A ps/\ps.length<=c/\Below W W w'):=fun W h=>q4g s W (ht.W h)
 have HTB:Hid (∀W,Below w w W->q5u W):=fun W h=>ht.W h
 clear ht hF;go_in;go_wp2_with fail;refine HON.o.mono ?_;rintro e w1⟨rfl,b1⟩;have HB1:Hid (Below w w w1):=b1;clear b1 HON;go_wp2_with fail;refine(HFM.o _ _ _ HB1.o).mono ?_;rintro e w2⟨T,k,f,rfl,hR,b2⟩;have HB2:Hid (Below w w w2):=q0c HB1.o Zl b2;clear b2 HB1;by_cases hf:f=0
 ·subst hf;obtain⟨ps,hp1,hp2⟩:=z5b hR;have HP1:Hid (q2h s ps 0 0):=hp1;have HP2:Hid (q2h T ps 0 0):=hp2;have HRT:Hid (q9v s wd T k 0):=hR;have e1:=(q3c hp1).1;have l1:=z9m e1;have htt:(T.toList==T.toList)=true:=by simp
  rw[q0e];clear hR hp1 hp2;go_wp2_with fail;refine(HSA.o _ _ _ HB2.o).mono ?_;rintro e w3⟨r3,f3,rfl,h3,b3⟩;obtain⟨rfl,rfl⟩:=v9f HP1.o HP2.o h3;rw[q0e];have HB3:Hid (Below w w w3):=q0c HB2.o Zl b3;clear b3 h3 HB2 HSA;go_wp2_with fail;refine(HCK.o _ _ HB3.o).mono ?_;rintro e w4⟨T4,k4,f4,rfl,h4,b4⟩;obtain⟨rfl,_,rfl⟩:=z0m HP1.o HP2.o HRT.o h4;rw[q0e,if_pos rfl,z9b];have HB4:Hid (Below w w w4):=q0c HB3.o Zl b4
  have HW1:Hid (∀W,Calls prog 19 #[.string s] W fun e w'=>(∃A P ac pc,e=.returned (.tuple #[.slice A (q1d (btL s)).length ac,.slice P (q1d (btL s)).length pc,.int .i64 0,.nilIface])/\Wds w' A ((q1d (btL s)).map wbS))/\Below W W w'):=fun W=>(z6f s W).mono fun e w'⟨h,b⟩=>by
   rcases h with⟨h,_⟩|⟨_,A,P,ac,pc,he,h2⟩
   ·exact absurd e1 h
   ·exact⟨⟨A,P,ac,pc,he,h2.ws⟩,b⟩
  have HLW:Hid (∀u∈q1d (btL s),u.length<=60000):=fun u hu=>Nat.le_trans (g6c u hu) (q4v e1).1
  have HSP:Hid ((spc (q1d (btL s))).length<=60000->q2h (wbS (spc (q1d (btL s)))) ps 0 0):=fun h=>y8b HP1.o h
  clear b4 h4 HB3 HCK e1;generalize q1d (btL s)=us at *;have HL1:Hid (us.length<=60000):=l1;clear l1;go_wp2_with fail;refine(HW1.o _).mono ?_;rintro e w5⟨⟨A5,P5,ac5,pc5,rfl,hq5⟩,b5⟩;have HB5:Hid (Below w w w5):=q0c HB4.o Zl b5;have HQ5:Hid (Wds w5 A5 (us.map wbS)):=hq5;clear b5 HB4 hq5 HW1;generalize hn1:us.length=n1;have HNA:Hid (us.length=n1):=hn1;clear hn1;go_wp2_with fail
  go_loopw [20,21] (fun x i wr=>wr=w5/\∃j:Nat,j<=n1/\i=.int .i64 (j:Int)/\x=.string (wbS (spc (us.take j)))) (fun _ i _=>n1-(intOf i).toNat)
  case atStart=>exact⟨rfl,0,Nat.zero_le _,rfl,rfl⟩
  case round=>
   obtain⟨rfl,j,hj,rfl,rfl⟩:=hrel;by_cases hlt:j<n1
   ·have hki:(j:Int)<(n1:Int):=by omega
    have hn6:n1<=60000:=by rw[<-HNA.o];exact HL1.o
    have hju:j<us.length:=by rw[HNA.o];exact hlt
    obtain⟨g,o,rfl,hg,hc⟩:=HQ5.o j (by rw[List.length_map];exact hju);rw[List.getElem_map]at hc;have HSE:Hid (wbS (spc (us.take (j+1)))=wbS (spc (us.take j))++wbS us[j]++⟨#[10]⟩):=v9p hju;have hwz:(wbS us[j]).size<=60000:=by rw[q6h];exact HLW.o _ (List.getElem_mem hju)
    have htz:(wbS (spc (us.take j))).size<=3600060000:=by
     rw[q6h];have h1:=y2v (n:=60000) (us.take j) (fun x hx=>HLW.o x (List.mem_of_mem_take hx));have h2:(us.take j).length<=60000:=by have:=HL1.o;rw[List.length_take];omega
     have h3:=Nat.mul_le_mul_right 60001 h2;omega
    generalize wbS us[j]=X at *;generalize wbS (spc (us.take j))=Y at *;go_wp2
    go_roundw
    case rel=>exact⟨by trivial,j+1,by omega,by go_num,by rw[HSE.o]⟩
    case measure=>simp[intOf];omega
   ·have hki:¬(j:Int)<(n1:Int):=by omega
    have hje:us.take j=us:=List.take_of_length_le (by have:=HNA.o;omega);rw[hje];have hxz:((wbS (spc us)).size:Int)=((spc us).length:Int):=by rw[q6h]
    have hl20:=(q2g HP1.o).2.2.1;clear hje HQ5 HLW;rcases Classical.em ((spc us).length<=60000)with hlen|hlen
    case' inl=>
     have HPX:Hid (q2h (wbS (spc us)) ps 0 0):=HSP.o hlen;have hlq:((wbS (spc us)).size:Int)<=60000:=by omega
     clear hlen hxz;generalize wbS (spc us)=X at *;go_wp2_with fail;refine(HFM.o _ _ _ HB5.o).mono ?_;rintro e w6⟨T6,k6,f6,rfl,h6,b6⟩;obtain⟨rfl,_,rfl⟩:=z0m HP1.o HPX.o HRT.o h6;rw[q0e];have HB6:Hid (Below w w w6):=q0c HB5.o Zl b6;clear b6 h6 HB5 HPX hlq;go_wp2_with fail;refine(HSY.o _ HB6.o).mono ?_;have HB5:Hid (Below w w w6):=HB6;clear HB6
    case' inr=>
     have hlq:¬((wbS (spc us)).size:Int)<=60000:=by omega
     clear hlen hxz;generalize wbS (spc us)=X at *;go_wp2_with fail;refine(HSY.o _ HB5.o).mono ?_
    all_goals
     rintro e w7⟨qs,k7,f7,A7,c7,rfl,h7,hQ7,hc7,b7⟩;obtain⟨rfl,rfl,rfl⟩:=q0k HP1.o h7;rw[q0e];have HB7:Hid (Below w w w7):=q0c HB5.o Zl b7
     have HPR:Hid (Calls prog 21 #[.slice A7 ps.length c7] w7 fun e w'=>e=.returned (.tuple #[.string (wbS (q1o ps)),.nilIface])/\Below w7 w7 w'):=by
      have h:=z1h ps A7 c7 w7 hc7 hQ7 (z4b HP1.o) (HTB.o w7 HB7.o);rw[k7f (q2g HP1.o).2.1,(q2g HP1.o).2.1,q0e]at h;exact h
     have HPX:Hid (q2h (wbS (q1o ps)) ps 0 0):=v8x HP1.o;clear b7 h7 HB5 hQ7 HSY hc7;generalize ps.length=np at *;generalize wbS (q1o ps)=X at *;go_wp2_with fail;refine HPR.o.mono ?_;rintro e w8⟨rfl,b8⟩;have HB8:Hid (Below w w w8):=q0c HB7.o Zl b8;clear b8 HB7 HPR;go_wp2_with fail;refine(HFM.o _ _ _ HB8.o).mono ?_;rintro e w9⟨T9,k9,f9,rfl,h9,b9⟩;obtain⟨rfl,_,rfl⟩:=z0m HP1.o HPX.o HRT.o h9;rw[q0e];have HB9:Hid (Below w w w9):=q0c HB8.o Zl b9;clear b9 h9 HB8 HPX;go_wp2_with fail;refine(HFM.o _ _ _ HB9.o).mono ?_;rintro e wa⟨Ta,ka,fa,rfl,ha,ba⟩;have HBa:Hid (Below w w wa):=q0c HB9.o Zl ba;clear ba HB9;by_cases hfa:fa=0
     ·subst hfa;obtain⟨qs,hq1,hq2⟩:=z5b ha;obtain⟨rfl,_,_⟩:=q0k HP1.o hq1;have HPV:Hid (q2h Ta ps 0 0):=hq2;rw[q0e];clear ha hq1 hq2;go_wp2_with fail;refine(HFM.o _ _ _ HBa.o).mono ?_;rintro e wb⟨Tb,kb,fb,rfl,hb,bb⟩;obtain⟨rfl,_,rfl⟩:=z0m HP1.o HPV.o HRT.o hb;rw[q0e];have HBb:Hid (Below w w wb):=q0c HBa.o Zl bb;clear bb hb HBa HPV;go_wp2;go_ret;exact⟨rfl,HBb.o⟩
     ·rw[q0f hfa];clear hfa ha;go_wp2;go_ret;exact⟨rfl,HBa.o⟩
 ·rw[q0f hf];clear hf hR;go_wp2;go_ret;exact⟨rfl,HB2.o⟩
end Go.Proofs.YthcpdohdppkmkaaGreatDoor
namespace Go.Proofs.YthcpdohdppkmkaaGreatDoor
theorem y3s{ds:List Nd}{wd:Int}(h:bE ds wd=0):q3a ds=0/\∃n:Nat,wd=n/\n<=100:=by
 unfold bE at h
 split at h
 ·rename_i h0
  split at h
  ·cases h
  ·exact⟨h0,wd.toNat,by omega,by omega⟩
 ·rename_i h0;exact absurd h h0
theorem y3r{ds:List Nd}{wd:Int}(h:bE ds wd=0):∃(t:Tr)(n:Nat),t.Wf/\ds=t.N/\ds.length<=400/\wd=n/\n<=100/\bA ds wd=bs n 0 [(0,t)]/\t.best n=some (bA ds wd):=by
 obtain⟨h0,n,rfl,hn⟩:=y3s h;have e:=(z4l (q7q h0) (q3b h0) (q4c h0).1 hn).2;exact⟨v6a ds h0,n,q7q h0,q3b h0,(q4c h0).1,rfl,hn,e,by rw[q6m,q2i,e]⟩
theorem y9k{ds:List Nd}{wd:Int}:(bA ds wd).1.1<=400000/\(bA ds wd).1.2<=400000/\(bA ds wd).2.length<=400:=by
 by_cases h:bE ds wd=0
 ·obtain⟨t,n,ht,hd,hl,rfl,hn,e,hb⟩:=y3r h;have h1:=y9q n 0 t.dsum [(0,t)] (by intro p hp;simp at hp;subst hp;exact⟨by simp,ht⟩)
  have h2:lfK [(0,t)]*(21+t.dsum)<=400000:=by
   simp only[lfK,Nat.add_zero];exact v0i (q7v t) (by rw[<-hd];exact hl)
  have h3:=q8d t _ (q3t hb).1;rw[<-hd]at h3;rw[<-e]at h1;omega
 ·rw[j5n h];simp
theorem v5b{ds:List Nd}{wd:Int}(h:bE ds wd=0)(hw:wd<100):bE ds (wd+1)=0/\¬q1q (bA ds wd).1 (bA ds (wd+1)).1:=by
 obtain⟨t,n,ht,hd,hl,rfl,hn,e,_⟩:=y3r h;obtain⟨g1,g2⟩:=z4l (wd:=n+1) ht hd hl (by omega);have ec:((n+1:Nat):Int)=(n:Int)+1:=by omega
 rw[ec]at g1 g2;refine⟨g1,?_⟩;rw[e,g2];exact j6i n 0 [(0,t)] _ _ (q2i _ _ _) (q2i _ _ _)
end Go.Proofs.YthcpdohdppkmkaaGreatDoor
namespace Go.Proofs.YthcpdohdppkmkaaGreatDoor
open Go Go.RowKit
def Bx(w:World)(b:Nat)(o l:Int):Prop:=w.cell? ⟨b,0,none⟩=some (.int .i64 o)/\w.cell? ⟨b,1,none⟩=some (.int .i64 l)
theorem Bx.W{w w':World}{b:Nat}{o l:Int}(h:Bx w b o l)(hb:Below w w w'):Bx w' b o l:=
 ⟨(hb.cell (p:=⟨b,0,none⟩) (World.block_lt_of_cell? w ⟨b,0,none⟩ h.1)).trans h.1,(hb.cell (p:=⟨b,1,none⟩) (World.block_lt_of_cell? w ⟨b,0,none⟩ h.1)).trans h.2⟩
theorem Bx.alloc{w:World}{b:Nat}{o l:Int}(h:Bx w b o l)(O:Obj):Bx (w.alloc O) b o l:=⟨ka h.1 O,ka h.2 O⟩
theorem Bx.new(w:World)(o l:Int)(T:TypeId):Bx (w.alloc (.cells #[.int .i64 o,.int .i64 l] T)) w.heap.size o l:=⟨by simp[go_sem],by simp[go_sem]⟩
end Go.Proofs.YthcpdohdppkmkaaGreatDoor
namespace Go.Proofs.YthcpdohdppkmkaaGreatDoor
open Go Go.Lib
def stp(wd:Int)(x:Int × Int × Int)(b:UInt8):Int × Int × Int:=
 if b=10 then(x.1,x.2.1+1,0)else(if wd<x.2.2+1 then x.1+1 else x.1,x.2.1,x.2.2+1)
def stL(wd:Int)(l:List UInt8):Int × Int × Int:=l.foldl (stp wd) (0,0,0)
theorem v8r(wd c:Int):ovr wd (c+1)=ovr wd c+(if wd<c+1 then 1 else 0):=by
 unfold ovr;split<;>omega
theorem g2w(wd:Int)(l:List UInt8):∀(x:Int × Int × Int),0<=x.1->0<=x.2.1->0<=x.2.2->
  (0<=(l.foldl (stp wd) x).1/\(l.foldl (stp wd) x).1<=x.1+l.length)/\(0<=(l.foldl (stp wd) x).2.1/\(l.foldl (stp wd) x).2.1<=x.2.1+l.length)/\(0<=(l.foldl (stp wd) x).2.2/\(l.foldl (stp wd) x).2.2<=x.2.2+l.length):=by
 induction l with
 | nil=>intro x h1 h2 h3;simp;omega
 | cons b r ih=>
  intro x h1 h2 h3;have e:(b::r).foldl (stp wd) x=r.foldl (stp wd) (stp wd x b):=rfl;rw[e]
  have hs:0<=(stp wd x b).1/\(stp wd x b).1<=x.1+1/\0<=(stp wd x b).2.1/\(stp wd x b).2.1<=x.2.1+1/\0<=(stp wd x b).2.2/\(stp wd x b).2.2<=x.2.2+1:=by
   unfold stp;by_cases hb:b=10
   ·simp only[hb,if_true];omega
   ·simp only[hb,if_false];by_cases hw:wd<x.2.2+1
    ·simp only[hw,if_true];omega
    ·simp only[hw,if_false];omega
  have:=ih (stp wd x b) hs.1 hs.2.2.1 hs.2.2.2.2.1
  simp only[List.length_cons];omega
theorem g2u(wd:Int)(l:List UInt8):(0<=(stL wd l).1/\(stL wd l).1<=l.length)/\(0<=(stL wd l).2.1/\(stL wd l).2.1<=l.length)/\(0<=(stL wd l).2.2/\(stL wd l).2.2<=l.length):=by
 have:=g2w wd l (0,0,0) (by simp) (by simp) (by simp)
 simpa[stL]using this
theorem j9i(c:UInt8)(r:List UInt8):∃h t,lens r=h::t/\lens (c::r)=if c=10 then 0::h::t else(h+1)::t:=by
 have hne:=j0l r;cases hr:lns r with
 | nil=>exact absurd hr hne
 | cons x xs=>
  refine⟨(x.length:Int),xs.map fun y=>(y.length:Int),by simp[lens,hr],?_⟩;unfold lens lns;by_cases hc:c=10
  ·simp[hc,hr]
  ·simp[hc,hr]
theorem k7j(wd:Int)(hw:0<=wd):∀(l:List UInt8)(o n c:Int),∃h t,lens l=h::t/\
  (l.foldl (stp wd) (o,n,c)).1=o+(ovr wd (c+h)-ovr wd c)+over wd t/\(l.foldl (stp wd) (o,n,c)).2.1=n+t.length
 | [],o,n,c=>⟨0,[],by simp[lens,lns],by simp[over],by simp⟩
 | b::r,o,n,c=>by
  obtain⟨h,t,e1,e2⟩:=j9i b r;have e3:(b::r).foldl (stp wd) (o,n,c)=r.foldl (stp wd) (stp wd (o,n,c) b):=rfl;rw[e3,e2];by_cases hb:b=10
  ·have e4:stp wd (o,n,c) b=(o,n+1,0):=by simp[stp,hb]
   rw[e4];obtain⟨h',t',q1,q2,q3⟩:=k7j wd hw r o (n+1) 0;rw[e1]at q1;simp only[List.cons.injEq]at q1;obtain⟨rfl,rfl⟩:=q1;refine⟨0,h::t,by simp[hb],?_,?_⟩
   ·rw[q2];simp[over];unfold ovr;omega
   ·rw[q3];simp;omega
  ·have e4:stp wd (o,n,c) b=(if wd<c+1 then o+1 else o,n,c+1):=by simp[stp,hb]
   rw[e4];obtain⟨h',t',q1,q2,q3⟩:=k7j wd hw r (if wd<c+1 then o+1 else o) n (c+1);rw[e1]at q1;simp only[List.cons.injEq]at q1;obtain⟨rfl,rfl⟩:=q1;refine⟨h+1,t,by simp[hb],?_,q3⟩;rw[q2,v8r wd c,show c+1+h=c+(h+1) by omega]
   split<;>omega
theorem y8c(s:ByteArray)(wd:Int)(h:0<=wd):(stL wd s.data.toList).1=q2l s wd/\(stL wd s.data.toList).2.1=q1p s:=by
 obtain⟨a,t,e1,e2,e3⟩:=k7j wd h s.data.toList 0 0 0;unfold q2l q1p stL;rw[e2,e3,e1];have h0:ovr wd 0=0:=by unfold ovr;omega
 simp[over,h0]
end Go.Proofs.YthcpdohdppkmkaaGreatDoor
namespace Go.Proofs.YthcpdohdppkmkaaGreatDoor
theorem j7b(wd:Nat):∀(l:List UInt8)(o n:Int)(c:Nat),l.foldl (stp wd) (o,n,(c:Int))=(o+(q1n wd c l).1,n+(q1n wd c l).2.1,((q1n wd c l).2.2:Int))
 | [],o,n,c=>by simp[q1n]
 | b::r,o,n,c=>by
  have e3:(b::r).foldl (stp wd) (o,n,(c:Int))=r.foldl (stp wd) (stp wd (o,n,(c:Int)) b):=rfl;rw[e3];simp only[q1n];by_cases hb:b=10
  ·have e4:stp wd (o,n,(c:Int)) b=(o,n+1,((0:Nat):Int)):=by simp[stp,hb]
   rw[e4,j7b wd r,if_pos hb];simp only[Prod.mk.injEq,and_true,true_and];omega
  ·have e4:stp wd (o,n,(c:Int)) b=(o+(if wd<=c then 1 else 0:Nat),n,((c+1:Nat):Int)):=by
    by_cases h:wd<=c
    ·have h':(wd:Int)<(c:Int)+1:=by omega
     simp[stp,hb,h,h']
    ·have h':¬(wd:Int)<(c:Int)+1:=by omega
     simp[stp,hb,h,h']
   rw[e4,j7b wd r,if_neg hb];simp only[Prod.mk.injEq,and_true];omega
theorem z8w(wd:Nat)(l:List UInt8):stL wd l=(((q1n wd 0 l).1:Int),((q1n wd 0 l).2.1:Int),((q1n wd 0 l).2.2:Int)):=by
 have:=j7b wd l 0 0 0
 simpa[stL]using this
theorem v5c{ds:List Nd}{wd:Int}(h:bE ds wd=0)(ws:List Int)(u:List UInt8)(hu:q6c ds ws=.ok u):
  ∃K:Nat × Nat,(stL wd u).1=(K.1:Int)/\(stL wd u).2.1=(K.2:Int)/\¬q1q K (bA ds wd).1/\(K=(bA ds wd).1->¬q2t ws (bA ds wd).2):=by
 obtain⟨t,n,ht,hd,hl,rfl,hn,e,hb⟩:=y3r h;obtain⟨_,_,_,hle⟩:=q3t hb;rw[z2u ht hd hl]at hu;have hin:ws∈t.ways:=(z5s t ws).1 ⟨u,hu⟩;have ht':t.txt ws=u:=by rw[Tr.txt,hu]
 obtain⟨k1,k2⟩:=hle ws hin;refine⟨t.cst n ws,?_,?_,k1,k2⟩
 ·rw[z8w,Tr.cst,ht']
 ·rw[z8w,Tr.cst,ht']
end Go.Proofs.YthcpdohdppkmkaaGreatDoor
