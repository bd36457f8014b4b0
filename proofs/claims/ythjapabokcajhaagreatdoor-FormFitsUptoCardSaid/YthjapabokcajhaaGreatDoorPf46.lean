/- Texts as one: PgX. -/
import Derived.Test.YthjapabokcajhaaGreatDoorPf11
import Derived.Test.YthjapabokcajhaaGreatDoorPf45
import Derived.Test.YthjapabokcajhaaGreatDoorPf39
import Derived.Test.YthjapabokcajhaaGreatDoorPf08
namespace Go.Proofs.YthjapabokcajhaaGreatDoor
open Go Go.RowKit
set_option maxRecDepth 100000
set_option maxHeartbeats 4000000
theorem v0b{n:Nat}(h1:10<=n)(h2:n<=100)(w:World):Calls Tryz.prog 28 #[.int .i64 (n:Int)] w fun e w'=>e=.returned .nilIface/\w=w':=by
 have h3:¬(n:Int)<10:=by omega
 have h4:¬100<(n:Int):=by omega
 go_in;go_wp2;go_ret;exact⟨rfl,rfl⟩
theorem v2m{wd:Int}(h:wd<10\/100<wd)(w:World):Calls Tryz.prog 28 #[.int .i64 wd] w fun e w'=>e=.returned (.iface 23 (.int .i64 1))/\w=w':=by
 by_cases h1:wd<10
 ·go_in;go_wp2;go_ret;exact⟨rfl,rfl⟩
 ·have h2:100<wd:=by omega
  go_in;go_wp2;go_ret;exact⟨rfl,rfl⟩
theorem k6r{t:List Td}(h:q0b t=0)(h9:opT t=9)(n:Nat)(hw1:10<=n)(hw2:n<=100)(a:Option Addr)(cap:Nat)(w:World)(hc:t.length<=cap)(hN:Tds w a t)(hsz:k1o t)(ht:z7p w):
  Calls Tryz.prog 30 #[.slice a t.length cap,.int .i64 (n:Int)] w fun e w'=>e=.returned (.tuple #[.string (wbS (q5s n t)),.nilIface])/\Below w.heap.size w w':=by
 obtain⟨_,_,e1,e2⟩:=z2n h h9;have hnf:=k6b h h9;rw[z5b h h9]
 have HLN:Hid (Calls Tryz.prog 68 #[.slice a t.length cap] w fun e w'=>(∃A c,e=.returned (.tuple #[.slice A (q0f (btL (txT t))).length c,.nilIface])/\Wds w' A ((q0f (btL (txT t))).map wbS)/\(q0f (btL (txT t))).length<=c)/\Below w.heap.size w w'):=by
  refine(z6n t a cap w ht hc hN hsz).mono ?_;rintro e w'⟨⟨A,c,he,hW,hl⟩,hb⟩;rw[e2]at hW hl;rw[List.length_map]at hl;exact⟨⟨A,c,by rw[he,e1,e2,q0u,List.length_map],hW,hl⟩,hb⟩
 have HFP:Hid (∀(W:World)(A:Option Addr)(c:Nat),(q0f (btL (txT t))).length<=c->Wds W A ((q0f (btL (txT t))).map wbS)->Calls Tryz.prog 69 #[.slice A (q0f (btL (txT t))).length c,.int .i64 ((n:Int)-2)] W fun e w'=>(∃L c,e=.returned (.tuple #[.slice L (q2b (n-2) ((q0f (btL (txT t))).map wbS)).length c,.nilIface])/\q6l W.heap.size (.slice L (q2b (n-2) ((q0f (btL (txT t))).map wbS)).length c) (q2b (n-2) ((q0f (btL (txT t))).map wbS)) w')/\Below W.heap.size W w'):=fun W A c q1 q2=>k3o hnf n hw1 hw2 A c W q1 q2
 have hF:=z8p hnf;by_cases h0:q0f (btL (txT t))=[]
 ·have HL:Hid (ntL n (txT t)=[35,10]):=(show _=_ by rw[ntL,if_pos h0]);generalize ntL n (txT t)=L at HL⊢;rw[h0]at HLN HFP;simp only[List.map_nil,q3q,List.length_nil]at HLN HFP;clear hN hsz ht e1 e2 hnf h h9 hF h0;go_in;go_wp2_with fail;refine HLN.out.mono ?_;rintro e w1⟨⟨A1,c1,rfl,hW1,hc1⟩,b1⟩;have HB1:Hid (Below w.heap.size w w1):=b1;have HF1:Hid (Calls Tryz.prog 69 #[.slice A1 0 c1,.int .i64 ((n:Int)-2)] w1 fun e w'=>(∃L c,e=.returned (.tuple #[.slice L 0 c,.nilIface])/\q6l w1.heap.size (.slice L 0 c) [] w')/\Below w1.heap.size w1 w'):=HFP.out w1 A1 c1 hc1 hW1;clear b1 hW1 hc1 HFP HLN;go_wp2_with fail;refine HF1.out.mono ?_;rintro e w2⟨⟨A2,c2,rfl,_⟩,b2⟩;have HB2:Hid (Below w.heap.size w w2):=q0g HB1.out (Nat.le_refl _) b2;clear b2;go_wp2;go_ret2;exact⟨by rw[HL.out];rfl,HB2.out⟩
 ·have hls:=q6t (n-2) _ ((q0f (btL (txT t))).map wbS) (Nat.le_refl _);have hl60:=hF.1
  have hne:q2b (n-2) ((q0f (btL (txT t))).map wbS)≠[]:=by
   rw[q3p _ (by simpa using h0)];simp
  have HL:Hid (wbS (ntL n (txT t))=(⟨#[35,32]⟩:ByteArray)++wbS (Lib.join ((q2b (n-2) ((q0f (btL (txT t))).map wbS)).map fun x=>x.data.toList) [10,35,32])++(⟨#[10]⟩:ByteArray)):=by
   show _=_;rw[z8s n h0,<-q1q,<-q1q];rfl
  have hLl:=k6c hnf n
  have hjl:(wbS (Lib.join ((q2b (n-2) ((q0f (btL (txT t))).map wbS)).map fun x=>x.data.toList) [10,35,32])).size<=100000:=by
   rw[z8s n h0,List.length_append,List.length_append]at hLl;rw[q5u];omega
  have hnl0:0<(q0f (btL (txT t))).length:=List.length_pos_iff.2 h0;generalize ntL n (txT t)=L at HL⊢;generalize q2b (n-2) ((q0f (btL (txT t))).map wbS)=ls at HFP HL hls hjl hne
  have HJ:Hid (∀(W:World)(A:Option Addr)(c B:Nat),q6l B (.slice A ls.length c) ls W->Calls Tryz.prog 70 #[.slice A ls.length c,.string ⟨#[10,35,32]⟩] W fun e w'=>e=.returned (.string (wbS (Lib.join (ls.map fun x=>x.data.toList) [10,35,32])))/\Below W.heap.size W w'):=fun W A c B hS=>by
   obtain⟨_,q2,hA⟩:=k7g hS;have hlp:=List.length_pos_iff.2 hne;rcases hA with⟨_,q,_⟩|⟨g,rfl,hg⟩
   ·omega
   ·refine join_sh g 0 c ls ⟨#[10,35,32]⟩ W ?_ hg (by omega) q2 ?_
    ·intro j x hx;obtain⟨hj,rfl⟩:=List.getElem?_eq_some_iff.1 hx;obtain⟨b',o',e,_,c1⟩:=q9w hS j hj;simp only[Option.some.injEq,Addr.mk.injEq,and_true]at e;obtain⟨rfl,rfl⟩:=e;exact c1
    ·rw[q5u]at hjl
     show(Lib.join (ls.map fun x=>x.data.toList) [10,35,32]).length<=_
     omega
  generalize wbS (Lib.join (ls.map fun x=>x.data.toList) [10,35,32])=J at HJ HL hjl
  generalize(q0f (btL (txT t))).map wbS=ws at HLN HFP
  generalize(q0f (btL (txT t))).length=nw at HLN HFP hnl0
  have hnl1:((ls.length:Int)==0)=false:=by
   have:=List.length_pos_iff.2 hne
   simp;omega
  have g1:¬9223372036854775807<2+J.size:=by omega
  have g2:¬9223372036854775807<2+J.size+1:=by omega
  clear hN hsz ht e1 e2 hnf h h9 hF h0 hLl hls hl60 hne;go_in;go_wp2_with fail;refine HLN.out.mono ?_;rintro e w1⟨⟨A1,c1,rfl,hW1,hc1⟩,b1⟩;have HB1:Hid (Below w.heap.size w w1):=b1;have HF1:Hid (Calls Tryz.prog 69 #[.slice A1 nw c1,.int .i64 ((n:Int)-2)] w1 fun e w'=>(∃L c,e=.returned (.tuple #[.slice L ls.length c,.nilIface])/\q6l w1.heap.size (.slice L ls.length c) ls w')/\Below w1.heap.size w1 w'):=HFP.out w1 A1 c1 hc1 hW1;clear b1 hW1 hc1 HFP HLN;go_wp2_with fail;refine HF1.out.mono ?_;rintro e w2⟨⟨A2,c2,rfl,hS2⟩,b2⟩;have HB2:Hid (Below w.heap.size w w2):=q0g HB1.out (Nat.le_refl _) b2;have HJ2:Hid (Calls Tryz.prog 70 #[.slice A2 ls.length c2,.string ⟨#[10,35,32]⟩] w2 fun e w'=>e=.returned (.string J)/\Below w2.heap.size w2 w'):=HJ.out w2 A2 c2 _ hS2;clear b2 hS2 HJ HF1;generalize ls.length=nl at HJ2 hnl1⊢;go_wp2_with fail;refine HJ2.out.mono ?_;rintro e w3⟨rfl,b3⟩;have HB3:Hid (Below w.heap.size w w3):=q0g HB2.out (Nat.le_refl _) b3;clear b3;go_wp2;go_ret2;exact⟨by rw[HL.out];rfl,HB3.out⟩
theorem k0w{t:List Td}(h:q0b t=0)(h9:opT t≠9)(n:Nat)(hw2:n<=100)(a:Option Addr)(cap:Nat)(w:World)(hc:t.length<=cap)(hN:Tds w a t)(hsz:k1o t)(ht:z7p w):
  Calls Tryz.prog 31 #[.slice a t.length cap,.int .i64 (n:Int)] w fun e w'=>e=.returned (.tuple #[.string (if pgE t=0 then wbS (q5s n t)else⟨#[]⟩),q1p (pgE t)])/\Below w.heap.size w w':=by
 have HLD:Hid (Calls Tryz.prog 18 #[.slice a t.length cap] w fun e w'=>(∃A c,e=.returned (.tuple #[.slice A (q3g t).length c,q1p (q4v t)])/\q1u w' A (q3g t)/\(q3g t).length<=c)/\Below w.heap.size w w'):=z1b t a cap w ht.pow hc hN hsz;rw[k6n h h9,z2z h h9];by_cases h0:q4v t=0
 ·have HBP:Hid (∀(W:World)(A:Option Addr)(c:Nat),(q3g t).length<=c->q1u W A (q3g t)->Calls Tryz.prog 71 #[.slice A (q3g t).length c,.int .i64 (n:Int)] W fun e w'=>(∃s wa wl wc,∃q1 q2:Int,e=.returned (.tuple #[.string (wbS s),.slice wa wl wc,.agg #[.int .i64 q1,.int .i64 q2],.nilIface])/\dcL n t=s++[10]/\s.length<=20000)/\Below W.heap.size W w'):=fun W A c q1 q2=>k2a h0 n hw2 A c W q1 q2
  rw[if_pos h0,h0,q0u];rw[h0,q0u]at HLD;generalize dcL n t=L at HBP⊢;generalize q3g t=xs at HLD HBP;clear hN hsz ht h h9 h0;go_in;go_wp2_with fail;refine HLD.out.mono ?_;rintro e w1⟨⟨A1,c1,rfl,hN1,hc1⟩,b1⟩;have HB1:Hid (Below w.heap.size w w1):=b1;have HP1:Hid (Calls Tryz.prog 71 #[.slice A1 xs.length c1,.int .i64 (n:Int)] w1 fun e w'=>(∃s wa wl wc,∃q1 q2:Int,e=.returned (.tuple #[.string (wbS s),.slice wa wl wc,.agg #[.int .i64 q1,.int .i64 q2],.nilIface])/\L=s++[10]/\s.length<=20000)/\Below w1.heap.size w1 w'):=HBP.out w1 A1 c1 hc1 hN1;clear b1 hN1 hc1 HBP HLD;generalize xs.length=nx at HP1⊢;go_wp2_with fail;refine HP1.out.mono ?_;rintro e w2⟨⟨s,wa,wl,wc,q1,q2,rfl,hL,hsl⟩,b2⟩;have HB2:Hid (Below w.heap.size w w2):=q0g HB1.out (Nat.le_refl _) b2;have HLS:Hid (wbS L=wbS s++(⟨#[10]⟩:ByteArray)):=(show _=_ by rw[hL,<-q1q];rfl);have hss:(wbS s).size<=20000:=by rw[q5u];exact hsl
  clear b2 hL hsl HP1;generalize wbS s=S at HLS hss⊢;have g1:¬9223372036854775807<S.size+1:=by omega
  go_wp2;go_ret2;exact⟨by rw[HLS.out];rfl,by first|exact HB2.out|exact q0g HB2.out (Nat.le_refl _) (q7o w2 _)⟩
 ·rw[if_neg h0];have HE:=(show Hid (_=_)from q0o h0);generalize q1p (q4v t)=E at HLD HE⊢;generalize q3g t=xs at HLD;generalize q4v t=z at HE;clear hN hsz ht h h9 h0;go_in;go_wp2_with fail;refine HLD.out.mono ?_;rintro e w1⟨⟨A1,c1,rfl,_,_⟩,b1⟩;rw[HE.out];generalize xs.length=nx;go_wp2;go_ret2;exact⟨by rw[HE.out];rfl,b1⟩
theorem j7j:v1h:=by
 intro t a cap wd w hc hN hsz ht;by_cases hw:wd<10\/100<wd
 ·have HW:Hid (Calls Tryz.prog 28 #[.int .i64 wd] w fun e w'=>e=.returned (.iface 23 (.int .i64 1))/\w=w'):=v2m hw w;have e1:q8r t wd=1:=by rw[q8r,if_pos hw]
  rw[z6x (by rw[e1];decide),e1];clear hN hsz ht e1 hw;go_in;go_wp2_with fail;refine HW.out.mono ?_;rintro e w1⟨rfl,rfl⟩;go_wp2;go_ret2;exact⟨rfl,Below.refl _ _⟩
 ·obtain⟨n,rfl⟩:∃n:Nat,wd=(n:Int):=⟨wd.toNat,by omega⟩;have hw1:10<=n:=by omega
  have hw2:n<=100:=by omega
  have HW:Hid (Calls Tryz.prog 28 #[.int .i64 (n:Int)] w fun e w'=>e=.returned .nilIface/\w=w'):=v0b hw1 hw2 w;have HC:Hid (Calls Tryz.prog 29 #[.slice a t.length cap] w fun e w'=>e=.returned (q1p (q0b t))/\Below w.heap.size w w'):=q4k t a cap w hc hN hsz;by_cases h0:q0b t=0
  ·obtain⟨hpos,b,o,rfl,hb,c1,c2⟩:=z3b h0 hN;have HCE:Hid (∀W:World,Below w.heap.size w W->W.cell? ⟨b,o,none⟩=some (.int .i64 (opT t))):=fun W h=>((q1g h).1 _ _ hb).trans c1
   have hpi:(0:Int)<(t.length:Int):=by omega
   have e1:q8r t (n:Int)=pgE t:=z6w hw h0;rw[h0]at HC;by_cases h9:opT t=9
   ·have HPN:Hid (∀W:World,Below w.heap.size w W->Calls Tryz.prog 30 #[.slice (some ⟨b,o,none⟩) t.length cap,.int .i64 (n:Int)] W fun e w'=>e=.returned (.tuple #[.string (wbS (q5s n t)),.nilIface])/\Below W.heap.size W w'):=fun W h=>k6r h0 h9 n hw1 hw2 _ cap W hc (hN.below h) hsz (ht.below h)
    rw[h9]at HCE;rw[z6y (by rw[e1];exact z3c h9),e1,z3c h9,q0u];clear hN hsz ht e1 hw c1 c2 h0 h9;generalize wbS (q5s n t)=S at HPN⊢;go_in;go_wp2_with fail;refine HW.out.mono ?_;rintro e w1⟨rfl,rfl⟩;go_wp2_with fail;refine HC.out.mono ?_;rintro e w2⟨rfl,b2⟩;rw[q0u];have c2:=HCE.out w2 b2;have HB2:Hid (Below w.heap.size w w2):=b2;clear b2;go_wp2_with fail;refine(HPN.out _ HB2.out).mono ?_;rintro e w3⟨rfl,b3⟩;have HB3:Hid (Below w.heap.size w w3):=q0g HB2.out (Nat.le_refl _) b3;clear b3 c2;go_wp2;go_ret2;exact⟨rfl,HB3.out⟩
   ·have HPN:Hid (∀W:World,Below w.heap.size w W->Calls Tryz.prog 31 #[.slice (some ⟨b,o,none⟩) t.length cap,.int .i64 (n:Int)] W fun e w'=>e=.returned (.tuple #[.string (k8r t (n:Int)),q1p (q8r t (n:Int))])/\Below W.heap.size W w'):=fun W h=>by
     have h1:=k0w h0 h9 n hw2 (some ⟨b,o,none⟩) cap W hc (hN.below h) hsz (ht.below h);have e2:(if pgE t=0 then wbS (q5s n t)else⟨#[]⟩)=k8r t (n:Int):=by rw[k8r,e1];rfl
     rw[e2,<-e1]at h1;exact h1
    have h9b:(opT t==9)=false:=by simp[h9]
    clear hN hsz ht e1 hw c1 c2 h0 h9;generalize opT t=op0 at HCE h9b;generalize k8r t (n:Int)=S at HPN⊢;generalize q1p (q8r t (n:Int))=E at HPN⊢;go_in;go_wp2_with fail;refine HW.out.mono ?_;rintro e w1⟨rfl,rfl⟩;go_wp2_with fail;refine HC.out.mono ?_;rintro e w2⟨rfl,b2⟩;rw[q0u];have c2:=HCE.out w2 b2;have HB2:Hid (Below w.heap.size w w2):=b2;clear b2;go_wp2_with fail;refine(HPN.out _ HB2.out).mono ?_;rintro e w3⟨rfl,b3⟩;have HB3:Hid (Below w.heap.size w w3):=q0g HB2.out (Nat.le_refl _) b3;clear b3 c2;go_wp2;go_ret2;exact⟨rfl,HB3.out⟩
  ·have e1:q8r t (n:Int)=q0b t:=by rw[q8r,if_neg hw,if_pos h0]
   rw[z6x (by rw[e1];exact h0),e1];have HE:Hid (q1p (q0b t)=.iface 23 (.int .i64 (q0b t))):=q0o h0;generalize q1p (q0b t)=E at HC HE⊢;generalize q0b t=z at HE;clear hN hsz ht e1 hw h0;go_in;go_wp2_with fail;refine HW.out.mono ?_;rintro e w1⟨rfl,rfl⟩;go_wp2_with fail;refine HC.out.mono ?_;rintro e w2⟨rfl,b2⟩;rw[HE.out];go_wp2;go_ret2;exact⟨by rw[HE.out];rfl,b2⟩
end Go.Proofs.YthjapabokcajhaaGreatDoor
