import Derived.Test.YthcpdohdppkmkaaGreatDoorPu13
open Go.Proofs.Tryz
namespace Go.Proofs.YthcpdohdppkmkaaGreatDoor
open Go Go.RowKit
set_option maxRecDepth 100000
set_option maxHeartbeats 2000000
theorem v2q:∀W:List Wd,(∀w∈W,w.length<=20)->szW W<=21*W.length
 | [],_=>Nat.le_refl _
 | x::r,h=>by
  have h1:=v2q r fun w hw=>h w (by simp[hw])
  have h2:=h x (by simp);rw[q1u,List.length_cons];omega
theorem j0r{tx:ByteArray}(h:q3m tx=0):Lib.fields (btL tx)=q0j (btL tx)/\(btL tx).length<=2000/\∀b∈btL tx,b.toNat<128:=by
 obtain⟨h1,h2⟩:=z2q h;by_cases hne:btL tx=[]
 ·rw[hne];exact⟨rfl,by simp,fun b hb=>by cases hb⟩
 ·have e2:q0j (btL tx)=q5r (btL tx):=by rw[q0j,if_neg hne]
  rw[e2]at h1 h2⊢;have hj:=z5e (btL tx)
  have hpr:∀b∈btL tx,prB b=true:=by
   intro b hb;rw[<-hj]at hb;refine z9j (p:=prB) rfl (q5r (btL tx)) (fun w hw b hb=>?_) b hb;have h3:=(h2 w hw).2.2 b hb;simp only[q8z,Bool.and_eq_true,decide_eq_true_eq]at h3;simp only[prB,Bool.and_eq_true,decide_eq_true_eq];omega
  refine⟨?_,?_,fun b hb=>?_⟩
  ·rw[z2e fun b hb hs=>g2n (hpr b hb) hs,List.filter_eq_self];intro w hw
   have:=(h2 w hw).1
   cases w with
   | nil=>exact absurd rfl this
   | cons=>rfl
  ·have q1:=y5n (q5r (btL tx));have q2:=v2q (q5r (btL tx)) fun w hw=>(h2 w hw).2.1
   rw[hj]at q1;omega
  ·have:=hpr b hb
   simp only[prB,Bool.and_eq_true,decide_eq_true_eq]at this;omega
theorem k6m{tx:ByteArray}(h:q3m tx=0)(w:World)(ht:q5u w):Calls prog 164 #[.string tx] w fun e w'=>(∃g,e=.returned (.slice (some ⟨g,0,none⟩) (q0j (btL tx)).length (q0j (btL tx)).length)/\Wds w' (some ⟨g,0,none⟩) ((q0j (btL tx)).map wbS))/\Below w w w':=by
 obtain⟨h1,h2,h3⟩:=j0r h;rw[<-h1];rw[q0b]at h2;refine(fields_sh tx w (by omega) (fun j c hj=>h3 c (List.mem_of_getElem? hj)) ht.spc).mono ?_;rintro e w'⟨rfl,rfl⟩;refine⟨⟨w.heap.size,rfl,?_⟩,q1t w _⟩;intro i hi;have hi2:i<(Lib.fields (btL tx)).length:=by simpa using hi
 refine⟨w.heap.size,0,rfl,by rw[World.size_alloc];omega,?_⟩;rw[Nat.zero_add];have hk:=heap_alloc_new w (.cells ((Lib.fields (btL tx)).map fun l=>Value.string ⟨l.toArray⟩).toArray 9);rw[Lib.cell_of_heap hk]
 show((Lib.fields (btL tx)).map fun l=>Value.string ⟨l.toArray⟩).toArray[i]?=_
 rw[List.getElem?_toArray,List.getElem?_map,show(Lib.fields (btL tx))[i]?=some (Lib.fields (btL tx))[i]from List.getElem?_eq_getElem hi2];simp[wbS]
theorem k6x{t:List Td}{a:Option Addr}{w:World}(h:q0d t=0)(hN:Tds w a t):0<t.length/\∃b o,a=some ⟨b,o,none⟩/\b<w.heap.size/\w.cell? ⟨b,o,none⟩=some (.int .i64 (opT t))/\w.cell? ⟨b,o+1,none⟩=some (.string (txT t)):=by
 have hpos:=k1e h;obtain⟨b,o,e,hb,c1,c2,_⟩:=hN 0 hpos;refine⟨hpos,b,o,e,hb,?_,?_⟩
 ·rw[k0f hpos];simpa using c1
 ·cases t with
  | nil=>simp at hpos
  | cons x r=>simpa[txT]using c2
theorem z5g{b o cap n:Nat}{op:Int}{w:World}(hn:0<n)(h:w.cell? ⟨b,o,none⟩=some (.int .i64 op)):Calls prog 59 #[.slice (some ⟨b,o,none⟩) n cap] w fun e w'=>e=.returned (.bool (op==9))/\w=w':=by
 have hpi:(0:Int)<(n:Int):=by omega
 go_in;go_wp2;go_ret;exact⟨rfl,rfl⟩
theorem z7o(t:List Td)(a:Option Addr)(cap:Nat)(w:World)(ht:z8n w)(hc:t.length<=cap)(hN:Tds w a t)(hsz:z4e t):Calls prog 23 #[.slice a t.length cap] w fun e w'=>z4d t e w'/\Below w w w':=by
 have HC:Hid (Calls prog 56 #[.slice a t.length cap] w fun e w'=>e=.returned (q0s (q0d t))/\Below w w w'):=q7c t a cap w hc hN hsz;have HN:Hid (Tds w a t):=hN;have HT:Hid (z8n w):=ht;clear hN hsz ht;by_cases h0:q0d t=0
 ·obtain⟨hpos,b,o,rfl,hb,c1,c2⟩:=k6x h0 HN.o;have HI:Hid (∀W:World,Below w w W->Calls prog 59 #[.slice (some ⟨b,o,none⟩) t.length cap] W fun e w'=>e=.returned (.bool (opT t==9))/\W=w'):=fun W h=>z5g hpos (((q1c h).1 _ _ hb).trans c1)
  rw[h0]at HC;clear c1 c2;by_cases h9:opT t=9
  ·obtain⟨e1,e2,_,_⟩:=z9l h0 h9;have HO:Hid (∀W,z4d t (.returned (.tuple #[.slice none 0 0,q0s 2])) W):=fun W=>⟨none,0,by rw[e1,e2];rfl,by rw[e2];exact fun i hi=>by simp at hi,by rw[e2];exact Nat.le_refl _⟩
   rw[show(opT t==9)=true by simp[h9]]at HI;clear h0 h9 e1 e2;go_in;go_wp2_with fail;refine HC.o.mono ?_;rintro e w1⟨rfl,b1⟩;rw[q0e];have HB1:Hid (Below w w w1):=b1;clear b1;go_wp2_with fail;refine(HI.o _ HB1.o).mono ?_;rintro e w2⟨rfl,rfl⟩;go_wp2;go_ret2;exact⟨HO.o _,HB1.o⟩
  ·have HLD:Hid (∀W:World,Below w w W->Calls prog 60 #[.slice (some ⟨b,o,none⟩) t.length cap] W fun e w'=>(∃A c,e=.returned (.tuple #[.slice A (q2p t).length c,q0s (q7s t)])/\q3p w' A (q2p t)/\(q2p t).length<=c)/\Below W W w'):=fun W h=>j9x t _ cap W (HT.o.W h) h0 h9 hc (HN.o.W h)
   have HO:Hid (∀A c W,q3p W A (q2p t)->(q2p t).length<=c->z4d t (.returned (.tuple #[.slice A (q2p t).length c,q0s (q7s t)])) W):=fun A c W h h2=>⟨A,c,rfl,h,h2⟩
   rw[show(opT t==9)=false by simp[h9]]at HI;generalize q2p t=xs at HLD HO;generalize q0s (q7s t)=er at HLD HO;clear h0 h9;go_in;go_wp2_with fail;refine HC.o.mono ?_;rintro e w1⟨rfl,b1⟩;rw[q0e];have HB1:Hid (Below w w w1):=b1;clear b1;go_wp2_with fail;refine(HI.o _ HB1.o).mono ?_;rintro e w2⟨rfl,rfl⟩;go_wp2_with fail;refine(HLD.o _ HB1.o).mono ?_;rintro e w3⟨⟨A,c,rfl,hO,hl⟩,b3⟩;have HB3:Hid (Below w w w3):=q0c HB1.o Zl b3;have HN3:=(show Hid (_)from HO.o A c w3 hO hl);clear hO hl b3;generalize xs.length=nx at HN3⊢;go_wp2;go_ret2;exact⟨HN3.o,HB3.o⟩
 ·obtain⟨e1,e2,_,_⟩:=j9f h0;have HE:Hid (q0s (q0d t)=.iface 22 (.int .i64 (q0d t))):=q0f h0;have HO:Hid (∀W,z4d t (.returned (.tuple #[.slice none 0 0,q0s (q0d t)])) W):=fun W=>⟨none,0,by rw[e1,e2];rfl,by rw[e2];exact fun i hi=>by simp at hi,by rw[e2];exact Nat.le_refl _⟩
  clear e1 e2 h0;go_in;go_wp2_with fail;refine HC.o.mono ?_;rintro e w1⟨rfl,b1⟩;rw[HE.o];go_wp2;go_ret2;exact⟨by have:=HO.o w1;rw[HE.o]at this;exact this,b1⟩
theorem v0w{t:List Td}(h:q0d t=0)(h9:opT t=9):q3m (txT t)=0:=by
 rcases q2v h with⟨x,rfl,_,_,hf⟩|⟨x,F,rfl,_,_,_,hx⟩
 ·exact hf
 ·exfalso;have e:opT (x::F.N)=x.op:=rfl;rcases hx with⟨ho,_⟩|⟨ho,_⟩<;>omega
theorem k6j(t:List Td)(a:Option Addr)(cap:Nat)(w:World)(ht:q5u w)(hc:t.length<=cap)(hN:Tds w a t)(hsz:z4e t):Calls prog 101 #[.slice a t.length cap] w fun e w'=>z8l t e w'/\Below w w w':=by
 have HC:Hid (Calls prog 56 #[.slice a t.length cap] w fun e w'=>e=.returned (q0s (q0d t))/\Below w w w'):=q7c t a cap w hc hN hsz;have HN:Hid (Tds w a t):=hN;have HT:Hid (q5u w):=ht;clear hN hsz ht;by_cases h0:q0d t=0
 ·obtain⟨hpos,b,o,rfl,hb,c1,c2⟩:=k6x h0 HN.o;have HI:Hid (∀W:World,Below w w W->Calls prog 59 #[.slice (some ⟨b,o,none⟩) t.length cap] W fun e w'=>e=.returned (.bool (opT t==9))/\W=w'):=fun W h=>z5g hpos (((q1c h).1 _ _ hb).trans c1)
  have HCE:Hid (∀W:World,Below w w W->W.cell? ⟨b,o+1,none⟩=some (.string (txT t))):=fun W h=>((q1c h).1 _ _ hb).trans c2
  rw[h0]at HC;have hpi:(0:Int)<(t.length:Int):=by omega
  clear c1 c2;by_cases h9:opT t=9
  ·obtain⟨_,_,e1,e2⟩:=z9l h0 h9;have hnf:=v0w h0 h9;have htz:(txT t).size<=2000:=by rw[<-q0b];exact(j0r hnf).2.1
   have HCL:Hid (∀W:World,Calls prog 51 #[.string (txT t)] W fun e w'=>e=.returned (.string (txT t))/\Below W W w'):=fun W=>q8m _ W (by omega)
   have HNW:Hid (∀W:World,Below w w W->Calls prog 164 #[.string (txT t)] W fun e w'=>(∃g,e=.returned (.slice (some ⟨g,0,none⟩) (q0j (btL (txT t))).length (q0j (btL (txT t))).length)/\Wds w' (some ⟨g,0,none⟩) ((q0j (btL (txT t))).map wbS))/\Below W W w'):=fun W h=>k6m hnf W (HT.o.W h)
   have HO:Hid (∀A c W,Wds W A ((q0j (btL (txT t))).map wbS)->(q0j (btL (txT t))).length<=c->z8l t (.returned (.tuple #[.slice A (q0j (btL (txT t))).length c,q0s 0])) W):=fun A c W h h2=>⟨A,c,by rw[e1,e2,List.length_map],by rw[e2];exact h,by rw[e2,List.length_map];exact h2⟩
   rw[show(opT t==9)=true by simp[h9]]at HI;generalize q0j (btL (txT t))=ws at HNW HO;generalize txT t=tx at HNW HCE HCL;clear h0 h9 e1 e2 htz hnf;go_in;go_wp2_with fail;refine HC.o.mono ?_;rintro e w1⟨rfl,b1⟩;rw[q0e];have c2:=HCE.o w1 b1;have HB1:Hid (Below w w w1):=b1;clear b1;go_wp2_with fail;refine(HI.o _ HB1.o).mono ?_;rintro e w2⟨rfl,rfl⟩;go_wp2_with fail;refine(HCL.o _).mono ?_;rintro e w3⟨rfl,b3⟩;have HB3:Hid (Below w w w3):=q0c HB1.o Zl b3;clear b3;go_wp2_with fail;refine(HNW.o _ HB3.o).mono ?_;rintro e w4⟨⟨g,rfl,hS⟩,b4⟩;have HB4:Hid (Below w w w4):=q0c HB3.o Zl b4;have HN4:=(show Hid (_)from HO.o _ ws.length w4 hS Zl);clear hS b4 c2;generalize ws.length=nw at HN4⊢;go_wp2;go_ret2;exact⟨HN4.o,HB4.o⟩
  ·have HO:Hid (∀W,z8l t (.returned (.tuple #[.slice none 0 0,q0s 2])) W):=fun W=>by
    have e1:k5h t=2:=by rw[k5h,if_neg (by simp[h0]),if_neg h9]
    have e2:j3b t=[]:=by rw[j3b,if_neg (by rw[e1];decide)]
    exact⟨none,0,by rw[e1,e2];rfl,by rw[e2];exact fun i hi=>by simp at hi,by rw[e2];exact Nat.le_refl _⟩
   rw[show(opT t==9)=false by simp[h9]]at HI;clear h0 h9 HCE;go_in;go_wp2_with fail;refine HC.o.mono ?_;rintro e w1⟨rfl,b1⟩;rw[q0e];have HB1:Hid (Below w w w1):=b1;clear b1;go_wp2_with fail;refine(HI.o _ HB1.o).mono ?_;rintro e w2⟨rfl,rfl⟩;go_wp2;go_ret2;exact⟨HO.o _,HB1.o⟩
 ·obtain⟨_,_,e1,e2⟩:=j9f h0;have HE:Hid (q0s (q0d t)=.iface 22 (.int .i64 (q0d t))):=q0f h0;have HO:Hid (∀W,z8l t (.returned (.tuple #[.slice none 0 0,q0s (q0d t)])) W):=fun W=>⟨none,0,by rw[e1,e2];rfl,by rw[e2];exact fun i hi=>by simp at hi,by rw[e2];exact Nat.le_refl _⟩
  clear e1 e2 h0;go_in;go_wp2_with fail;refine HC.o.mono ?_;rintro e w1⟨rfl,b1⟩;rw[HE.o];go_wp2;go_ret2;exact⟨by have:=HO.o w1;rw[HE.o]at this;exact this,b1⟩
end Go.Proofs.YthcpdohdppkmkaaGreatDoor
