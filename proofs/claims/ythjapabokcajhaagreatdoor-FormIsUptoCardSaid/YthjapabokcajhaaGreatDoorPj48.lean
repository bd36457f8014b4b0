/- Texts as one: PgO, PgL, LawFormIs. -/
import Derived.Test.YthjapabokcajhaaGreatDoorPi25
import Derived.Test.YthjapabokcajhaaGreatDoorPj42
import Derived.Test.YthjapabokcajhaaGreatDoorPj43
open Go.Proofs.Tryz
namespace Go.Proofs.YthjapabokcajhaaGreatDoor
open Go Go.RowKit
set_option maxRecDepth 100000
set_option maxHeartbeats 4000000
theorem z4s(wd:Int)(w:World):Calls prog 6 #[wd] w fun e w'=>e=.returned (.bool (decide (¬(wd<10\/100<wd))))/\w=w':=by
 by_cases h1:wd<10
 ·rw[show decide (¬(wd<10\/100<wd))=false by simp;omega];have h2:¬10<=wd:=by omega
  go_in;go_wp2;go_ret;exact⟨rfl,rfl⟩
 ·have h2:10<=wd:=by omega
  by_cases h3:wd<=100
  ·rw[show decide (¬(wd<10\/100<wd))=true by simp;omega];go_in;go_wp2;go_ret;exact⟨rfl,rfl⟩
  ·rw[show decide (¬(wd<10\/100<wd))=false by simp;omega];go_in;go_wp2;go_ret;exact⟨rfl,rfl⟩
inductive j0w (t:List Td) (wd:Nat):Ending->Prop where
 | ok (h:pgE t=0):j0w t wd (.returned (.tuple #[.string (wbS (z3c wd t)),.int .i64 0,.bool true]))
 | full (h:pgE t≠0):j0w t wd (.returned (.tuple #[.string ⟨#[]⟩,.int .i64 (pgE t),.bool true]))
 | many (s:ByteArray):j0w t wd (.returned (.tuple #[.string s,.int .i64 0,.bool false]))
theorem y1g(acc:List UInt8)(l:ByteArray):wbS acc++(⟨#[35,32]⟩:ByteArray)++l++(⟨#[10]⟩:ByteArray)=wbS (acc++ntF l):=by
 have e1:wbS acc++wbS [35,32]=wbS (acc++[35,32]):=q1t _ _;have e2:wbS (acc++[35,32])++wbS (btL l)=wbS (acc++[35,32]++btL l):=q1t _ _;have e3:wbS (acc++[35,32]++btL l)++wbS [10]=wbS (acc++[35,32]++btL l++[10]):=q1t _ _;have e4:acc++ntF l=acc++[35,32]++btL l++[10]:=by simp[ntF]
 rw[e4,<-e3,<-e2,<-e1,z1e];rfl
theorem v2n{ls:List ByteArray}{i:Nat}(h:i<ls.length):(ls.take (i+1)).flatMap ntF=(ls.take i).flatMap ntF++ntF ls[i]:=by
 rw[List.take_succ_eq_append_getElem h,List.flatMap_append];simp
theorem k9q{t:List Td}(h:q0b t=0)(h9:opT t=9)(wd:Nat)(hw1:10<=wd)(hw2:wd<=100)(a:Option Addr)(cap:Nat)(w:World)(hN:Tds w a t):
  Calls prog 8 #[.slice a t.length cap,↑(wd:Int)] w fun e w'=>e=.returned (.tuple #[.string (wbS (z3c wd t)),.int .i64 0,.bool true])/\Below w w w':=by
 obtain⟨hpos,b,o,rfl,hb,c1,c2⟩:=z4o h hN;have hpi:(0:Int)<(t.length:Int):=by omega
 have hnf:=k4i h h9;have hF:=z8z hnf;rw[z4m h h9];rw[h9]at c1;have htz:(txT t).size<=2000:=by rw[<-q0c];exact(z9a hnf).2.1
 have HNW:=hid (q3z (txT t) w (by omega));have HLE:Hid (ntL wd (txT t)=if q0e (btL (txT t))=[]then [35,10]else(q1q (wd-2) ((q0e (btL (txT t))).map wbS)).flatMap ntF):=rfl;generalize ntL wd (txT t)=L at HLE⊢
 have HFO:Hid (∀(A:Option Addr)(c:Nat)(W:World),q2r w (.slice A (q0e (btL (txT t))).length c) ((q0e (btL (txT t))).map wbS) W->Calls prog 25 #[.slice A (q0e (btL (txT t))).length c,↑((wd:Int)-2)] W fun e w'=>(∃L c,e=.returned (.slice L (q1q (wd-2) ((q0e (btL (txT t))).map wbS)).length c)/\Wds w' L (q1q (wd-2) ((q0e (btL (txT t))).map wbS)))/\Below W W w'):=fun A c W hS=>by
  obtain⟨q1,q2,_⟩:=z4y hS;have e:((wd:Int)-2)=((wd-2:Nat):Int):=by omega
  rw[e];have h3:=k8r ((q0e (btL (txT t))).map wbS) A c (wd-2) W (by omega) hF (by omega) (q4g hS);rw[List.length_map]at h3;refine h3.mono ?_;rintro e w'⟨⟨L,c,rfl,hL⟩,hb⟩;exact⟨⟨L,c,rfl,q4g hL⟩,hb⟩
 have hz0:q0e (btL (txT t))=[]->(q1q (wd-2) ((q0e (btL (txT t))).map wbS))=[]:=fun e=>by rw[e];exact q4c _
 have hz1:q0e (btL (txT t))≠[]->(q1q (wd-2) ((q0e (btL (txT t))).map wbS))≠[]:=fun e=>by
  rw[q3t _ (by simpa using e)];simp
 have hsz:=z8j (wd-2) _ _ Zl hF;have hln:=q7s (wd-2) _ ((q0e (btL (txT t))).map wbS) Zl;have hl60:=hF.1;generalize q1q (wd-2) ((q0e (btL (txT t))).map wbS)=ls at HLE HFO hz0 hz1 hsz hln;have hls:ls.length<=60:=by omega
 have HL2:Hid (ls=[]->L=[35,10]):=fun e=>by
  have:q0e (btL (txT t))=[]:=by
   rcases Classical.em (q0e (btL (txT t))=[])with h|h
   ·exact h
   ·exact absurd e (hz1 h)
  rw[HLE.o,if_pos this]
 have HL3:Hid (ls≠[]->L=ls.flatMap ntF):=fun e=>by
  have:q0e (btL (txT t))≠[]:=fun h=>e (hz0 h)
  rw[HLE.o,if_neg this]
 generalize(q0e (btL (txT t))).length=nw at HNW HFO
 generalize(q0e (btL (txT t))).map wbS=ws at HNW HFO hl60 hF hln
 generalize txT t=tx at *;have HSZ:=hid hsz;clear h h9 hN hnf hF hz0 hz1 hsz hln HLE;go_in;go_wp2_with fail;refine HNW.o.mono ?_;rintro e w1⟨⟨A1,k1,rfl,hS1⟩,b1⟩;have HF1:=hid (HFO.o A1 k1 w1 hS1);have HB1:=hid b1;clear hS1 b1 HNW HFO c1 c2;go_wp2_with fail;refine HF1.o.mono ?_;rintro e w2⟨⟨A2,k2,rfl,hW2⟩,b2⟩;have HB2:=hid (q0d HB1.o Zl b2);have HW2:=hid hW2;clear hW2 b2 HF1 HB1;generalize hn:ls.length=n at hls⊢;have HN2:=hid hn;clear hn;go_wp2_with fail
 go_loopw [8,9] (fun s x wr=>w2=wr/\∃i:Nat,i<=n/\x=(i:Int)/\s=.string (wbS ((ls.take i).flatMap ntF))) (fun _ x _=>n-(intOf x).toNat)
 case atStart=>exact⟨rfl,0,Nat.zero_le _,rfl,rfl⟩
 case round=>
  obtain⟨rfl,i,hi,rfl,rfl⟩:=hrel;have hll:=HN2.o;by_cases hlt:i<n
  ·have hii:(i:Int)<(n:Int):=by omega
   obtain⟨b0,o0,rfl,hb0,d0⟩:=HW2.o i (by omega);have hs0:ls[i].size<=1260:=HSZ.o _ (List.getElem_mem _)
   have h1:=k3q (f:=ntF) (b:=1300) (ls.take i) fun l hl=>by
    have:=HSZ.o l (List.mem_of_mem_take hl)
    simp only[ntF,List.length_cons,List.length_append,List.length_nil,q0c];omega
   have h2:(ls.take i).length*1300<=60*1300:=Nat.mul_le_mul_right _ (by rw[List.length_take];omega);have HFE:=(show Hid (_=_)from v2n (ls:=ls) (i:=i) (by omega));have HAP:Hid (∀l:ByteArray,wbS ((ls.take i).flatMap ntF)++(⟨#[35,32]⟩:ByteArray)++l++(⟨#[10]⟩:ByteArray)=wbS ((ls.take i).flatMap ntF++ntF l)):=fun l=>y1g _ l
   have hq:(wbS ((ls.take i).flatMap ntF)).size<=100000:=by rw[z2q];omega
   generalize ls[i]=l at d0 hs0 HFE;generalize wbS ((ls.take i).flatMap ntF)=S at HAP hq⊢;have g1:¬9223372036854775807<S.size+2:=by omega
   have g2:¬9223372036854775807<S.size+2+l.size:=by omega
   have g3:¬9223372036854775807<S.size+2+l.size+1:=by omega
   clear h1 h2 hll;go_wp2;refine⟨⟨trivial,i+1,hlt,by go_num,?_⟩,?_⟩
   ·rw[HFE.o,<-HAP.o l]
   ·simp[intOf];omega
  ·have hii:¬(i:Int)<(n:Int):=by omega
   have hie:ls.take i=ls:=List.take_of_length_le (by omega);rw[hie];by_cases h0:n=0
   ·have hls0:ls=[]:=List.eq_nil_of_length_eq_zero (by omega);have HLX:=(show Hid (_=_)from HL2.o hls0);subst h0;clear hll hie HL2 HL3 HN2 hls0;generalize ls.flatMap ntF=X;go_wp2;go_ret3;exact⟨by rw[HLX.o];rfl,HB2.o⟩
   ·have hls0:ls≠[]:=fun e=>h0 (by rw[<-hll,e];rfl)
    have HLX:Hid (wbS L=wbS (ls.flatMap ntF)):=(show _=_ by rw[HL3.o hls0]);have hn0:((n:Int)==0)=false:=by simp;omega
    clear hll hie HL2 HL3 HN2 hls0;generalize wbS (ls.flatMap ntF)=X at HLX⊢;go_wp2;go_ret3;exact⟨by rw[HLX.o];rfl,HB2.o⟩
theorem y3r{t:List Td}{wd:Nat}{u:List Int}(h:(q0r t).best wd=some ((q0r t).cst wd u,u))(hl:q9a t=0):∃s,shS ((q0r t).show u)=wbS s/\dcL wd t=s++[10]/\s.length<=2000000:=by
 have hb:(q0r t).best wd=some (bs wd 0 [(0,q0r t)]):=by rw[q9y,q3i]
 obtain⟨_,b2,_⟩:=q5z hb;rw[hb]at h
 have e:(bs wd 0 [(0,q0r t)]).2=u:=by
  have:=congrArg Prod.snd (Option.some.inj h)
  exact this
 rw[e]at b2;refine⟨(q0r t).txt u,?_,?_,(j4s hl b2).2⟩
 ·rw[b2];rfl
 ·rw[dcL,e]
theorem j7n{t:List Td}(h:q0b t=0)(h9:opT t≠9)(wd:Nat)(a:Option Addr)(cap:Nat)(w:World)(hN:Tds w a t):
  Calls prog 8 #[.slice a t.length cap,(wd:Int)] w fun e w'=>j0w t wd e/\Below w w w':=by
 obtain⟨hpos,b,o,rfl,hb,c1,c2⟩:=z4o h hN;have hpi:(0:Int)<(t.length:Int):=by omega
 have h9b:(opT t==9)=false:=by simp[h9]
 have HD:Hid (Calls prog 26 #[.slice (some ↑(b,o)) t.length cap,.int .i64 0] w fun e w'=>NdR w (q0r t).nodes e w'):=y5m h h9 w hN;have hn9:=(z3u h h9).n;by_cases hm:400<(q0r t).nodes.length
 ·have e3:pgE t=3:=by rw[pgE,if_neg h9,if_pos hm]
  have HR:Hid (j0w t wd (.returned (.tuple #[.string ⟨#[]⟩,.int .i64 3,.bool true]))):=by
   have:=j0w.full (t:=t) (wd:=wd) (by rw[e3];decide)
   rw[e3]at this;exact this
  generalize(q0r t).nodes=xs at HD hm hn9
  generalize opT t=op0 at c1 h9b;have hmi:(400:Int)<(xs.length:Int):=by omega
  clear h h9 hN c2 e3;go_in;go_wp2_with fail;refine HD.o.mono ?_;rintro e w1⟨A1,k1,rfl,_,b1⟩;go_wp2;go_ret3;exact⟨HR.o,b1⟩
 ·have e0:pgE t=0:=by rw[pgE,if_neg h9,if_neg hm]
  have hly:q9a t=0:=by rw[<-k4q h h9];exact e0
  have HBO:Hid (∀(A:Option Addr)(c:Nat)(W:World),q1u W A (q0r t).nodes->Calls prog 27 #[.slice A (q0r t).nodes.length c,(wd:Int)] W fun e w'=>BOR (q0r t) wd W e w'):=fun A c W h1=>k8b (q0r t) (z3u h h9).w (q0r t).nodes rfl (by omega) wd A c W h1
  have HDC:Hid (∀u,(q0r t).best wd=some ((q0r t).cst wd u,u)->∃s,shS ((q0r t).show u)=wbS s/\dcL wd t=s++[10]/\s.length<=2000000):=fun u hu=>y3r hu hly
  have HR:Hid (∀s,dcL wd t=s++[10]->j0w t wd (.returned (.tuple #[.string (wbS s++(⟨#[10]⟩:ByteArray)),.int .i64 0,.bool true]))):=fun s hs=>by
   have h1:=j0w.ok (t:=t) (wd:=wd) e0;rw[z9c h h9,hs,<-q1t]at h1;exact h1
  have HRM:Hid (∀s,j0w t wd (.returned (.tuple #[.string s,.int .i64 0,.bool false]))):=fun s=>.many s
  generalize(q0r t).nodes=xs at HD hm hn9 HBO
  generalize opT t=op0 at c1 h9b;have hmi:¬(400:Int)<(xs.length:Int):=by omega
  clear h h9 hN c2 e0 hly;go_in;go_wp2_with fail;refine HD.o.mono ?_;rintro e w1⟨A1,k1,rfl,hO1,b1⟩;have HB1:=hid b1;have HC1:=hid (HBO.o A1 k1 w1 hO1.nods);clear hO1 b1 HBO HD c1;generalize xs.length=nx at HC1 hm hmi⊢;go_wp2_with fail;refine HC1.o.mono ?_;rintro e w2⟨⟨_,u,wa,wc,hbu,rfl,_⟩|⟨_,rfl⟩,b2⟩
  ·obtain⟨s,e1,e2,hsl⟩:=HDC.o u hbu;rw[e1];have HR1:=(show Hid (_)from HR.o s e2);have HB2:=hid (q0d HB1.o Zl b2);have hs9:(wbS s).size<=2000000:=by rw[z2q];exact hsl
   clear e1 e2 hsl b2 hbu HDC HR;generalize wbS s=S at HR1 hs9
   generalize((q0r t).cst wd u).1=q1
   generalize((q0r t).cst wd u).2=q2
   generalize u.length=ul;have g1:¬9223372036854775807<S.size+1:=by omega
   go_wp2;go_ret3;exact⟨HR1.o,q0d HB2.o Zl (q3p w2 _)⟩
  ·have HB2:=hid (q0d HB1.o Zl b2);clear b2;go_wp2;go_ret3;exact⟨HRM.o _,q0d HB2.o Zl (q3p w2 _)⟩
theorem z7b{t:List Td}(h:q0b t=0)(wd:Nat)(hw1:10<=wd)(hw2:wd<=100)(a:Option Addr)(cap:Nat)(w:World)(hN:Tds w a t):
  Calls prog 8 #[.slice a t.length cap,(wd:Int)] w fun e w'=>j0w t wd e/\Below w w w':=by
 by_cases h9:opT t=9
 ·refine(k9q h h9 wd hw1 hw2 a cap w hN).mono ?_;rintro e w'⟨rfl,hb⟩;exact⟨.ok (z9f h9),hb⟩
 ·exact j7n h h9 wd a cap w hN
inductive v0s (ps:List (List Td)) (wd:Nat):Ending->Prop where
 | ok (h:fmE ps=0):v0s ps wd (.returned (.tuple #[.string (wbS (q9i wd ps)),.int .i64 0,.bool true]))
 | full (h:fmE ps≠0):v0s ps wd (.returned (.tuple #[.string ⟨#[]⟩,.int .i64 (fmE ps),.bool true]))
 | many:v0s ps wd (.returned (.tuple #[.string ⟨#[]⟩,.int .i64 0,.bool false]))
theorem k2c{t:List Td}(h:pgE t≠0):pgE t=3:=by
 unfold pgE at h⊢
 split
 ·rename_i h9;rw[if_pos h9]at h;exact absurd rfl h
 ·rename_i h9;rw[if_neg h9]at h
  split
  ·rfl
  ·rename_i hm;rw[if_neg hm]at h;exact absurd rfl h
structure v8k(ps:List (List Td))(wd:Nat)(w:World)(i:Nat)(wr:World):Prop where
 le:i<=ps.length
 z:fmE (ps.drop i)=fmE ps
 b:Below w w wr
 ln:(q9i wd (ps.take i)).length<=i*2000001
theorem v9o{ps:List (List Td)}{i:Nat}(h:i<ps.length):ps.drop i=ps[i]::ps.drop (i+1):=List.drop_eq_getElem_cons h
theorem v9t{ps:List (List Td)}{i:Nat}(wd:Nat)(h:i<ps.length):q9i wd (ps.take (i+1))=q9i wd (ps.take i)++z3c wd ps[i]:=by
 rw[q9i,List.take_succ_eq_append_getElem h,List.flatMap_append];simp[q9i]
theorem z4h{ps:List (List Td)}(hall:∀t∈ps,q0b t=0)(hlen:ps.length<=20)(wd:Nat)(hw1:10<=wd)(hw2:wd<=100)(a:Option Addr)(cap:Nat)(w:World)(hP:Prg w a ps):
  Calls prog 12 #[.slice a ps.length cap,(wd:Int)] w fun e w'=>v0s ps wd e/\Below w w w':=by
 have HP:Hid (Prg w a ps):=hP;have HA:Hid (∀t∈ps,q0b t=0):=hall;clear hP hall;generalize hn:ps.length=n at hlen⊢;have HN:Hid (ps.length=n):=hn;clear hn;have HS0:Hid (v8k ps wd w 0 w):=⟨Nat.zero_le _,rfl,Below.refl _ _,by simp[q9i]⟩;go_in;go_wp2_with fail
 go_loopw [7,8] (fun s x wr=>∃i:Nat,x=(i:Int)/\s=.string (wbS (q9i wd (ps.take i)))/\v8k ps wd w i wr) (fun _ x _=>n-(intOf x).toNat)
 case atStart=>exact⟨0,rfl,rfl,HS0.o⟩
 case round=>
  obtain⟨i,rfl,rfl,hL⟩:=hrel;have hll:=HN.o;have hle:=hL.le;by_cases hlt:i<n
  ·have hii:(i:Int)<(n:Int):=by omega
   have hip:i<ps.length:=by omega
   obtain⟨b0,o0,A0,c0,rfl,hb0,d0,hc0,hT0⟩:=(HP.o.below hL.b) i hip;have ht0:=HA.o ps[i] (List.getElem_mem _);have HO1:Hid (Calls prog 8 #[.slice A0 ps[i].length c0,(wd:Int)] wr fun e w'=>j0w ps[i] wd e/\Below wr wr w'):=z7b ht0 wd hw1 hw2 A0 c0 wr hT0;have HL:=(show Hid (_)from hL);have hdr:=v9o hip;have hz0:=hL.z;rw[hdr]at hz0;have HZ:=(show Hid (_=_)from hz0);have HFO:=(show Hid (_=_)from v9t (ps:=ps) wd hip);have HTL:Hid (q0b ps[i]=0):=ht0;have hq:=hL.ln;clear hL hdr hz0 ht0 hT0;generalize hpi:ps[i]=t at HO1 HZ HFO HTL d0 hc0;generalize t.length=tn at HO1 d0;clear hpi hc0;go_wp2_with fail;refine HO1.o.mono ?_;rintro e w1⟨hR,b1⟩;have HB1:Hid (Below w w w1):=q0d HL.o.b Zl b1;cases hR with
   | ok hz=>
    have hol:=j7q HTL.o hz wd
    have HX:Hid (v8k ps wd w (i+1) w1):=by
     refine⟨by omega,?_,HB1.o,?_⟩
     ·have:=HZ.o
      rw[k6e hz]at this;exact this
     ·rw[HFO.o,List.length_append];omega
    have HW:Hid (wbS (q9i wd (ps.take (i+1)))=wbS (q9i wd (ps.take i))++wbS (z3c wd t)):=by
     show _=_;rw[HFO.o,q1t]
    have hs1:(wbS (q9i wd (ps.take i))).size<=50000000:=by rw[z2q];omega
    have hs2:(wbS (z3c wd t)).size<=2000001:=by rw[z2q];exact hol
    clear hz hol b1 HO1 hq HZ HFO HTL;generalize wbS (q9i wd (ps.take i))=S at HW hs1⊢;generalize wbS (z3c wd t)=T at HW hs2⊢;have g1:¬9223372036854775807<S.size+T.size:=by omega
    go_wp2;refine⟨⟨i+1,by go_num,?_,HX.o⟩,?_⟩
    ·rw[HW.o]
    ·simp[intOf];omega
   | full hz=>
    have HR:Hid (v0s ps wd (.returned (.tuple #[.string ⟨#[]⟩,.int .i64 3,.bool true]))):=by
     have h1:=HZ.o;rw[j4b hz,k2c hz]at h1;have h2:=v0s.full (ps:=ps) (wd:=wd) (by rw[<-h1];decide);rw[<-h1]at h2;exact h2
    rw[k2c hz];clear hz b1 HO1 hq HZ HFO HTL;go_wp2;go_ret3;exact⟨HR.o,HB1.o⟩
   | many s=>
    clear b1 HO1 hq HZ HFO HTL;go_wp2;go_ret3;exact⟨.many,HB1.o⟩
  ·have hii:¬(i:Int)<(n:Int):=by omega
   have hie:ps.take i=ps:=List.take_of_length_le (by omega);have hid:ps.drop i=[]:=List.drop_eq_nil_of_le (by omega);rw[hie]
   have HR:Hid (v0s ps wd (.returned (.tuple #[.string (wbS (q9i wd ps)),.int .i64 0,.bool true]))):=by
    have h1:=hL.z;rw[hid]at h1;exact .ok h1.symm
   have HB:Hid (Below w w wr):=hL.b;clear hL hie hid;generalize wbS (q9i wd ps)=S at HR⊢;go_wp2;go_ret3;exact⟨HR.o,HB.o⟩
set_option maxHeartbeats 8000000
theorem z8n(hO:y3f)(hF:y3a)(t:List Td)(a:Option Addr)(cap:Nat)(s:ByteArray)(wd:Int)(w:World)(hc:t.length<=cap)(hN:Tds w a t)(hsz:v6f t)(hg:Hnd w)(ht:z5t w)(h:wd<10\/100<wd):
  Calls prog 3 #[.slice a t.length cap,.string s,.int .i64 wd] w fun e w'=>e=.returned (.bool true)/\Below w w w':=by
 have HG:=hid hg;have HFM:Hid (∀W:World,Below w w W->Calls prog 13 #[.string s,.int .i64 wd] W fun e w'=>∃T k f,e=.returned (.tuple #[.string T,.int .i64 k,q1y f])/\z5y s wd T k f/\Below W W w'):=fun W h=>hF s _ W (ht.below h)
 have HPO:Hid (∀W:World,Below w w W->Calls prog 9 #[.slice a t.length cap,.int .i64 wd] W fun e w'=>e=.returned (.tuple #[.string (k7a t wd),q1y (z5w t wd)])/\Below W W w'):=fun W h=>hO t a cap _ W hc (hN.below h) hsz.nine (ht.below h)
 have HWD:Hid (Calls prog 6 #[.int .i64 wd] w fun e w'=>e=.returned (.bool false)/\w=w'):=by
  have h1:=z4s wd w;rw[show decide (¬(wd<10\/100<wd))=false by simp;omega]at h1;exact h1
 have e1:z5w t wd=1:=by rw[z5w,if_pos h]
 rw[z2a (by rw[e1];decide),e1]at HPO;have HDT:Hid (∀T k f,z5y s wd T k f->T=⟨#[]⟩/\k=0/\f=1):=fun T k f hR=>q6q hR (.range h)
 clear hN hsz hg ht e1 hO hF;go_in;go_wp2_with fail;refine HWD.o.mono ?_;rintro e w1⟨rfl,rfl⟩;go_wp2_with fail;refine(HPO.o _ Zb).mono ?_;rintro e w2⟨rfl,b2⟩;have HB2:=hid b2;clear b2;go_wp2_with fail;refine(q2k 1 1 _ (HG.o.below HB2.o)).mono ?_;rintro e w3⟨rfl,b3⟩;have HB3:=hid (q0d HB2.o Zl b3);clear b3;go_wp2_with fail;refine(HFM.o _ HB3.o).mono ?_;rintro e w4⟨T,k,f,rfl,hR,b4⟩;obtain⟨rfl,rfl,rfl⟩:=HDT.o T k f hR;have HB4:=hid (q0d HB3.o Zl b4);clear b4 hR;go_wp2_with fail;refine(q2k 1 1 _ (HG.o.below HB4.o)).mono ?_;rintro e w5⟨rfl,b5⟩;have HB5:=hid (q0d HB4.o Zl b5);clear b5;go_wp2;go_ret;exact⟨rfl,HB5.o⟩
theorem k8x(hO:y3f)(hF:y3a)(t:List Td)(a:Option Addr)(cap:Nat)(s:ByteArray)(n:Nat)(w:World)(hc:t.length<=cap)(hN:Tds w a t)(hsz:v6f t)(hg:Hnd w)(ht:z5t w)(hw1:10<=n)(hw2:n<=100)(h:q0b t≠0):
  Calls prog 3 #[.slice a t.length cap,.string s,.int .i64 (n:Int)] w fun e w'=>e=.returned (.bool true)/\Below w w w':=by
 have HG:=hid hg;have HFM:Hid (∀W:World,Below w w W->Calls prog 13 #[.string s,.int .i64 (n:Int)] W fun e w'=>∃T k f,e=.returned (.tuple #[.string T,.int .i64 k,q1y f])/\z5y s (n:Int) T k f/\Below W W w'):=fun W h=>hF s _ W (ht.below h)
 have HPO:Hid (∀W:World,Below w w W->Calls prog 9 #[.slice a t.length cap,.int .i64 (n:Int)] W fun e w'=>e=.returned (.tuple #[.string (k7a t (n:Int)),q1y (z5w t (n:Int))])/\Below W W w'):=fun W h=>hO t a cap _ W hc (hN.below h) hsz.nine (ht.below h)
 have hnw:=k6v hw1 hw2
 have HWD:Hid (Calls prog 6 #[.int .i64 (n:Int)] w fun e w'=>e=.returned (.bool true)/\w=w'):=by
  have h1:=z4s (n:Int) w;rw[show decide (¬((n:Int)<10\/100<(n:Int)))=true by simp;omega]at h1;exact h1
 have HTF:=hid (q5u t a cap w hN hsz);have HPA:Hid (∀W:World,Calls prog 11 #[.string s] W fun e w'=>k5k s W e w'):=fun W=>z4q s W
 have HLI:Hid (∀(W:World)(A:Option Addr)(c:Nat)(ps:List (List Td)),q8j s ps 0 0->Prg W A ps->Calls prog 12 #[.slice A ps.length c,.int .i64 (n:Int)] W fun e w'=>v0s ps n e/\Below W W w'):=fun W A c ps hR hQ=>z4h (q4p hR).2.2.2 (q4p hR).2.2.1 n hw1 hw2 A c W hQ
 have HD1:Hid (∀ps k f,q8j s ps k f->f≠0->∀T k' f',z5y s (n:Int) T k' f'->T=⟨#[]⟩/\k'=k/\f'=f):=fun ps k f hp hf T k' f' hR=>q6q hR (.bad hnw hp hf)
 have HD2:Hid (∀ps,q8j s ps 0 0->fmE ps≠0->∀T k' f',z5y s (n:Int) T k' f'->T=⟨#[]⟩/\k'=0/\f'=fmE ps):=fun ps hp hf T k' f' hR=>q6q hR (.full hnw hp hf)
 have HD3:Hid (∀ps,q8j s ps 0 0->fmE ps=0->∀T k' f',z5y s (n:Int) T k' f'->T=wbS (q9i n ps)/\k'=0/\f'=0):=fun ps hp hf T k' f' hR=>q6q hR (.ok hnw hp hf)
 have e1:z5w t (n:Int)=q0b t:=by rw[z5w,if_neg hnw,if_pos h]
 rw[z2a (by rw[e1];exact h),e1]at HPO;have hee:(q0b t==q0b t)=true:=by simp
 have he0:(q0b t==0)=false:=by simp[h]
 clear hN hsz hg ht e1 hO hF;generalize q0b t=E at HTF HPO hee he0 h;clear h;go_in;go_wp2_with fail;refine HWD.o.mono ?_;rintro e w1⟨rfl,rfl⟩;go_wp2_with fail;refine HTF.o.mono ?_;rintro e w2⟨rfl,b2⟩;have HB2:=hid b2;clear b2;go_wp2_with fail;refine(HPO.o _ HB2.o).mono ?_;rintro e w3⟨rfl,b3⟩;have HB3:=hid (q0d HB2.o Zl b3);clear b3;go_wp2_with fail;refine(q2k E E _ (HG.o.below HB3.o)).mono ?_;rintro e w4⟨rfl,b4⟩;have HB4:=hid (q0d HB3.o Zl b4);clear b4;go_wp2_with fail;refine(HPA.o _).mono ?_;rintro e wa⟨ps,k,f,A,c,rfl,hR,hQ,_,_,ba⟩;have HBa:=hid (q0d HB4.o Zl ba);clear ba;by_cases hf:f=0
 ·subst hf;obtain⟨rfl,_,_,_⟩:=q4p hR;have HL1:=hid (HLI.o wa A c ps hR hQ);have HRR:=hid hR;clear hR hQ HLI HPA;generalize ps.length=np at HL1⊢;go_wp2_with fail;refine HL1.o.mono ?_;rintro e wb⟨hL,bb⟩;have HBb:=hid (q0d HBa.o Zl bb);clear bb HL1 HBa;cases hL with
  | ok hz=>
   have HDD:=(show Hid (_)from HD3.o ps HRR.o hz);clear HD1 HD2 HD3 hz;generalize wbS (q9i n ps)=S at HDD⊢;have hss:(S.toList==S.toList)=true:=by simp
   go_wp2_with fail;refine(HFM.o _ HBb.o).mono ?_;rintro e wc⟨T,k',f',rfl,hR,bc⟩;obtain⟨rfl,rfl,rfl⟩:=HDD.o T k' f' hR;have HBc:=hid (q0d HBb.o Zl bc);clear bc hR HDD;go_wp2_with fail;refine(q2k 0 0 _ (HG.o.below HBc.o)).mono ?_;rintro e wd⟨rfl,bd⟩;have HBd:=hid (q0d HBc.o Zl bd);clear bd;go_wp2;go_ret;exact⟨rfl,HBd.o⟩
  | full hz=>
   have HDD:=(show Hid (_)from HD2.o ps HRR.o hz);have hzz:(fmE ps==fmE ps)=true:=by simp
   have hz0:(fmE ps==0)=false:=by simp[hz]
   clear HD1 HD2 HD3 hz;generalize fmE ps=E at HDD hzz hz0⊢;go_wp2_with fail;refine(HFM.o _ HBb.o).mono ?_;rintro e wc⟨T,k',f',rfl,hR,bc⟩;obtain⟨rfl,rfl,rfl⟩:=HDD.o T k' f' hR;have HBc:=hid (q0d HBb.o Zl bc);clear bc hR HDD;go_wp2_with fail;refine(q2k _ _ _ (HG.o.below HBc.o)).mono ?_;rintro e wd⟨rfl,bd⟩;have HBd:=hid (q0d HBc.o Zl bd);clear bd;go_wp2;go_ret;exact⟨rfl,HBd.o⟩
  | many=>
   go_wp2;go_ret;exact⟨rfl,HBb.o⟩
 ·have HDD:=(show Hid (_)from HD1.o ps k f hR hf);have hff:(f==f)=true:=by simp
  have hkk:(k==k)=true:=by simp
  have hf0:(f==0)=false:=by simp[hf]
  clear hR hQ HLI HPA HD1 HD2 HD3 hf;generalize ps.length=np;go_wp2_with fail;refine(HFM.o _ HBa.o).mono ?_;rintro e wc⟨T,k',f',rfl,hR,bc⟩;obtain⟨rfl,rfl,rfl⟩:=HDD.o T k' f' hR;have HBc:=hid (q0d HBa.o Zl bc);clear bc hR HDD;go_wp2_with fail;refine(q2k _ _ _ (HG.o.below HBc.o)).mono ?_;rintro e wd⟨rfl,bd⟩;have HBd:=hid (q0d HBc.o Zl bd);clear bd;go_wp2;go_ret;exact⟨rfl,HBd.o⟩
theorem k8y(hO:y3f)(hF:y3a)(t:List Td)(a:Option Addr)(cap:Nat)(s:ByteArray)(n:Nat)(w:World)(hc:t.length<=cap)(hN:Tds w a t)(hsz:v6f t)(hg:Hnd w)(ht:z5t w)(hw1:10<=n)(hw2:n<=100)(h:q0b t=0):
  Calls prog 3 #[.slice a t.length cap,.string s,.int .i64 (n:Int)] w fun e w'=>e=.returned (.bool true)/\Below w w w':=by
 have HG:=hid hg;have HFM:Hid (∀W:World,Below w w W->Calls prog 13 #[.string s,.int .i64 (n:Int)] W fun e w'=>∃T k f,e=.returned (.tuple #[.string T,.int .i64 k,q1y f])/\z5y s (n:Int) T k f/\Below W W w'):=fun W h=>hF s _ W (ht.below h)
 have HPO:Hid (∀W:World,Below w w W->Calls prog 9 #[.slice a t.length cap,.int .i64 (n:Int)] W fun e w'=>e=.returned (.tuple #[.string (k7a t (n:Int)),q1y (z5w t (n:Int))])/\Below W W w'):=fun W h=>hO t a cap _ W hc (hN.below h) hsz.nine (ht.below h)
 have hnw:=k6v hw1 hw2
 have HWD:Hid (Calls prog 6 #[.int .i64 (n:Int)] w fun e w'=>e=.returned (.bool true)/\w=w'):=by
  have h1:=z4s (n:Int) w;rw[show decide (¬((n:Int)<10\/100<(n:Int)))=true by simp;omega]at h1;exact h1
 have HTF:=hid (q5u t a cap w hN hsz);have HPA:Hid (∀W:World,Calls prog 11 #[.string s] W fun e w'=>k5k s W e w'):=fun W=>z4q s W
 have HLI:Hid (∀(W:World)(A:Option Addr)(c:Nat)(ps:List (List Td)),q8j s ps 0 0->Prg W A ps->Calls prog 12 #[.slice A ps.length c,.int .i64 (n:Int)] W fun e w'=>v0s ps n e/\Below W W w'):=fun W A c ps hR hQ=>z4h (q4p hR).2.2.2 (q4p hR).2.2.1 n hw1 hw2 A c W hQ
 have HD1:Hid (∀ps k f,q8j s ps k f->f≠0->∀T k' f',z5y s (n:Int) T k' f'->T=⟨#[]⟩/\k'=k/\f'=f):=fun ps k f hp hf T k' f' hR=>q6q hR (.bad hnw hp hf)
 have HD2:Hid (∀ps,q8j s ps 0 0->fmE ps≠0->∀T k' f',z5y s (n:Int) T k' f'->T=⟨#[]⟩/\k'=0/\f'=fmE ps):=fun ps hp hf T k' f' hR=>q6q hR (.full hnw hp hf)
 have HD3:Hid (∀ps,q8j s ps 0 0->fmE ps=0->∀T k' f',z5y s (n:Int) T k' f'->T=wbS (q9i n ps)/\k'=0/\f'=0):=fun ps hp hf T k' f' hR=>q6q hR (.ok hnw hp hf)
 have e1:=k4l hnw h;have HOO:Hid (∀W:World,Below w w W->Calls prog 8 #[.slice a t.length cap,.int .i64 (n:Int)] W fun e w'=>j0w t n e/\Below W W w'):=fun W hb=>z7b h n hw1 hw2 a cap W (hN.below hb)
 have HS0:Hid (pgE t=0->k7a t (n:Int)=wbS (z3c n t)/\z5w t (n:Int)=0):=fun h0=>⟨k4m (by rw[e1];exact h0),by rw[e1];exact h0⟩
 have HS1:Hid (pgE t≠0->k7a t (n:Int)=⟨#[]⟩/\z5w t (n:Int)=pgE t):=fun h0=>⟨z2a (by rw[e1];exact h0),e1⟩
 rw[h]at HTF;clear hN hsz hg ht e1 hO hF h;go_in;go_wp2_with fail;refine HWD.o.mono ?_;rintro e w1⟨rfl,rfl⟩;go_wp2_with fail;refine HTF.o.mono ?_;rintro e w2⟨rfl,b2⟩;have HB2:=hid b2;clear b2;go_wp2_with fail;refine(HOO.o _ HB2.o).mono ?_;rintro e w3⟨hR1,b3⟩;have HB3:=hid (q0d HB2.o Zl b3);clear b3 HOO;cases hR1 with
 | ok hz=>
  obtain⟨e2,e3⟩:=HS0.o hz;rw[e2,e3]at HPO;clear e2 e3 HS0 HS1 hz;generalize wbS (z3c n t)=S1 at HPO⊢;have hs1:(S1.toList==S1.toList)=true:=by simp
  have hs2:(S1.toList != S1.toList)=false:=by simp
  go_wp2_with fail;refine(HPO.o _ HB3.o).mono ?_;rintro e w4⟨rfl,b4⟩;have HB4:=hid (q0d HB3.o Zl b4);clear b4;go_wp2_with fail;refine(q2k 0 0 _ (HG.o.below HB4.o)).mono ?_;rintro e w5⟨rfl,b5⟩;have HB5:=hid (q0d HB4.o Zl b5);clear b5;go_wp2_with fail;refine(HPA.o _).mono ?_;rintro e wa⟨ps,k,f,A,c,rfl,hR,hQ,_,_,ba⟩;have HBa:=hid (q0d HB5.o Zl ba);clear ba;by_cases hf:f=0
  ·subst hf;obtain⟨rfl,_,_,_⟩:=q4p hR;have HL1:=hid (HLI.o wa A c ps hR hQ);have HRR:=hid hR;clear hR hQ HLI HPA;generalize ps.length=np at HL1⊢;go_wp2_with fail;refine HL1.o.mono ?_;rintro e wb⟨hL,bb⟩;have HBb:=hid (q0d HBa.o Zl bb);clear bb HL1 HBa;cases hL with
   | ok hz=>
    have HDD:=(show Hid (_)from HD3.o ps HRR.o hz);clear HD1 HD2 HD3 hz;generalize wbS (q9i n ps)=S at HDD⊢;have hss:(S.toList==S.toList)=true:=by simp
    go_wp2_with fail;refine(HFM.o _ HBb.o).mono ?_;rintro e wc⟨T,k',f',rfl,hR,bc⟩;obtain⟨rfl,rfl,rfl⟩:=HDD.o T k' f' hR;have HBc:=hid (q0d HBb.o Zl bc);clear bc hR HDD;go_wp2_with fail;refine(q2k 0 0 _ (HG.o.below HBc.o)).mono ?_;rintro e wd⟨rfl,bd⟩;have HBd:=hid (q0d HBc.o Zl bd);clear bd;go_wp2;go_ret;exact⟨rfl,HBd.o⟩
   | full hz=>
    have HDD:=(show Hid (_)from HD2.o ps HRR.o hz);have hzz:(fmE ps==fmE ps)=true:=by simp
    have hz0:(fmE ps==0)=false:=by simp[hz]
    clear HD1 HD2 HD3 hz;generalize fmE ps=E at HDD hzz hz0⊢;go_wp2_with fail;refine(HFM.o _ HBb.o).mono ?_;rintro e wc⟨T,k',f',rfl,hR,bc⟩;obtain⟨rfl,rfl,rfl⟩:=HDD.o T k' f' hR;have HBc:=hid (q0d HBb.o Zl bc);clear bc hR HDD;go_wp2_with fail;refine(q2k _ _ _ (HG.o.below HBc.o)).mono ?_;rintro e wd⟨rfl,bd⟩;have HBd:=hid (q0d HBc.o Zl bd);clear bd;go_wp2;go_ret;exact⟨rfl,HBd.o⟩
   | many=>
    go_wp2;go_ret;exact⟨rfl,HBb.o⟩
  ·have HDD:=(show Hid (_)from HD1.o ps k f hR hf);have hff:(f==f)=true:=by simp
   have hkk:(k==k)=true:=by simp
   have hf0:(f==0)=false:=by simp[hf]
   clear hR hQ HLI HPA HD1 HD2 HD3 hf;generalize ps.length=np;go_wp2_with fail;refine(HFM.o _ HBa.o).mono ?_;rintro e wc⟨T,k',f',rfl,hR,bc⟩;obtain⟨rfl,rfl,rfl⟩:=HDD.o T k' f' hR;have HBc:=hid (q0d HBa.o Zl bc);clear bc hR HDD;go_wp2_with fail;refine(q2k _ _ _ (HG.o.below HBc.o)).mono ?_;rintro e wd⟨rfl,bd⟩;have HBd:=hid (q0d HBc.o Zl bd);clear bd;go_wp2;go_ret;exact⟨rfl,HBd.o⟩
 | full hz=>
  obtain⟨e2,e3⟩:=HS1.o hz;rw[e2,e3]at HPO;have hee:(pgE t==pgE t)=true:=by simp
  have he0:(pgE t==0)=false:=by simp[hz]
  clear e2 e3 HS0 HS1 hz;generalize pgE t=E at HPO hee he0⊢;go_wp2_with fail;refine(HPO.o _ HB3.o).mono ?_;rintro e w4⟨rfl,b4⟩;have HB4:=hid (q0d HB3.o Zl b4);clear b4;go_wp2_with fail;refine(q2k E E _ (HG.o.below HB4.o)).mono ?_;rintro e w5⟨rfl,b5⟩;have HB5:=hid (q0d HB4.o Zl b5);clear b5;go_wp2_with fail;refine(HPA.o _).mono ?_;rintro e wa⟨ps,k,f,A,c,rfl,hR,hQ,_,_,ba⟩;have HBa:=hid (q0d HB5.o Zl ba);clear ba;by_cases hf:f=0
  ·subst hf;obtain⟨rfl,_,_,_⟩:=q4p hR;have HL1:=hid (HLI.o wa A c ps hR hQ);have HRR:=hid hR;clear hR hQ HLI HPA;generalize ps.length=np at HL1⊢;go_wp2_with fail;refine HL1.o.mono ?_;rintro e wb⟨hL,bb⟩;have HBb:=hid (q0d HBa.o Zl bb);clear bb HL1 HBa;cases hL with
   | ok hz=>
    have HDD:=(show Hid (_)from HD3.o ps HRR.o hz);clear HD1 HD2 HD3 hz;generalize wbS (q9i n ps)=S at HDD⊢;have hss:(S.toList==S.toList)=true:=by simp
    go_wp2_with fail;refine(HFM.o _ HBb.o).mono ?_;rintro e wc⟨T,k',f',rfl,hR,bc⟩;obtain⟨rfl,rfl,rfl⟩:=HDD.o T k' f' hR;have HBc:=hid (q0d HBb.o Zl bc);clear bc hR HDD;go_wp2_with fail;refine(q2k 0 0 _ (HG.o.below HBc.o)).mono ?_;rintro e wd⟨rfl,bd⟩;have HBd:=hid (q0d HBc.o Zl bd);clear bd;go_wp2;go_ret;exact⟨rfl,HBd.o⟩
   | full hz=>
    have HDD:=(show Hid (_)from HD2.o ps HRR.o hz);have hzz:(fmE ps==fmE ps)=true:=by simp
    have hz0:(fmE ps==0)=false:=by simp[hz]
    clear HD1 HD2 HD3 hz;generalize fmE ps=E at HDD hzz hz0⊢;go_wp2_with fail;refine(HFM.o _ HBb.o).mono ?_;rintro e wc⟨T,k',f',rfl,hR,bc⟩;obtain⟨rfl,rfl,rfl⟩:=HDD.o T k' f' hR;have HBc:=hid (q0d HBb.o Zl bc);clear bc hR HDD;go_wp2_with fail;refine(q2k _ _ _ (HG.o.below HBc.o)).mono ?_;rintro e wd⟨rfl,bd⟩;have HBd:=hid (q0d HBc.o Zl bd);clear bd;go_wp2;go_ret;exact⟨rfl,HBd.o⟩
   | many=>
    go_wp2;go_ret;exact⟨rfl,HBb.o⟩
  ·have HDD:=(show Hid (_)from HD1.o ps k f hR hf);have hff:(f==f)=true:=by simp
   have hkk:(k==k)=true:=by simp
   have hf0:(f==0)=false:=by simp[hf]
   clear hR hQ HLI HPA HD1 HD2 HD3 hf;generalize ps.length=np;go_wp2_with fail;refine(HFM.o _ HBa.o).mono ?_;rintro e wc⟨T,k',f',rfl,hR,bc⟩;obtain⟨rfl,rfl,rfl⟩:=HDD.o T k' f' hR;have HBc:=hid (q0d HBa.o Zl bc);clear bc hR HDD;go_wp2_with fail;refine(q2k _ _ _ (HG.o.below HBc.o)).mono ?_;rintro e wd⟨rfl,bd⟩;have HBd:=hid (q0d HBc.o Zl bd);clear bd;go_wp2;go_ret;exact⟨rfl,HBd.o⟩
 | many s1=>
  go_wp2;go_ret;exact⟨rfl,HB3.o⟩
theorem k8w(hO:y3f)(hF:y3a)(t:List Td)(a:Option Addr)(cap:Nat)(s:ByteArray)(wd:Int)(w:World)(hc:t.length<=cap)(hN:Tds w a t)(hsz:v6f t)(hg:Hnd w)(ht:z5t w):
  Calls prog 3 #[.slice a t.length cap,.string s,.int .i64 wd] w fun e w'=>e=.returned (.bool true)/\Below w w w':=by
 by_cases hw:wd<10\/100<wd
 ·exact z8n hO hF t a cap s wd w hc hN hsz hg ht hw
 ·obtain⟨n,rfl⟩:∃n:Nat,wd=(n:Int):=⟨wd.toNat,by omega⟩;by_cases h:q0b t=0
  ·exact k8y hO hF t a cap s n w hc hN hsz hg ht (by omega) (by omega) h
  ·exact k8x hO hF t a cap s n w hc hN hsz hg ht (by omega) (by omega) h
end Go.Proofs.YthjapabokcajhaaGreatDoor
