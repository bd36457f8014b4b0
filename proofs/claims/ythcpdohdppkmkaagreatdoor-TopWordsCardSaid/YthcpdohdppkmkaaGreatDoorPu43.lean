import Derived.Test.YthcpdohdppkmkaaGreatDoorPu42
import Derived.Test.YthcpdohdppkmkaaGreatDoorPu27
open Go.Proofs.Tryz
namespace Go.Proofs.YthcpdohdppkmkaaGreatDoor
open Go Go.RowKit
set_option maxRecDepth 100000
set_option maxHeartbeats 4000000
theorem v3y{w0:World}{b:Nat}(bs:List UInt8)(rest:List Td)(w:World)(tx:ByteArray)(hl:bs.length+tx.size<=400000)(hW:WyE w0 b bs rest w):
  Calls prog 97 #[.pointer (some ⟨b,0,none⟩),.string tx] w fun e w'=>e=.returned (.tuple #[])/\WyE w0 b (bs++(if tx.size=0 then [35]else [35,32]++btL tx)) rest w':=by
 have H1:Hid (Calls prog 55 #[.pointer (some ⟨b,0,none⟩),.int .u8 35] w fun e w'=>e=.returned .nilIface/\WyE w0 b (bs++[35]) rest w'):=by
  obtain⟨A,c,h⟩:=hW;refine(q8f h 35 (by omega)).mono ?_;rintro e w'⟨rfl,h1⟩;exact⟨rfl,_,_,h1⟩
 by_cases h0:tx.size=0
 ·rw[if_pos h0]
  have hem:tx=⟨#[]⟩:=by
   apply ByteArray.ext;apply Array.toList_inj.1;exact q6x.1 h0
  subst hem;clear hW hl h0;go_in;go_wp2_with fail;refine H1.o.mono ?_;rintro e w2⟨rfl,h2⟩;have K2:=(show Hid (_)from h2);clear h2;go_wp2
  go_end0
  exact⟨rfl,K2.o⟩
 ·rw[if_neg h0]
  have hne:(tx.toList==[])=false:=by
   rw[Lib.toList_data];cases ht:tx.data.toList with
   | nil=>exact absurd (q6x.2 ht) h0
   | cons=>rfl
  have hne2:¬tx.toList=[]:=by
   intro e;rw[e]at hne;cases hne
  have hnl:(⟨#[]⟩:ByteArray).toList=[]:=by rw[Lib.toList_data]
  have hsz:¬9223372036854775807<1+tx.size:=by omega
  have hs1:(⟨#[32]⟩:ByteArray).size=1:=rfl
  have HS0:∀S:ByteArray,S.size<=1000000->btL S=32::btL tx->∀W,WyE w0 b (bs++[35]) rest W->Calls prog 47 #[.pointer (some ⟨b,0,none⟩),.string S] W fun e w'=>(∃z,e=.returned (.tuple #[z,.nilIface]))/\WyE w0 b (bs++([35,32]++btL tx)) rest w':=fun S hS1 hS2 W hW=>by
   obtain⟨A,c,h⟩:=hW;refine(q5c h S (by simp only[List.length_append,List.length_cons,List.length_nil];omega) hS1).mono ?_;rintro e w'⟨rfl,h,_⟩;refine⟨⟨_,rfl⟩,A,c,?_⟩;rw[hS2]at h;have e2:bs++([35,32]++btL tx)=bs++[35]++32::btL tx:=by simp
   rw[e2];exact h
  have H2:=(show Hid (_)from HS0 (⟨#[32]⟩++tx) (by rw[ByteArray.size_append,hs1];omega) (by simp[btL]));clear HS0;clear hW h0 hl;go_in;go_wp2_with fail;refine H1.o.mono ?_;rintro e w2⟨rfl,h2⟩;have K2:=(show Hid (_)from h2);clear h2;go_wp2_with fail;refine(H2.o _ K2.o).mono ?_;rintro e w3⟨⟨q,rfl⟩,h3⟩;have K3:=(show Hid (_)from h3);clear h3;go_wp2
  go_end0
  exact⟨rfl,K3.o⟩
theorem v4c{w0:World}{b:Nat}(ht:z8n w0)(bs:List UInt8)(ds:List Td)(hf:q0d ds=0)(w:World)(hl:bs.length<=200000)(hW:WyE w0 b bs ds w):
  Calls prog 54 #[.pointer (some ⟨b,0,none⟩)] w fun e w'=>e=.returned (.tuple #[])/\WyE w0 b (bs++q3g ds) [] w':=by
 have hsl:=j1q hf;rcases q2v hf with⟨⟨op,tx,n⟩,rfl,h9,h0,hnt⟩|⟨x,F,rfl,hok,hex,h1,hop⟩
 ·dsimp only at h9 h0 hnt;subst h9;have hst:q3g [⟨9,tx,n⟩]=if tx.size=0 then [35]else [35,32]++btL tx:=rfl
  have hnl:=k0a hnt;rw[hst]at hsl⊢;obtain⟨A,c,h⟩:=hW;have HN:Hid (Calls prog 96 #[.pointer (some ⟨b,0,none⟩)] w fun e w'=>e=.returned (tdV ⟨9,tx,n⟩)/\WyE w0 b bs [] w'):=q5b h;have HT:Hid (∀W,WyE w0 b bs [] W->Calls prog 97 #[.pointer (some ⟨b,0,none⟩),.string tx] W fun e w'=>e=.returned (.tuple #[])/\WyE w0 b (bs++(if tx.size=0 then [35]else [35,32]++btL tx)) [] w'):=fun W hW=>v3y bs [] W tx (by omega) hW
  generalize(if tx.size=0 then [35]else [35,32]++btL tx)=X at HT⊢
  clear h hst hsl hf;go_in;go_wp2_with fail;refine HN.o.mono ?_;rintro e w1⟨rfl,A1,c1,h1⟩;have H1:Hid (∀W:World,Below w1 w1 W->WyE w0 b bs [] W):=fun W hb=>⟨_,_,h1.grew hb⟩
  clear h1 HN;go_wp2_with fail;refine(HT.o _ (H1.o _ (q1t w1 _))).mono ?_;rintro e w3⟨rfl,h3⟩;have K3:=(show Hid (_)from h3);clear h3;go_wp2;refine bodyPost_ret (results_none rfl _ _ _) rfl ?_;exact⟨rfl,K3.o⟩
 ·obtain⟨y,k,rfl⟩:=y1o h1;have hX:ExC w0 b y k:=(k1i ht _ hok hex).1
  have hkd:(Fo.cons y k .nil).len=kdT x:=by
   rw[h1];rcases hop with⟨e,_⟩|⟨e,_⟩<;>(unfold kdT;rw[e];rfl)
  have hst:=(q7a hok hkd).1;have hnd:(Fo.cons y k .nil).N=y::k.N:=by simp[Fo.N]
  have htr:hdT (Fo.cons y k .nil).R=q3o y k.R:=rfl;rw[hst]at hsl⊢;rw[hnd]at hW;obtain⟨A,c,h⟩:=hW
  have HE:Hid (∀bs' W,bs'.length+(q3o y k.R).length<=500000->WyE w0 b bs' (y::k.N) W->Calls prog 98 #[.pointer (some ⟨b,0,none⟩)] W fun e w'=>e=.returned (.tuple #[])/\WyE w0 b (bs'++q3o y k.R) [] w'):=fun bs' W hb hW=>by
   refine hX bs' [] W hb ?_;rw[List.append_nil];exact hW
  have HB:Hid (∀bs' W,bs'.length<=500000->WyE w0 b bs' [] W->Calls prog 55 #[.pointer (some ⟨b,0,none⟩),.int .u8 59] W fun e w'=>e=.returned .nilIface/\WyE w0 b (bs'++[59]) [] w'):=fun bs' W hb hW=>by
   obtain⟨A,c,h⟩:=hW;refine(q8f h 59 (by omega)).mono ?_;rintro e w'⟨rfl,h1⟩;exact⟨rfl,_,_,h1⟩
  clear hX hst hkd hok hex hf;obtain⟨op,tx,n⟩:=x;have HN:Hid (Calls prog 96 #[.pointer (some ⟨b,0,none⟩)] w fun e w'=>e=.returned (tdV ⟨op,tx,n⟩)/\WyE w0 b bs (y::k.N) w'):=q5b h;clear h;rcases hop with⟨e,hnm,_⟩|⟨e,_,_⟩
  ·dsimp only at e hnm;subst e
   have hts:tx.size<=8:=by
    simp only[q0z,Bool.and_eq_true,decide_eq_true_eq]at hnm;exact hnm.1.1.2
   have hsx:stX ⟨7,tx,n⟩ (Fo.cons y k .nil).R=[108,101,116,32]++btL tx++[32,61,32]++q3o y k.R++[59]:=rfl;rw[hsx]at hsl⊢;simp only[List.length_append,List.length_cons,List.length_nil]at hsl;have hs1:(⟨#[108,101,116,32]⟩:ByteArray).size=4:=rfl;have hs2:(⟨#[32,61,32]⟩:ByteArray).size=3:=rfl;have hg1:¬9223372036854775807<4+tx.size:=by omega
   have hg2:¬9223372036854775807<4+tx.size+3:=by omega
   have htl:=q0b tx;go_in;go_wp2_with fail;refine HN.o.mono ?_;rintro e w1⟨rfl,A1,c1,h1⟩
   have HS0:∀S:ByteArray,S.size<=100->btL S=[108,101,116,32]++btL tx++[32,61,32]->∀W:World,Below w1 w1 W->Calls prog 47 #[.pointer (some ⟨b,0,none⟩),.string S] W fun e w'=>(∃z,e=.returned (.tuple #[z,.nilIface]))/\WyE w0 b (bs++([108,101,116,32]++btL tx++[32,61,32])) (y::k.N) w':=fun S hS1 hS2 W hb=>by
    refine(q5c (h1.grew hb) S (by omega) (by omega)).mono ?_;rintro e w'⟨rfl,h,_⟩;rw[hS2]at h;exact⟨⟨_,rfl⟩,_,_,h⟩
   have HS:=(show Hid (_)from HS0 (⟨#[108,101,116,32]⟩++tx++⟨#[32,61,32]⟩) (by rw[ByteArray.size_append,ByteArray.size_append,hs1,hs2];omega) (by simp[btL]));clear HS0;have HE1:Hid (∀W,WyE w0 b (bs++([108,101,116,32]++btL tx++[32,61,32])) (y::k.N) W->Calls prog 98 #[.pointer (some ⟨b,0,none⟩)] W fun e w'=>e=.returned (.tuple #[])/\WyE w0 b (bs++([108,101,116,32]++btL tx++[32,61,32])++q3o y k.R) [] w'):=fun W hW=>HE.o _ W (by simp only[List.length_append,List.length_cons,List.length_nil];omega) hW
   have HB1:Hid (∀W,WyE w0 b (bs++([108,101,116,32]++btL tx++[32,61,32])++q3o y k.R) [] W->Calls prog 55 #[.pointer (some ⟨b,0,none⟩),.int .u8 59] W fun e w'=>e=.returned .nilIface/\WyE w0 b (bs++([108,101,116,32]++btL tx++[32,61,32]++q3o y k.R++[59])) [] w'):=fun W hW=>by
    refine(HB.o _ W (by simp only[List.length_append,List.length_cons,List.length_nil];omega) hW).mono ?_;rintro e w'⟨rfl,h⟩;refine⟨rfl,?_⟩;simp only[List.append_assoc]at h⊢;exact h
   clear h1 HN HE HB
   generalize(bs++([108,101,116,32]++btL tx++[32,61,32])++q3o y k.R)=P2 at HE1 HB1
   generalize(bs++([108,101,116,32]++btL tx++[32,61,32]))=P1 at HS HE1
   clear hsx htr hnd hsl htl hnm;go_wp2_with fail
   go_region_with (go_at_call 47;refine(HS.o _ (z3k w1 _)).mono ?_;rintro e w3⟨⟨z,rfl⟩,h3⟩)
   all_goals
    have K3:=(show Hid (_)from h3);clear h3;go_wp2_with fail;refine(HE1.o _ K3.o).mono ?_;rintro e w4⟨rfl,h4⟩;have K4:=(show Hid (_)from h4);clear h4;go_wp2_with fail;refine(HB1.o _ K4.o).mono ?_;rintro e w5⟨rfl,h5⟩;have K5:=(show Hid (_)from h5);clear h5;go_wp2
    go_end0
    exact⟨rfl,K5.o⟩
  ·dsimp only at e;subst e;have hsx:stX ⟨8,tx,n⟩ (Fo.cons y k .nil).R=q3o y k.R++[59]:=rfl;rw[hsx]at hsl⊢;simp only[List.length_append,List.length_cons,List.length_nil]at hsl;have HE1:Hid (∀W,WyE w0 b bs (y::k.N) W->Calls prog 98 #[.pointer (some ⟨b,0,none⟩)] W fun e w'=>e=.returned (.tuple #[])/\WyE w0 b (bs++q3o y k.R) [] w'):=fun W hW=>HE.o _ W (by omega) hW
   have HB1:Hid (∀W,WyE w0 b (bs++q3o y k.R) [] W->Calls prog 55 #[.pointer (some ⟨b,0,none⟩),.int .u8 59] W fun e w'=>e=.returned .nilIface/\WyE w0 b (bs++(q3o y k.R++[59])) [] w'):=fun W hW=>by
    refine(HB.o _ W (by simp only[List.length_append];omega) hW).mono ?_;rintro e w'⟨rfl,h⟩;refine⟨rfl,?_⟩;rw[List.append_assoc]at h;exact h
   clear HE HB;generalize bs++q3o y k.R=P1 at HE1 HB1;clear hsx htr hnd hsl;go_in;go_wp2_with fail;refine HN.o.mono ?_;rintro e w1⟨rfl,A1,c1,h1⟩;have H1:Hid (∀W:World,Below w1 w1 W->WyE w0 b bs (y::k.N) W):=fun W hb=>⟨_,_,h1.grew hb⟩
   clear h1 HN;go_wp2_with fail;refine(HE1.o _ (H1.o _ (q1t w1 _))).mono ?_;rintro e w4⟨rfl,h4⟩;have K4:=(show Hid (_)from h4);clear h4;go_wp2_with fail;refine(HB1.o _ K4.o).mono ?_;rintro e w5⟨rfl,h5⟩;have K5:=(show Hid (_)from h5);clear h5;go_wp2
   go_end0
   exact⟨rfl,K5.o⟩
structure g4r(w0:World)(b:Nat)(ps:List (List Td))(i:Nat)(w:World):Prop where
 le:i<=ps.length
 w:WyE w0 b (q1o (ps.take i)) [] w
theorem j3o{ps:List (List Td)}{i:Nat}(h:i<ps.length):q1o (ps.take (i+1))=q1o (ps.take i)++q3g ps[i]++[10]:=by
 rw[List.take_succ_eq_append_getElem h,j3n];simp
theorem v9c{ps:List (List Td)}(hP:∀t∈ps,q0d t=0)(hl:ps.length<=20)(i:Nat):(q1o (ps.take i)).length<=50000:=by
 have h1:=k7e (ps.take i) fun t ht=>hP t (List.mem_of_mem_take ht)
 have h2:(ps.take i).length<=ps.length:=by rw[List.length_take];omega
 omega
theorem k4g(ps:List (List Td))(a:Option Addr)(cap:Nat)(w:World)(hc:ps.length<=cap)(hP:Prg w a ps)(hsz:∀t∈ps,z4e t)(ht:z8n w):Calls prog 21 #[.slice a ps.length cap] w fun e w'=>e=.returned (.tuple #[.string (y9a ps),q0s (q0q ps).2])/\Below w w w':=by
 have HA:Hid (Calls prog 53 #[.slice a ps.length cap] w fun e w'=>e=.returned (.tuple #[.int .i64 ((q0q ps).1:Int),q0s (q0q ps).2])/\Below w w w'):=k4i ps a cap w hc hP hsz;by_cases h0:(q0q ps).2=0
 ·obtain⟨h1,h2⟩:=q2y h0;have hok:=q9p ps 0 h2;have HOK:Hid (∀t∈ps,q0d t=0):=hok;have HPL:=(show Hid (∀i,(q1o (ps.take i)).length<=50000)from v9c hok h1);rw[k7f h0];rw[h0]at HA⊢;have HP:Hid (Prg w a ps):=hP;have HT:Hid (z8n w):=ht
  generalize(q0q ps).1=K at HA
  clear hP hsz h0 h2 ht hok;go_in;go_wp2_with fail;refine HA.o.mono ?_;rintro e w2⟨rfl,b2⟩;rw[q0e];have HP2:Hid (Prg w2 a ps):=HP.o.W b2;have HT2:Hid (z8n w2):=HT.o.W b2;have HB2:=(show Hid (_)from b2);have HW2:Hid (g4r w2 w2.heap.size ps 0 (w2.alloc (.cells #[.pointer none,.slice none 0 0,.slice none 0 0] 108))):=⟨by omega,none,0,IsX.fresh 108 w2 [.slice none 0 0],Nat.le_refl _,Tds.nil _ _,q1t w2 _,Nat.le_refl _⟩;clear b2 HA HP HT;go_wp2_with fail
  go_loopw [19] (fun x wr=>∃i:Nat,x=.int .i64 (i:Int)/\g4r w2 w2.heap.size ps i wr) (fun x _=>ps.length-(intOf x).toNat)
  case atStart=>exact⟨0,rfl,HW2.o⟩
  case round=>
   obtain⟨i,rfl,hle,hW⟩:=hrel;have hpl:=HPL.o i;by_cases hi:i<ps.length
   ·have hii:(i:Int)<(ps.length:Int):=by omega
    obtain⟨b0,o0,A0,c0,rfl,hlt,d0,hc0,hT0⟩:=HP2.o i hi;obtain⟨A,c,h⟩:=hW;obtain⟨bc,_⟩:=q1c h.bl;have e0:wr.cell? ⟨b0,o0+i,none⟩=some (.slice A0 ps[i].length c0):=(bc _ _ hlt).trans d0;have cR:wr.cell? ⟨w2,2,none⟩=some (.slice A ([]:List Td).length c):=h.x.cellR 0;have fR:wr.frozen? ⟨w2,2,none⟩=false:=h.x.frozen 2;have hz:=h.bl.size
    have HS:Hid (Calls prog 54 #[.pointer (some ⟨w2,0,none⟩)] (wr.setCell ⟨w2,2,none⟩ (.slice A0 ps[i].length c0)) fun e w'=>e=.returned (.tuple #[])/\WyE w2 w2.heap.size (q1o (ps.take i)++q3g ps[i]) [] w'):=by
     refine v4c HT2.o _ ps[i] (HOK.o _ (List.getElem_mem hi)) _ (by omega) ⟨A0,c0,h.x.stored 0 _,hc0,hT0,h.bl.setCell (p:=⟨w2,2,none⟩) Zl _,Nat.le_refl _⟩
    have hsl:=j1q (HOK.o _ (List.getElem_mem hi))
    have HB:Hid (∀W,WyE w2 w2.heap.size (q1o (ps.take i)++q3g ps[i]) [] W->Calls prog 55 #[.pointer (some ⟨w2,0,none⟩),.int .u8 10] W fun e w'=>e=.returned .nilIface/\g4r w2 w2.heap.size ps (i+1) w'):=fun W hW=>by
     obtain⟨A,c,h⟩:=hW;refine(q8f h 10 (by rw[List.length_append];omega)).mono ?_;rintro e w'⟨rfl,h1⟩;exact⟨rfl,hi,A,c,by rw[j3o hi];exact h1⟩
    clear h d0 hT0 bc hsl hpl hc0;generalize ps[i].length=pn at e0 HS;go_wp2_with fail;refine HS.o.mono ?_;rintro e w3⟨rfl,h3⟩;have K3:=(show Hid (_)from h3);clear h3;go_wp2_with fail;refine(HB.o _ K3.o).mono ?_;rintro e w4⟨rfl,h4⟩;have K4:=(show Hid (_)from h4);clear h4;go_wp2;refine⟨⟨i+1,by go_num,K4.o⟩,?_⟩;simp[intOf];omega
   ·have hii:¬(i:Int)<(ps.length:Int):=by omega
    have hie:ps.take i=ps:=List.take_of_length_le (by omega);rw[hie]at hW;obtain⟨A,c,h⟩:=hW;have HO:Hid (Calls prog 48 #[.pointer (some ⟨w2,0,none⟩)] wr fun e w'=>e=.returned (.string (wbS (q1o ps)))/\Below w2 wr w'):=z4c _ _ _ _ _ _ h.x;have HBL:Hid (Below w2 w2 wr):=h.bl;generalize hTe:wbS (q1o ps)=T at HO;have HTE:Hid (wbS (q1o ps)=T):=hTe;clear h hie hpl hTe;go_wp2_with fail;refine HO.o.mono ?_;rintro e w3⟨rfl,b3⟩;have B3:=(show Hid (_)from q0c HB2.o Zl (HBL.o.trans b3));clear b3;go_wp2;go_ret2;exact⟨by rw[HTE.o];rfl,B3.o⟩
 ·rw[y7s h0];have HE:Hid (q0s (q0q ps).2=.iface 22 (.int .i64 (q0q ps).2)):=q0f h0
  generalize(q0q ps).2=E at HA HE⊢
  generalize(q0q ps).1=K at HA
  clear hP hsz h0 ht;go_in;go_wp2_with fail;refine HA.o.mono ?_;rintro e w2⟨rfl,b2⟩;rw[HE.o];go_wp2;go_ret2;exact⟨by rw[HE.o];rfl,b2⟩
theorem z1h(ps:List (List Td))(a:Option Addr)(cap:Nat)(w:World)(hc:ps.length<=cap)(hP:Prg w a ps)(hsz:∀t∈ps,z4e t)(ht:q5u w):Calls prog 21 #[.slice a ps.length cap] w fun e w'=>e=.returned (.tuple #[.string (y9a ps),q0s (q0q ps).2])/\Below w w w':=
 k4g ps a cap w hc hP hsz ht.pow
theorem j5w{t:List Td}(h:q7s t=0)(n:Nat)(hn:n<=100)(A:Option Addr)(c:Nat)(w:World)(hc:(q2p t).length<=c)(hN:q3p w A (q2p t)):
  Calls prog 24 #[.slice A (q2p t).length c,.int .i64 (n:Int)] w fun e w'=>(∃s wa wl wc,∃q1 q2:Int,e=.returned (.tuple #[.string (wbS s),.slice wa wl wc,.agg #[.int .i64 q1,.int .i64 q2],.nilIface])/\dcL n t=s++[10]/\s.length<=2000000)/\Below w w w':=by
 obtain⟨h0,h9,hd,hl⟩:=k2q h;obtain⟨e1,e2⟩:=z4l (wd:=n) (z0h h0 h9).w hd (by rw[hd];exact hl) hn;have hb:(q0n t).best n=some (bs n 0 [(0,q0n t)]):=by rw[q6m,q2i]
 obtain⟨_,b2,_⟩:=q3t hb
 have e3:bT (q2p t) (n:Int)=wbS ((q0n t).txt (bs n 0 [(0,q0n t)]).2):=by
  rw[bT,if_pos e1,e2,z0s h,b2];rfl
 refine(k1s (q2p t) (n:Int) A c hc w hN).mono ?_;rintro e w'⟨⟨wa,wc,rfl,_⟩,hbl⟩;refine⟨⟨_,wa,_,wc,_,_,by rw[e3,e1,q0e],rfl,?_⟩,hbl⟩;exact y1w h b2
theorem j7w{tx:ByteArray}(h:q3m tx=0)(n:Nat)(h1:10<=n)(h2:n<=100)(A:Option Addr)(c:Nat)(w:World)(hc:(q0j (btL tx)).length<=c)(hW:Wds w A ((q0j (btL tx)).map wbS)):
  Calls prog 102 #[.slice A (q0j (btL tx)).length c,.int .i64 ((n:Int)-2)] w fun e w'=>(∃L c,e=.returned (.tuple #[.slice L (q3f (n-2) ((q0j (btL tx)).map wbS)).length c,.nilIface])/\q1j w (.slice L (q3f (n-2) ((q0j (btL tx)).map wbS)).length c) (q3f (n-2) ((q0j (btL tx)).map wbS)) w')/\Below w w w':=by
 have e:((n:Int)-2)=((n-2:Nat):Int):=by omega
 have e0:q6p ((q0j (btL tx)).map wbS) ((n-2:Nat):Int)=0:=by
  have hf:q1i ((q0j (btL tx)).map wbS)=0:=h;rw[q6p,if_neg (by simp[hf]),if_neg (by omega)]
 have h3:=y0t ((q0j (btL tx)).map wbS) A c (n-2) w (by rw[List.length_map];exact hc) hW e0;rw[List.length_map]at h3;rw[e];exact h3
theorem v0y:∀(ls:List ByteArray),ls≠[]->[35,32]++Lib.join (ls.map fun x=>x.data.toList) [10,35,32]++[10]=ls.flatMap ntF
 | [],h=>absurd rfl h
 | [l],_=>by simp[Lib.join_one,ntF,btL]
 | l::u::r,_=>by
  have ih:=v0y (u::r) (by simp);rw[List.flatMap_cons,<-ih];simp[Lib.join_cons,Lib.joinTail,ntF,btL]
theorem j0s{tx:ByteArray}(n:Nat)(h0:q0j (btL tx)≠[]):ntL n tx=[35,32]++Lib.join ((q3f (n-2) ((q0j (btL tx)).map wbS)).map fun x=>x.data.toList) [10,35,32]++[10]:=by
 have hne:q3f (n-2) ((q0j (btL tx)).map wbS)≠[]:=by
  rw[q5y _ (by simpa using h0)];simp
 rw[v0y _ hne,ntL,if_neg h0];rfl
theorem y0h{x:Td}(h:q0r x=0):x.tx.size<=1300:=by
 unfold q0r at h
 split at h
 ·cases h
 ·split at h
  ·cases h
  ·split at h
   ·cases h
   ·rename_i h3
    split at h
    ·exact k0a h
    ·rename_i h4
     split at h
     ·cases h
     ·rename_i h5;cases ht:q2q x.op with
      | false=>
       have:¬0<x.tx.size:=fun h6=>h3 (.inr ⟨ht,h6⟩)
       omega
      | true=>
       cases hn:q0z x.tx with
       | false=>exact absurd ⟨ht,hn⟩ h5
       | true=>
        have:=q2e hn
        rw[q0b]at this;omega
theorem v1u{ps:List (List Td)}(h:(q0q ps).2=0):∀t∈ps,∀x∈t,x.tx.size<=1300:=by
 intro t ht x hx;have h1:=q9p ps 0 (q2y h).2 t ht;exact y0h ((q2o h1).2.1 x hx)
end Go.Proofs.YthcpdohdppkmkaaGreatDoor
