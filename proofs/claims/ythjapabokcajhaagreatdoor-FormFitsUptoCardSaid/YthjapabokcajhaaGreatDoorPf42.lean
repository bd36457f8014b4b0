/- Texts as one: SyP. -/
import Derived.Test.YthjapabokcajhaaGreatDoorPf41
namespace Go.Proofs.YthjapabokcajhaaGreatDoor
open Go Go.RowKit
set_option maxRecDepth 100000
set_option maxHeartbeats 4000000
theorem k8f{w0:World}{b:Nat}(bs:List UInt8)(rest:List Td)(w:World)(tx:ByteArray)(hl:bs.length+tx.size<=400000)(hW:WyE w0 b bs rest w):
  Calls Tryz.prog 84 #[.pointer (some ⟨b,0,none⟩),.string tx] w fun e w'=>e=.returned (.tuple #[])/\WyE w0 b (bs++(if tx.size=0 then [35]else [35,32]++btL tx)) rest w':=by
 have H1:Hid (Calls Tryz.prog 45 #[.pointer (some ⟨b,0,none⟩),.int .u8 35] w fun e w'=>e=.returned .nilIface/\WyE w0 b (bs++[35]) rest w'):=by
  obtain⟨A,c,h⟩:=hW;refine(q5e h 35 (by omega)).mono ?_;rintro e w'⟨rfl,h1⟩;exact⟨rfl,_,_,h1⟩
 by_cases h0:tx.size=0
 ·rw[if_pos h0]
  have hem:tx=⟨#[]⟩:=by
   apply ByteArray.ext;apply Array.toList_inj.1;exact q8s.1 h0
  subst hem;clear hW hl h0;go_in;go_wp2_with fail;refine H1.out.mono ?_;rintro e w2⟨rfl,h2⟩;have K2:=(show Hid (_)from h2);clear h2;go_wp2
  go_end0
  exact⟨rfl,K2.out⟩
 ·rw[if_neg h0]
  have hne:(tx.toList==[])=false:=by
   rw[Lib.toList_data];cases ht:tx.data.toList with
   | nil=>exact absurd (q8s.2 ht) h0
   | cons=>rfl
  have hne2:¬tx.toList=[]:=by
   intro e;rw[e]at hne;cases hne
  have hnl:(⟨#[]⟩:ByteArray).toList=[]:=by rw[Lib.toList_data]
  have hsz:¬9223372036854775807<1+tx.size:=by omega
  have hs1:(⟨#[32]⟩:ByteArray).size=1:=rfl
  have HS0:∀S:ByteArray,S.size<=1000000->btL S=32::btL tx->∀W,WyE w0 b (bs++[35]) rest W->Calls Tryz.prog 38 #[.pointer (some ⟨b,0,none⟩),.string S] W fun e w'=>(∃z,e=.returned (.tuple #[z,.nilIface]))/\WyE w0 b (bs++([35,32]++btL tx)) rest w':=fun S hS1 hS2 W hW=>by
   obtain⟨A,c,h⟩:=hW;refine(q3b h S (by simp only[List.length_append,List.length_cons,List.length_nil];omega) hS1).mono ?_;rintro e w'⟨rfl,h,_⟩;refine⟨⟨_,rfl⟩,A,c,?_⟩;rw[hS2]at h;have e2:bs++([35,32]++btL tx)=bs++[35]++32::btL tx:=by simp
   rw[e2];exact h
  have H2:=(show Hid (_)from HS0 (⟨#[32]⟩++tx) (by rw[ByteArray.size_append,hs1];omega) (by simp[btL]));clear HS0;clear hW h0 hl;go_in;go_wp2_with fail;refine H1.out.mono ?_;rintro e w2⟨rfl,h2⟩;have K2:=(show Hid (_)from h2);clear h2;go_wp2_with fail;refine(H2.out _ K2.out).mono ?_;rintro e w3⟨⟨q,rfl⟩,h3⟩;have K3:=(show Hid (_)from h3);clear h3;go_wp2
  go_end0
  exact⟨rfl,K3.out⟩
theorem k8i{w0:World}{b:Nat}(ht:z1v w0)(bs:List UInt8)(ds:List Td)(hf:q0b ds=0)(w:World)(hl:bs.length<=200000)(hW:WyE w0 b bs ds w):
  Calls Tryz.prog 44 #[.pointer (some ⟨b,0,none⟩)] w fun e w'=>e=.returned (.tuple #[])/\WyE w0 b (bs++q3x ds) [] w':=by
 have hsl:=z9h hf;rcases q5o hf with⟨⟨op,tx,n⟩,rfl,h9,h0,hnt⟩|⟨x,F,rfl,hok,hex,h1,hop⟩
 ·dsimp only at h9 h0 hnt;subst h9;have hst:q3x [⟨9,tx,n⟩]=if tx.size=0 then [35]else [35,32]++btL tx:=rfl
  have hnl:=z8r hnt;rw[hst]at hsl⊢;obtain⟨A,c,h⟩:=hW;have HN:Hid (Calls Tryz.prog 83 #[.pointer (some ⟨b,0,none⟩)] w fun e w'=>e=.returned (tdV ⟨9,tx,n⟩)/\WyE w0 b bs [] w'):=q3a h;have HT:Hid (∀W,WyE w0 b bs [] W->Calls Tryz.prog 84 #[.pointer (some ⟨b,0,none⟩),.string tx] W fun e w'=>e=.returned (.tuple #[])/\WyE w0 b (bs++(if tx.size=0 then [35]else [35,32]++btL tx)) [] w'):=fun W hW=>k8f bs [] W tx (by omega) hW
  generalize(if tx.size=0 then [35]else [35,32]++btL tx)=X at HT⊢
  clear h hst hsl hf;go_in;go_wp2_with fail;refine HN.out.mono ?_;rintro e w1⟨rfl,A1,c1,h1⟩;have H1:Hid (∀W:World,Below w1.heap.size w1 W->WyE w0 b bs [] W):=fun W hb=>⟨_,_,h1.grew hb⟩
  clear h1 HN;go_wp2_with fail;refine(HT.out _ (H1.out _ (q7o w1 _))).mono ?_;rintro e w3⟨rfl,h3⟩;have K3:=(show Hid (_)from h3);clear h3;go_wp2;refine bodyPost_ret (results_none rfl _ _ _) rfl ?_;exact⟨rfl,K3.out⟩
 ·obtain⟨y,k,rfl⟩:=j2v h1;have hX:ExC w0 b y k:=(z3i ht _ hok hex).1
  have hkd:(Fo.cons y k .nil).len=kdT x:=by
   rw[h1];rcases hop with⟨e,_⟩|⟨e,_⟩<;>(unfold kdT;rw[e];rfl)
  have hst:=(z7g hok hkd).1;have hnd:(Fo.cons y k .nil).nodes=y::k.nodes:=by simp[Fo.nodes]
  have htr:hdT (Fo.cons y k .nil).trs=q2l y k.trs:=rfl;rw[hst]at hsl⊢;rw[hnd]at hW;obtain⟨A,c,h⟩:=hW
  have HE:Hid (∀bs' W,bs'.length+(q2l y k.trs).length<=500000->WyE w0 b bs' (y::k.nodes) W->Calls Tryz.prog 85 #[.pointer (some ⟨b,0,none⟩)] W fun e w'=>e=.returned (.tuple #[])/\WyE w0 b (bs'++q2l y k.trs) [] w'):=fun bs' W hb hW=>by
   refine hX bs' [] W hb ?_;rw[List.append_nil];exact hW
  have HB:Hid (∀bs' W,bs'.length<=500000->WyE w0 b bs' [] W->Calls Tryz.prog 45 #[.pointer (some ⟨b,0,none⟩),.int .u8 59] W fun e w'=>e=.returned .nilIface/\WyE w0 b (bs'++[59]) [] w'):=fun bs' W hb hW=>by
   obtain⟨A,c,h⟩:=hW;refine(q5e h 59 (by omega)).mono ?_;rintro e w'⟨rfl,h1⟩;exact⟨rfl,_,_,h1⟩
  clear hX hst hkd hok hex hf;obtain⟨op,tx,n⟩:=x;have HN:Hid (Calls Tryz.prog 83 #[.pointer (some ⟨b,0,none⟩)] w fun e w'=>e=.returned (tdV ⟨op,tx,n⟩)/\WyE w0 b bs (y::k.nodes) w'):=q3a h;clear h;rcases hop with⟨e,hnm,_⟩|⟨e,_,_⟩
  ·dsimp only at e hnm;subst e
   have hts:tx.size<=8:=by
    simp only[q0r,Bool.and_eq_true,decide_eq_true_eq]at hnm;exact hnm.1.1.2
   have hsx:stX ⟨7,tx,n⟩ (Fo.cons y k .nil).trs=[108,101,116,32]++btL tx++[32,61,32]++q2l y k.trs++[59]:=rfl;rw[hsx]at hsl⊢;simp only[List.length_append,List.length_cons,List.length_nil]at hsl;have hs1:(⟨#[108,101,116,32]⟩:ByteArray).size=4:=rfl;have hs2:(⟨#[32,61,32]⟩:ByteArray).size=3:=rfl;have hg1:¬9223372036854775807<4+tx.size:=by omega
   have hg2:¬9223372036854775807<4+tx.size+3:=by omega
   have htl:=q0h tx;go_in;go_wp2_with fail;refine HN.out.mono ?_;rintro e w1⟨rfl,A1,c1,h1⟩
   have HS0:∀S:ByteArray,S.size<=100->btL S=[108,101,116,32]++btL tx++[32,61,32]->∀W:World,Below w1.heap.size w1 W->Calls Tryz.prog 38 #[.pointer (some ⟨b,0,none⟩),.string S] W fun e w'=>(∃z,e=.returned (.tuple #[z,.nilIface]))/\WyE w0 b (bs++([108,101,116,32]++btL tx++[32,61,32])) (y::k.nodes) w':=fun S hS1 hS2 W hb=>by
    refine(q3b (h1.grew hb) S (by omega) (by omega)).mono ?_;rintro e w'⟨rfl,h,_⟩;rw[hS2]at h;exact⟨⟨_,rfl⟩,_,_,h⟩
   have HS:=(show Hid (_)from HS0 (⟨#[108,101,116,32]⟩++tx++⟨#[32,61,32]⟩) (by rw[ByteArray.size_append,ByteArray.size_append,hs1,hs2];omega) (by simp[btL]));clear HS0;have HE1:Hid (∀W,WyE w0 b (bs++([108,101,116,32]++btL tx++[32,61,32])) (y::k.nodes) W->Calls Tryz.prog 85 #[.pointer (some ⟨b,0,none⟩)] W fun e w'=>e=.returned (.tuple #[])/\WyE w0 b (bs++([108,101,116,32]++btL tx++[32,61,32])++q2l y k.trs) [] w'):=fun W hW=>HE.out _ W (by simp only[List.length_append,List.length_cons,List.length_nil];omega) hW
   have HB1:Hid (∀W,WyE w0 b (bs++([108,101,116,32]++btL tx++[32,61,32])++q2l y k.trs) [] W->Calls Tryz.prog 45 #[.pointer (some ⟨b,0,none⟩),.int .u8 59] W fun e w'=>e=.returned .nilIface/\WyE w0 b (bs++([108,101,116,32]++btL tx++[32,61,32]++q2l y k.trs++[59])) [] w'):=fun W hW=>by
    refine(HB.out _ W (by simp only[List.length_append,List.length_cons,List.length_nil];omega) hW).mono ?_;rintro e w'⟨rfl,h⟩;refine⟨rfl,?_⟩;simp only[List.append_assoc]at h⊢;exact h
   clear h1 HN HE HB
   generalize(bs++([108,101,116,32]++btL tx++[32,61,32])++q2l y k.trs)=P2 at HE1 HB1
   generalize(bs++([108,101,116,32]++btL tx++[32,61,32]))=P1 at HS HE1
   clear hsx htr hnd hsl htl hnm;go_wp2_with fail
   go_region_with (go_at_call 38;refine(HS.out _ (k1w w1 _)).mono ?_;rintro e w3⟨⟨z,rfl⟩,h3⟩)
   all_goals
    have K3:=(show Hid (_)from h3);clear h3;go_wp2_with fail;refine(HE1.out _ K3.out).mono ?_;rintro e w4⟨rfl,h4⟩;have K4:=(show Hid (_)from h4);clear h4;go_wp2_with fail;refine(HB1.out _ K4.out).mono ?_;rintro e w5⟨rfl,h5⟩;have K5:=(show Hid (_)from h5);clear h5;go_wp2
    go_end0
    exact⟨rfl,K5.out⟩
  ·dsimp only at e;subst e;have hsx:stX ⟨8,tx,n⟩ (Fo.cons y k .nil).trs=q2l y k.trs++[59]:=rfl;rw[hsx]at hsl⊢;simp only[List.length_append,List.length_cons,List.length_nil]at hsl;have HE1:Hid (∀W,WyE w0 b bs (y::k.nodes) W->Calls Tryz.prog 85 #[.pointer (some ⟨b,0,none⟩)] W fun e w'=>e=.returned (.tuple #[])/\WyE w0 b (bs++q2l y k.trs) [] w'):=fun W hW=>HE.out _ W (by omega) hW
   have HB1:Hid (∀W,WyE w0 b (bs++q2l y k.trs) [] W->Calls Tryz.prog 45 #[.pointer (some ⟨b,0,none⟩),.int .u8 59] W fun e w'=>e=.returned .nilIface/\WyE w0 b (bs++(q2l y k.trs++[59])) [] w'):=fun W hW=>by
    refine(HB.out _ W (by simp only[List.length_append];omega) hW).mono ?_;rintro e w'⟨rfl,h⟩;refine⟨rfl,?_⟩;rw[List.append_assoc]at h;exact h
   clear HE HB;generalize bs++q2l y k.trs=P1 at HE1 HB1;clear hsx htr hnd hsl;go_in;go_wp2_with fail;refine HN.out.mono ?_;rintro e w1⟨rfl,A1,c1,h1⟩;have H1:Hid (∀W:World,Below w1.heap.size w1 W->WyE w0 b bs (y::k.nodes) W):=fun W hb=>⟨_,_,h1.grew hb⟩
   clear h1 HN;go_wp2_with fail;refine(HE1.out _ (H1.out _ (q7o w1 _))).mono ?_;rintro e w4⟨rfl,h4⟩;have K4:=(show Hid (_)from h4);clear h4;go_wp2_with fail;refine(HB1.out _ K4.out).mono ?_;rintro e w5⟨rfl,h5⟩;have K5:=(show Hid (_)from h5);clear h5;go_wp2
   go_end0
   exact⟨rfl,K5.out⟩
structure v1n(w0:World)(b:Nat)(ps:List (List Td))(i:Nat)(w:World):Prop where
 le:i<=ps.length
 w:WyE w0 b (q2z (ps.take i)) [] w
theorem k0z{ps:List (List Td)}{i:Nat}(h:i<ps.length):q2z (ps.take (i+1))=q2z (ps.take i)++q3x ps[i]++[10]:=by
 rw[List.take_succ_eq_append_getElem h,k0y];simp
theorem j1c{ps:List (List Td)}(hP:∀t∈ps,q0b t=0)(hl:ps.length<=20)(i:Nat):(q2z (ps.take i)).length<=50000:=by
 have h1:=k6s (ps.take i) fun t ht=>hP t (List.mem_of_mem_take ht)
 have h2:(ps.take i).length<=ps.length:=by rw[List.length_take];omega
 omega
theorem z5h(ps:List (List Td))(a:Option Addr)(cap:Nat)(w:World)(hc:ps.length<=cap)(hP:Prg w a ps)(hsz:∀t∈ps,k1o t)(ht:z1v w):Calls Tryz.prog 17 #[.slice a ps.length cap] w fun e w'=>e=.returned (.tuple #[.string (v0a ps),q1p (q1i ps).2])/\Below w.heap.size w w':=by
 have HA:Hid (Calls Tryz.prog 42 #[.slice a ps.length cap] w fun e w'=>e=.returned (.tuple #[.int .i64 ((q1i ps).1:Int),q1p (q1i ps).2])/\Below w.heap.size w w'):=k7k ps a cap w hc hP hsz;by_cases h0:(q1i ps).2=0
 ·obtain⟨h1,h2⟩:=j7p h0;have hok:=k6g ps 0 h2;have HOK:Hid (∀t∈ps,q0b t=0):=hok;have HPL:=(show Hid (∀i,(q2z (ps.take i)).length<=50000)from j1c hok h1);rw[k6t h0];rw[h0]at HA⊢;have HP:Hid (Prg w a ps):=hP;have HT:Hid (z1v w):=ht
  generalize(q1i ps).1=K at HA
  clear hP hsz h0 h2 ht hok;go_in;go_wp2_with fail;refine HA.out.mono ?_;rintro e w2⟨rfl,b2⟩;rw[q0u];have HP2:Hid (Prg w2 a ps):=HP.out.below b2;have HT2:Hid (z1v w2):=HT.out.below b2;have HB2:=(show Hid (_)from b2);have HW2:Hid (v1n w2 w2.heap.size ps 0 (w2.alloc (.cells #[.pointer none,.slice none 0 0,.slice none 0 0] 91))):=⟨by omega,none,0,IsX.fresh 91 w2 [.slice none 0 0],Nat.le_refl _,Tds.nil _ _,q7o w2 _,Nat.le_refl _⟩;clear b2 HA HP HT;go_wp2_with fail
  go_loopw [19] (fun x wr=>∃i:Nat,x=.int .i64 (i:Int)/\v1n w2 w2.heap.size ps i wr) (fun x _=>ps.length-(intOf x).toNat)
  case atStart=>exact⟨0,rfl,HW2.out⟩
  case round=>
   obtain⟨i,rfl,hle,hW⟩:=hrel;have hpl:=HPL.out i;by_cases hi:i<ps.length
   ·have hii:(i:Int)<(ps.length:Int):=by omega
    obtain⟨b0,o0,A0,c0,rfl,hlt,d0,hc0,hT0⟩:=HP2.out i hi;obtain⟨A,c,h⟩:=hW;obtain⟨bc,_⟩:=q1g h.bl;have e0:wr.cell? ⟨b0,o0+i,none⟩=some (.slice A0 ps[i].length c0):=(bc _ _ hlt).trans d0;have cR:wr.cell? ⟨w2.heap.size,2,none⟩=some (.slice A ([]:List Td).length c):=h.x.cellR 0;have fR:wr.frozen? ⟨w2.heap.size,2,none⟩=false:=h.x.frozen 2;have hz:=h.bl.size
    have HS:Hid (Calls Tryz.prog 44 #[.pointer (some ⟨w2.heap.size,0,none⟩)] (wr.setCell ⟨w2.heap.size,2,none⟩ (.slice A0 ps[i].length c0)) fun e w'=>e=.returned (.tuple #[])/\WyE w2 w2.heap.size (q2z (ps.take i)++q3x ps[i]) [] w'):=by
     refine k8i HT2.out _ ps[i] (HOK.out _ (List.getElem_mem hi)) _ (by omega) ⟨A0,c0,h.x.stored 0 _,hc0,hT0,h.bl.setCell (p:=⟨w2.heap.size,2,none⟩) (Nat.le_refl _) _,Nat.le_refl _⟩
    have hsl:=z9h (HOK.out _ (List.getElem_mem hi))
    have HB:Hid (∀W,WyE w2 w2.heap.size (q2z (ps.take i)++q3x ps[i]) [] W->Calls Tryz.prog 45 #[.pointer (some ⟨w2.heap.size,0,none⟩),.int .u8 10] W fun e w'=>e=.returned .nilIface/\v1n w2 w2.heap.size ps (i+1) w'):=fun W hW=>by
     obtain⟨A,c,h⟩:=hW;refine(q5e h 10 (by rw[List.length_append];omega)).mono ?_;rintro e w'⟨rfl,h1⟩;exact⟨rfl,hi,A,c,by rw[k0z hi];exact h1⟩
    clear h d0 hT0 bc hsl hpl hc0;generalize ps[i].length=pn at e0 HS;go_wp2_with fail;refine HS.out.mono ?_;rintro e w3⟨rfl,h3⟩;have K3:=(show Hid (_)from h3);clear h3;go_wp2_with fail;refine(HB.out _ K3.out).mono ?_;rintro e w4⟨rfl,h4⟩;have K4:=(show Hid (_)from h4);clear h4;go_wp2;refine⟨⟨i+1,by go_num,K4.out⟩,?_⟩;simp[intOf];omega
   ·have hii:¬(i:Int)<(ps.length:Int):=by omega
    have hie:ps.take i=ps:=List.take_of_length_le (by omega);rw[hie]at hW;obtain⟨A,c,h⟩:=hW;have HO:Hid (Calls Tryz.prog 39 #[.pointer (some ⟨w2.heap.size,0,none⟩)] wr fun e w'=>e=.returned (.string (wbS (q2z ps)))/\Below w2.heap.size wr w'):=z9o _ _ _ _ _ _ h.x;have HBL:Hid (Below w2.heap.size w2 wr):=h.bl;generalize hTe:wbS (q2z ps)=T at HO;have HTE:Hid (wbS (q2z ps)=T):=hTe;clear h hie hpl hTe;go_wp2_with fail;refine HO.out.mono ?_;rintro e w3⟨rfl,b3⟩;have B3:=(show Hid (_)from q0g HB2.out (Nat.le_refl _) (HBL.out.trans b3));clear b3;go_wp2;go_ret2;exact⟨by rw[HTE.out];rfl,B3.out⟩
 ·rw[j7o h0];have HE:Hid (q1p (q1i ps).2=.iface 23 (.int .i64 (q1i ps).2)):=q0o h0
  generalize(q1i ps).2=E at HA HE⊢
  generalize(q1i ps).1=K at HA
  clear hP hsz h0 ht;go_in;go_wp2_with fail;refine HA.out.mono ?_;rintro e w2⟨rfl,b2⟩;rw[HE.out];go_wp2;go_ret2;exact⟨by rw[HE.out];rfl,b2⟩
end Go.Proofs.YthjapabokcajhaaGreatDoor
