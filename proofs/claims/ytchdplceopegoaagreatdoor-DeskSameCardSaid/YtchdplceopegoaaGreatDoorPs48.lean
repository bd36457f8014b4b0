/- Texts as one: SyP, DkX. -/
import Derived.Test.YtchdplceopegoaaGreatDoorPs47
import Derived.Test.YtchdplceopegoaaGreatDoorPs46
namespace Go.Proofs.YtchdplceopegoaaGreatDoor
open Go Go.RowKit
set_option maxRecDepth 100000
set_option maxHeartbeats 4000000
theorem j6e {w0:World} {b:Nat} (bs:List UInt8) (rest:List Td) (w:World) (tx:ByteArray) (hl:bs.length+tx.size≤400000) (hW:WyE w0 b bs rest w) :
  Calls Tryz.prog 135 #[.pointer (some ⟨b,0,none⟩),.string tx] w fun e w'=>e = .returned (.tuple #[])∧WyE w0 b (bs++(if tx.size=0 then [35] else [35,32]++btL tx)) rest w':=by
 have H1:Hid (Calls Tryz.prog 96 #[.pointer (some ⟨b,0,none⟩),.int .u8 35] w fun e w'=>e = .returned .nilIface∧WyE w0 b (bs++[35]) rest w'):=by
  obtain ⟨A,c,h⟩:=hW
  refine (q6z h 35 (by omega)).mono ?_
  rintro e w' ⟨rfl,h1⟩
  exact ⟨rfl,_,_,h1⟩
 by_cases h0:tx.size=0
 ·rw [if_pos h0]
  have hem:tx=⟨#[]⟩:=by
   apply ByteArray.ext
   apply Array.toList_inj.1
   exact q9v.1 h0
  subst hem
  clear hW hl h0
  go_enter Tryz.func135,Tryz.ntmps135
  go_wp2_with fail
  refine H1.out.mono ?_
  rintro e w2 ⟨rfl,h2⟩
  have K2:=(show Hid (_) from h2)
  clear h2
  go_wp2
  go_end0
  exact ⟨rfl,K2.out⟩
 ·rw [if_neg h0]
  have hne:(tx.toList == [])=false:=by
   rw [Lib.toList_data]
   cases ht:tx.data.toList with
   | nil=>exact absurd (q9v.2 ht) h0
   | cons=>rfl
  have hne2:¬ tx.toList=[]:=by
   intro e;rw [e] at hne;cases hne
  have hnl:(⟨#[]⟩:ByteArray).toList=[]:=by rw [Lib.toList_data]
  have hsz:¬ 9223372036854775807<1+tx.size:=by omega
  have hs1:(⟨#[32]⟩:ByteArray).size=1:=rfl
  have HS0:∀ S:ByteArray,S.size≤1000000→btL S=32::btL tx→∀ W,WyE w0 b (bs++[35]) rest W→Calls Tryz.prog 33 #[.pointer (some ⟨b,0,none⟩),.string S] W fun e w'=>(∃ z,e = .returned (.tuple #[z,.nilIface]))∧WyE w0 b (bs++([35,32]++btL tx)) rest w':=fun S hS1 hS2 W hW=>by
   obtain ⟨A,c,h⟩:=hW
   refine (q4i h S (by simp only [List.length_append,List.length_cons,List.length_nil];omega) hS1).mono ?_
   rintro e w' ⟨rfl,h,_⟩
   refine ⟨⟨_,rfl⟩,A,c,?_⟩
   rw [hS2] at h
   have e2:bs++([35,32]++btL tx)=bs++[35]++32::btL tx:=by simp
   rw [e2]
   exact h
  have H2:=(show Hid (_) from HS0 (⟨#[32]⟩++tx) (by rw [ByteArray.size_append,hs1];omega) (by simp [btL]))
  clear HS0
  clear hW h0 hl
  go_enter Tryz.func135,Tryz.ntmps135
  go_wp2_with fail
  refine H1.out.mono ?_
  rintro e w2 ⟨rfl,h2⟩
  have K2:=(show Hid (_) from h2)
  clear h2
  go_wp2_with fail
  refine (H2.out _ K2.out).mono ?_
  rintro e w3 ⟨⟨q,rfl⟩,h3⟩
  have K3:=(show Hid (_) from h3)
  clear h3
  go_wp2
  go_end0
  exact ⟨rfl,K3.out⟩
theorem j6l {w0:World} {b:Nat} (ht:z5s w0) (bs:List UInt8) (ds:List Td) (hf:q0c ds=0) (w:World) (hl:bs.length≤200000) (hW:WyE w0 b bs ds w) :
  Calls Tryz.prog 95 #[.pointer (some ⟨b,0,none⟩)] w fun e w'=>e = .returned (.tuple #[])∧WyE w0 b (bs++q3c ds) [] w':=by
 have hsl:=k5h hf
 rcases q2g hf with ⟨⟨op,tx,n⟩,rfl,h9,h0,hnt⟩ | ⟨x,F,rfl,hok,hex,h1,hop⟩
 ·dsimp only at h9 h0 hnt
  subst h9
  have hst:q3c [⟨9,tx,n⟩]=if tx.size=0 then [35] else [35,32]++btL tx:=rfl
  have hnl:=z7b hnt
  rw [hst] at hsl ⊢
  obtain ⟨A,c,h⟩:=hW
  have HN:Hid (Calls Tryz.prog 134 #[.pointer (some ⟨b,0,none⟩)] w fun e w'=>e = .returned (tdV ⟨9,tx,n⟩)∧WyE w0 b bs [] w'):=q4h h
  have HT:Hid (∀ W,WyE w0 b bs [] W→Calls Tryz.prog 135 #[.pointer (some ⟨b,0,none⟩),.string tx] W fun e w'=>e = .returned (.tuple #[])∧WyE w0 b (bs++(if tx.size=0 then [35] else [35,32]++btL tx)) [] w'):=fun W hW=>j6e bs [] W tx (by omega) hW
  generalize (if tx.size=0 then [35] else [35,32]++btL tx)=X at HT ⊢
  clear h hst hsl hf
  go_enter Tryz.func95,Tryz.ntmps95
  go_wp2_with fail
  refine HN.out.mono ?_
  rintro e w1 ⟨rfl,A1,c1,h1⟩
  have H1:Hid (∀ W:World,Below w1.heap.size w1 W→WyE w0 b bs [] W):=fun W hb=>⟨_,_,h1.grew hb⟩
  clear h1 HN
  go_wp2_with fail
  refine (HT.out _ (H1.out _ (q1j w1 _))).mono ?_
  rintro e w3 ⟨rfl,h3⟩
  have K3:=(show Hid (_) from h3)
  clear h3
  go_wp2
  refine bodyPost_ret (results_none rfl _ _ _) rfl ?_
  exact ⟨rfl,K3.out⟩
 ·obtain ⟨y,k,rfl⟩:=v2w h1
  have hX:ExC w0 b y k:=(z7s ht _ hok hex).1
  have hkd:(Fo.cons y k .nil).len=kdT x:=by
   rw [h1]
   rcases hop with ⟨e,_⟩ | ⟨e,_⟩<;>(unfold kdT;rw [e];rfl)
  have hst:=(q6u hok hkd).1
  have hnd:(Fo.cons y k .nil).nodes=y::k.nodes:=by simp [Fo.nodes]
  have htr:hdT (Fo.cons y k .nil).trs=q2w y k.trs:=rfl
  rw [hst] at hsl ⊢
  rw [hnd] at hW
  obtain ⟨A,c,h⟩:=hW
  have HE:Hid (∀ bs' W,bs'.length+(q2w y k.trs).length≤500000→WyE w0 b bs' (y::k.nodes) W→Calls Tryz.prog 136 #[.pointer (some ⟨b,0,none⟩)] W fun e w'=>e = .returned (.tuple #[])∧WyE w0 b (bs'++q2w y k.trs) [] w'):=fun bs' W hb hW=>by
   refine hX bs' [] W hb ?_
   rw [List.append_nil]
   exact hW
  have HB:Hid (∀ bs' W,bs'.length≤500000→WyE w0 b bs' [] W→Calls Tryz.prog 96 #[.pointer (some ⟨b,0,none⟩),.int .u8 59] W fun e w'=>e = .returned .nilIface∧WyE w0 b (bs'++[59]) [] w'):=fun bs' W hb hW=>by
   obtain ⟨A,c,h⟩:=hW
   refine (q6z h 59 (by omega)).mono ?_
   rintro e w' ⟨rfl,h1⟩
   exact ⟨rfl,_,_,h1⟩
  clear hX hst hkd hok hex hf
  obtain ⟨op,tx,n⟩:=x
  have HN:Hid (Calls Tryz.prog 134 #[.pointer (some ⟨b,0,none⟩)] w fun e w'=>e = .returned (tdV ⟨op,tx,n⟩)∧WyE w0 b bs (y::k.nodes) w'):=q4h h
  clear h
  rcases hop with ⟨e,hnm,_⟩ | ⟨e,_,_⟩
  ·dsimp only at e hnm
   subst e
   have hts:tx.size≤8:=by
    simp only [q0x,Bool.and_eq_true,decide_eq_true_eq] at hnm
    exact hnm.1.1.2
   have hsx:stX ⟨7,tx,n⟩ (Fo.cons y k .nil).trs=[108,101,116,32]++btL tx++[32,61,32]++q2w y k.trs++[59]:=rfl
   rw [hsx] at hsl ⊢
   simp only [List.length_append,List.length_cons,List.length_nil] at hsl
   have hs1:(⟨#[108,101,116,32]⟩:ByteArray).size=4:=rfl
   have hs2:(⟨#[32,61,32]⟩:ByteArray).size=3:=rfl
   have hg1:¬ 9223372036854775807<4+tx.size:=by omega
   have hg2:¬ 9223372036854775807<4+tx.size+3:=by omega
   have htl:=q0b tx
   go_enter Tryz.func95,Tryz.ntmps95
   go_wp2_with fail
   refine HN.out.mono ?_
   rintro e w1 ⟨rfl,A1,c1,h1⟩
   have HS0:∀ S:ByteArray,S.size≤100→btL S=[108,101,116,32]++btL tx++[32,61,32]→∀ W:World,Below w1.heap.size w1 W→Calls Tryz.prog 33 #[.pointer (some ⟨b,0,none⟩),.string S] W fun e w'=>(∃ z,e = .returned (.tuple #[z,.nilIface]))∧WyE w0 b (bs++([108,101,116,32]++btL tx++[32,61,32])) (y::k.nodes) w':=fun S hS1 hS2 W hb=>by
    refine (q4i (h1.grew hb) S (by omega) (by omega)).mono ?_
    rintro e w' ⟨rfl,h,_⟩
    rw [hS2] at h
    exact ⟨⟨_,rfl⟩,_,_,h⟩
   have HS:=(show Hid (_) from HS0 (⟨#[108,101,116,32]⟩++tx++⟨#[32,61,32]⟩) (by rw [ByteArray.size_append,ByteArray.size_append,hs1,hs2];omega) (by simp [btL]))
   clear HS0
   have HE1:Hid (∀ W,WyE w0 b (bs++([108,101,116,32]++btL tx++[32,61,32])) (y::k.nodes) W→Calls Tryz.prog 136 #[.pointer (some ⟨b,0,none⟩)] W fun e w'=>e = .returned (.tuple #[])∧WyE w0 b (bs++([108,101,116,32]++btL tx++[32,61,32])++q2w y k.trs) [] w'):=fun W hW=>HE.out _ W (by simp only [List.length_append,List.length_cons,List.length_nil];omega) hW
   have HB1:Hid (∀ W,WyE w0 b (bs++([108,101,116,32]++btL tx++[32,61,32])++q2w y k.trs) [] W→Calls Tryz.prog 96 #[.pointer (some ⟨b,0,none⟩),.int .u8 59] W fun e w'=>e = .returned .nilIface∧WyE w0 b (bs++([108,101,116,32]++btL tx++[32,61,32]++q2w y k.trs++[59])) [] w'):=fun W hW=>by
    refine (HB.out _ W (by simp only [List.length_append,List.length_cons,List.length_nil];omega) hW).mono ?_
    rintro e w' ⟨rfl,h⟩
    refine ⟨rfl,?_⟩
    simp only [List.append_assoc] at h ⊢
    exact h
   clear h1 HN HE HB
   generalize (bs++([108,101,116,32]++btL tx++[32,61,32])++q2w y k.trs)=P2 at HE1 HB1
   generalize (bs++([108,101,116,32]++btL tx++[32,61,32]))=P1 at HS HE1
   clear hsx htr hnd hsl htl hnm
   go_wp2_with fail
   go_region_with (go_at_call 33;refine (HS.out _ (z1u w1 _)).mono ?_;rintro e w3 ⟨⟨z,rfl⟩,h3⟩)
   all_goals
    have K3:=(show Hid (_) from h3)
    clear h3
    go_wp2_with fail
    refine (HE1.out _ K3.out).mono ?_
    rintro e w4 ⟨rfl,h4⟩
    have K4:=(show Hid (_) from h4)
    clear h4
    go_wp2_with fail
    refine (HB1.out _ K4.out).mono ?_
    rintro e w5 ⟨rfl,h5⟩
    have K5:=(show Hid (_) from h5)
    clear h5
    go_wp2
    go_end0
    exact ⟨rfl,K5.out⟩
  ·dsimp only at e
   subst e
   have hsx:stX ⟨8,tx,n⟩ (Fo.cons y k .nil).trs=q2w y k.trs++[59]:=rfl
   rw [hsx] at hsl ⊢
   simp only [List.length_append,List.length_cons,List.length_nil] at hsl
   have HE1:Hid (∀ W,WyE w0 b bs (y::k.nodes) W→Calls Tryz.prog 136 #[.pointer (some ⟨b,0,none⟩)] W fun e w'=>e = .returned (.tuple #[])∧WyE w0 b (bs++q2w y k.trs) [] w'):=fun W hW=>HE.out _ W (by omega) hW
   have HB1:Hid (∀ W,WyE w0 b (bs++q2w y k.trs) [] W→Calls Tryz.prog 96 #[.pointer (some ⟨b,0,none⟩),.int .u8 59] W fun e w'=>e = .returned .nilIface∧WyE w0 b (bs++(q2w y k.trs++[59])) [] w'):=fun W hW=>by
    refine (HB.out _ W (by simp only [List.length_append];omega) hW).mono ?_
    rintro e w' ⟨rfl,h⟩
    refine ⟨rfl,?_⟩
    rw [List.append_assoc] at h
    exact h
   clear HE HB
   generalize bs++q2w y k.trs=P1 at HE1 HB1
   clear hsx htr hnd hsl
   go_enter Tryz.func95,Tryz.ntmps95
   go_wp2_with fail
   refine HN.out.mono ?_
   rintro e w1 ⟨rfl,A1,c1,h1⟩
   have H1:Hid (∀ W:World,Below w1.heap.size w1 W→WyE w0 b bs (y::k.nodes) W):=fun W hb=>⟨_,_,h1.grew hb⟩
   clear h1 HN
   go_wp2_with fail
   refine (HE1.out _ (H1.out _ (q1j w1 _))).mono ?_
   rintro e w4 ⟨rfl,h4⟩
   have K4:=(show Hid (_) from h4)
   clear h4
   go_wp2_with fail
   refine (HB1.out _ K4.out).mono ?_
   rintro e w5 ⟨rfl,h5⟩
   have K5:=(show Hid (_) from h5)
   clear h5
   go_wp2
   go_end0
   exact ⟨rfl,K5.out⟩
structure y4n (w0:World) (b:Nat) (ps:List (List Td)) (i:Nat) (w:World):Prop where
 le:i≤ps.length
 w:WyE w0 b (q2d (ps.take i)) [] w
theorem k7a {ps:List (List Td)} {i:Nat} (h:i<ps.length):q2d (ps.take (i+1))=q2d (ps.take i)++q3c ps[i]++[10]:=by
 rw [List.take_succ_eq_append_getElem h,k6z];simp
theorem v0m {ps:List (List Td)} (hP:∀ t∈ps,q0c t=0) (hl:ps.length≤20) (i:Nat):(q2d (ps.take i)).length≤50000:=by
 have h1:=j3z (ps.take i) fun t ht=>hP t (List.mem_of_mem_take ht)
 have h2:(ps.take i).length≤ps.length:=by rw [List.length_take];omega
 omega
theorem k0a (ps:List (List Td)) (a:Option Addr) (cap:Nat) (w:World) (hc:ps.length≤cap) (hP:Prg w a ps) (hsz:∀ t∈ps,z4c t) (ht:z5s w):Calls Tryz.prog 70 #[.slice a ps.length cap] w fun e w'=>e = .returned (.tuple #[.string (v9r ps),q1f (q0p ps).2])∧Below w.heap.size w w':=by
 have HA:Hid (Calls Tryz.prog 50 #[.slice a ps.length cap] w fun e w'=>e = .returned (.tuple #[.int .i64 ((q0p ps).1:Int),q1f (q0p ps).2])∧Below w.heap.size w w'):=k0c ps a cap w hc hP hsz
 by_cases h0:(q0p ps).2=0
 ·obtain ⟨h1,h2⟩:=q8k h0
  have hok:=z7d ps 0 h2
  have HOK:Hid (∀ t∈ps,q0c t=0):=hok
  have HPL:=(show Hid (∀ i,(q2d (ps.take i)).length≤50000) from v0m hok h1)
  rw [j4b h0]
  rw [h0] at HA ⊢
  have HP:Hid (Prg w a ps):=hP
  have HT:Hid (z5s w):=ht
  generalize (q0p ps).1=K at HA
  clear hP hsz h0 h2 ht hok
  go_enter Tryz.func70,Tryz.ntmps70
  go_wp2_with fail
  refine HA.out.mono ?_
  rintro e w2 ⟨rfl,b2⟩
  rw [q0q]
  have HP2:Hid (Prg w2 a ps):=HP.out.below b2
  have HT2:Hid (z5s w2):=HT.out.below b2
  have HB2:=(show Hid (_) from b2)
  have HW2:Hid (y4n w2 w2.heap.size ps 0 (w2.alloc (.cells #[.pointer none,.slice none 0 0,.slice none 0 0] 191))):=⟨by omega,none,0,IsX.fresh 191 w2 [.slice none 0 0],Nat.le_refl _,Tds.nil _ _,q1j w2 _,Nat.le_refl _⟩
  clear b2 HA HP HT
  go_wp2_with fail
  go_loopw [19] (fun x wr=>∃ i:Nat,x = .int .i64 (i:Int)∧y4n w2 w2.heap.size ps i wr) (fun x _=>ps.length - (intOf x).toNat)
  case atStart=>exact ⟨0,rfl,HW2.out⟩
  case round=>
   obtain ⟨i,rfl,hle,hW⟩:=hrel
   have hpl:=HPL.out i
   by_cases hi:i<ps.length
   ·have hii:(i:Int)<(ps.length:Int):=by omega
    obtain ⟨b0,o0,A0,c0,rfl,hlt,d0,hc0,hT0⟩:=HP2.out i hi
    obtain ⟨A,c,h⟩:=hW
    obtain ⟨bc,_⟩:=q0w h.bl
    have e0:wr.cell? ⟨b0,o0+i,none⟩=some (.slice A0 ps[i].length c0):=(bc _ _ hlt).trans d0
    have cR:wr.cell? ⟨w2.heap.size,2,none⟩=some (.slice A ([]:List Td).length c):=h.x.cellR 0
    have fR:wr.frozen? ⟨w2.heap.size,2,none⟩=false:=h.x.frozen 2
    have hz:=h.bl.size
    have HS:Hid (Calls Tryz.prog 95 #[.pointer (some ⟨w2.heap.size,0,none⟩)] (wr.setCell ⟨w2.heap.size,2,none⟩ (.slice A0 ps[i].length c0)) fun e w'=>e = .returned (.tuple #[])∧WyE w2 w2.heap.size (q2d (ps.take i)++q3c ps[i]) [] w'):=by
     refine j6l HT2.out _ ps[i] (HOK.out _ (List.getElem_mem hi)) _ (by omega) ⟨A0,c0,h.x.stored 0 _,hc0,hT0,h.bl.setCell (p:=⟨w2.heap.size,2,none⟩) (Nat.le_refl _) _,Nat.le_refl _⟩
    have hsl:=k5h (HOK.out _ (List.getElem_mem hi))
    have HB:Hid (∀ W,WyE w2 w2.heap.size (q2d (ps.take i)++q3c ps[i]) [] W→Calls Tryz.prog 96 #[.pointer (some ⟨w2.heap.size,0,none⟩),.int .u8 10] W fun e w'=>e = .returned .nilIface∧y4n w2 w2.heap.size ps (i+1) w'):=fun W hW=>by
     obtain ⟨A,c,h⟩:=hW
     refine (q6z h 10 (by rw [List.length_append];omega)).mono ?_
     rintro e w' ⟨rfl,h1⟩
     exact ⟨rfl,hi,A,c,by rw [k7a hi];exact h1⟩
    clear h d0 hT0 bc hsl hpl hc0
    generalize ps[i].length=pn at e0 HS
    go_wp2_with fail
    refine HS.out.mono ?_
    rintro e w3 ⟨rfl,h3⟩
    have K3:=(show Hid (_) from h3)
    clear h3
    go_wp2_with fail
    refine (HB.out _ K3.out).mono ?_
    rintro e w4 ⟨rfl,h4⟩
    have K4:=(show Hid (_) from h4)
    clear h4
    go_wp2
    refine ⟨⟨i+1,by go_num,K4.out⟩,?_⟩
    simp [intOf];omega
   ·have hii:¬ (i:Int)<(ps.length:Int):=by omega
    have hie:ps.take i=ps:=List.take_of_length_le (by omega)
    rw [hie] at hW
    obtain ⟨A,c,h⟩:=hW
    have HO:Hid (Calls Tryz.prog 34 #[.pointer (some ⟨w2.heap.size,0,none⟩)] wr fun e w'=>e = .returned (.string (wbS (q2d ps)))∧Below w2.heap.size wr w'):=z2i _ _ _ _ _ _ h.x
    have HBL:Hid (Below w2.heap.size w2 wr):=h.bl
    generalize hTe:wbS (q2d ps)=T at HO
    have HTE:Hid (wbS (q2d ps)=T):=hTe
    clear h hie hpl hTe
    go_wp2_with fail
    refine HO.out.mono ?_
    rintro e w3 ⟨rfl,b3⟩
    have B3:=(show Hid (_) from q0j HB2.out (Nat.le_refl _) (HBL.out.trans b3))
    clear b3
    go_wp2
    go_ret2
    exact ⟨by rw [HTE.out];rfl,B3.out⟩
 ·rw [v8p h0]
  have HE:Hid (q1f (q0p ps).2 = .iface 24 (.int .i64 (q0p ps).2)):=q0h h0
  generalize (q0p ps).2=E at HA HE ⊢
  generalize (q0p ps).1=K at HA
  clear hP hsz h0 ht
  go_enter Tryz.func70,Tryz.ntmps70
  go_wp2_with fail
  refine HA.out.mono ?_
  rintro e w2 ⟨rfl,b2⟩
  rw [HE.out]
  go_wp2
  go_ret2
  exact ⟨by rw [HE.out];rfl,b2⟩
theorem z7m (ps:List (List Td)) (a:Option Addr) (cap:Nat) (w:World) (hc:ps.length≤cap) (hP:Prg w a ps) (hsz:∀ t∈ps,z4c t) (ht:q7d w):Calls Tryz.prog 70 #[.slice a ps.length cap] w fun e w'=>e = .returned (.tuple #[.string (v9r ps),q1f (q0p ps).2])∧Below w.heap.size w w':=
 k0a ps a cap w hc hP hsz ht.pow
end Go.Proofs.YtchdplceopegoaaGreatDoor
namespace Go.Proofs.YtchdplceopegoaaGreatDoor
open Go Go.RowKit Go.Maps
set_option maxRecDepth 100000
set_option maxHeartbeats 4000000
theorem j8b {t:List Td} (h0:q0c t=0) (hf:z4c t) (A:Option Addr) (c:Nat) (hc:t.length≤c) (w:World) (hT:Tds w A t) (ht:q7d w) :
  Calls Tryz.prog 39 #[.slice A t.length c] w fun e w'=>e = .returned (.tuple #[.string (kyB t),.nilIface])∧Below w.heap.size w w':=by
 have HP:Hid (Calls Tryz.prog 70 #[.slice (some ⟨w.heap.size,0,none⟩) 1 1] (w.alloc (.cells #[.slice A t.length c] 59)) fun e w'=>e = .returned (.tuple #[.string (kyB t),.nilIface])∧Below w.heap.size w w'):=by
  have h1:=z7m [t] (some ⟨w.heap.size,0,none⟩) 1 (w.alloc (.cells #[.slice A t.length c] 59)) (by simp) (v8r hc hT) (fun u hu=>by simp at hu;rw [hu];exact hf) (ht.below (q1j w _))
  rw [j4b (by rw [v3u h0]),v3u h0] at h1
  exact h1.mono fun e w' hh=>⟨hh.1,(q1j w _).trans (hh.2.mono (by rw [World.size_alloc];omega))⟩
 clear h0 hf hT ht hc
 generalize kyB t=K at HP ⊢
 generalize t.length=nt at HP ⊢
 go_enter Tryz.func39,Tryz.ntmps39
 go_wp2_with fail
 refine HP.out.mono ?_
 rintro e w1 ⟨rfl,b1⟩
 go_wp2
 go_ret2
 exact ⟨rfl,b1⟩
theorem v5u {t:List Td} (h0:q0c t=0) (hf:z4c t) (hp:pgE t=0) {n:Nat} (hw1:10≤n) (hw2:n≤100) (A:Option Addr) (c:Nat) (hc:t.length≤c) (w:World) (hT:Tds w A t) (ht:q7d w) :
  Calls Tryz.prog 40 #[.slice A t.length c,.int .i64 (n:Int)] w fun e w'=>e = .returned (.tuple #[enV A t.length c (wbS (q5b n t)),.nilIface])∧Below w.heap.size w w':=by
 have HO:Hid (∀ W,Below w.heap.size w W→Calls Tryz.prog 32 #[.slice A t.length c,.int .i64 (n:Int)] W fun e w'=>e = .returned (.tuple #[.string (wbS (q5b n t)),.nilIface])∧Below W.heap.size W w'):=fun W hb=>by
  have h1:=k2g t A c (n:Int) W hc (hT.below hb) hf (ht.below hb)
  have e1:z9r t (n:Int)=0:=(z7e (z7a hw1 hw2) h0).trans hp
  rw [k2f e1,e1,q0q] at h1
  exact h1
 clear h0 hf hT ht hc hp
 generalize wbS (q5b n t)=S at HO ⊢
 generalize t.length=nt at HO ⊢
 go_enter Tryz.func40,Tryz.ntmps40
 go_wp2_with fail
 refine (HO.out _ (q1j w _)).mono ?_
 rintro e w1 ⟨rfl,b1⟩
 have hs:=b1.size
 rw [World.size_alloc] at hs
 have r0:w1.cell? ⟨w.heap.size,0,none⟩=some (.slice none 0 0):=((q0w b1).1 _ _ (by simp)).trans (by simp [go_sem])
 have r1:w1.cell? ⟨w.heap.size,1,none⟩=some (.string ⟨#[]⟩):=((q0w b1).1 _ _ (by simp)).trans (by simp [go_sem])
 have f0:w1.frozen? ⟨w.heap.size,0,none⟩=false:=((q0w b1).2 _ _ (by simp)).trans (by simp [go_sem])
 have f1:w1.frozen? ⟨w.heap.size,1,none⟩=false:=((q0w b1).2 _ _ (by simp)).trans (by simp [go_sem])
 have HB:Hid (Below w.heap.size w w1):=z1k (Below.refl _ _) (Nat.le_refl _) b1
 clear b1
 go_wp2
 exact bodyPost_ret (v:=.tuple #[enV A nt c S,.nilIface]) (by simp [results,Tryz.results40,go_sem,r0,r1]) rfl ⟨rfl,(HB.out.setCell (p:=⟨w.heap.size,0,none⟩) (Nat.le_refl _) _).setCell (p:=⟨w.heap.size,1,none⟩) (Nat.le_refl _) _⟩
theorem v5t {t:List Td} (h0:q0c t=0) (hf:z4c t) (hp:pgE t≠0) {n:Nat} (hw1:10≤n) (hw2:n≤100) (A:Option Addr) (c:Nat) (hc:t.length≤c) (w:World) (hT:Tds w A t) (ht:q7d w) :
  Calls Tryz.prog 40 #[.slice A t.length c,.int .i64 (n:Int)] w fun e w'=>e = .returned (.tuple #[zEn,.iface 24 (.int .i64 (pgE t))])∧Below w.heap.size w w':=by
 have HO:Hid (∀ W,Below w.heap.size w W→Calls Tryz.prog 32 #[.slice A t.length c,.int .i64 (n:Int)] W fun e w'=>e = .returned (.tuple #[.string ⟨#[]⟩,.iface 24 (.int .i64 (pgE t))])∧Below W.heap.size W w'):=fun W hb=>by
  have h1:=k2g t A c (n:Int) W hc (hT.below hb) hf (ht.below hb)
  have e1:z9r t (n:Int)=pgE t:=z7e (z7a hw1 hw2) h0
  rw [z7f (by rw [e1];exact hp),e1,q0h hp] at h1
  exact h1
 clear h0 hf hT ht hc hp
 generalize pgE t=S at HO ⊢
 generalize t.length=nt at HO ⊢
 go_enter Tryz.func40,Tryz.ntmps40
 go_wp2_with fail
 refine (HO.out _ (q1j w _)).mono ?_
 rintro e w1 ⟨rfl,b1⟩
 have hs:=b1.size
 rw [World.size_alloc] at hs
 have r0:w1.cell? ⟨w.heap.size,0,none⟩=some (.slice none 0 0):=((q0w b1).1 _ _ (by simp)).trans (by simp [go_sem])
 have r1:w1.cell? ⟨w.heap.size,1,none⟩=some (.string ⟨#[]⟩):=((q0w b1).1 _ _ (by simp)).trans (by simp [go_sem])
 have f0:w1.frozen? ⟨w.heap.size,0,none⟩=false:=((q0w b1).2 _ _ (by simp)).trans (by simp [go_sem])
 have f1:w1.frozen? ⟨w.heap.size,1,none⟩=false:=((q0w b1).2 _ _ (by simp)).trans (by simp [go_sem])
 have HB:Hid (Below w.heap.size w w1):=z1k (Below.refl _ _) (Nat.le_refl _) b1
 clear b1
 go_wp2
 exact bodyPost_ret (v:=.tuple #[zEn,.iface 24 (.int .i64 S)]) (by simp [results,Tryz.results40,go_sem,r0,r1]) rfl ⟨rfl,(HB.out.setCell (p:=⟨w.heap.size,0,none⟩) (Nat.le_refl _) _).setCell (p:=⟨w.heap.size,1,none⟩) (Nat.le_refl _) _⟩
structure q7c (ps old:List (List Td)) (n:Nat) (w:World) (j i k:Nat) (wr:World):Prop where
 le:j≤ps.length
 cnt:k+frs (old.map q3c++(ps.map q3c).take i) ((ps.map q3c).drop i)=frP ps old
 z:fmE (ps.drop i)=fmE ps
 pg:∀ t∈ps.take i,pgE t=0
 nx:∃ A c,wr.heap[w.heap.size]? = some (.cells #[.int .i64 (n:Int),.slice A j c,.map (some (w.heap.size+1))] 54 (0,0))∧q1x (w.heap.size+2) (.slice A j c) ((ps.take j).map kyB) wr
 kn:KnM w wr (w.heap.size+1) (ps.take i) n
 bl:Below w.heap.size w wr
theorem v3r {B e size n:Nat} {v:Value} {xs:List Value} {w:World} (h:w.ownsRow B e size v n xs) {k:Nat} (hk:v.ownBlock=some k):B≤k:=by
 rcases h.2 with ⟨rfl,_⟩ | ⟨g,c,cur,rfl,hB,_⟩
 ·cases hk
 ·have:g=k:=by simpa [Value.ownBlock] using hk
  omega
section
variable {ps old:List (List Td)} {n j i k:Nat} {w wr w':World}
theorem q7c.sz (h:q7c ps old n w j i k wr):w.heap.size+2≤wr.heap.size:=h.kn.lt
theorem q7c.grow (h:q7c ps old n w j i k wr) (hb:Below wr.heap.size wr w'):q7c ps old n w j i k w':=by
 have hs:=h.sz
 obtain ⟨A,c,q1,q2⟩:=h.nx
 exact ⟨h.le,h.cnt,h.z,h.pg,⟨A,c,(hb.block _ (by omega)).trans q1,q1w q2 hb⟩,h.kn.kept (hb.block _ (by omega)),q0j h.bl (Nat.le_refl _) hb⟩
theorem q7c.key {A A':Option Addr} {c c':Nat} {O:Obj} (h:q7c ps old n w i i k wr) (hi:i<ps.length) (hq:wr.heap[w.heap.size]? = some (.cells #[.int .i64 (n:Int),.slice A i c,.map (some (w.heap.size+1))] 54 (0,0))) (hown:q1x (w.heap.size+2) (.slice A i c) ((ps.take i).map kyB) wr)
  (hg:(wr.alloc O).grownBy w' (Value.slice A i c).ownBlock) (hS:q1x (w.heap.size+2) (.slice A' (i+1) c') ((ps.take i).map kyB++[kyB ps[i]]) w') :
  q7c ps old n w (i+1) i k (w'.setCell ⟨w.heap.size,1,none⟩ (.slice A' (i+1) c'))∧w'.heap[w.heap.size]? = some (.cells #[.int .i64 (n:Int),.slice A i c,.map (some (w.heap.size+1))] 54 (0,0)):=by
 have hs:=h.sz
 have hne:∀ x,x<w.heap.size+2→some x≠(Value.slice A i c).ownBlock:=fun x hx e=>by
  have:=v3r hown e.symm
  omega
 have hk:∀ x,x<w.heap.size+2→w'.heap[x]? = wr.heap[x]?:=fun x hx=>by
  have q1:=hg.block x (by rw [World.size_alloc];omega) (hne x hx)
  have q2:=(q1j wr O).block x (by omega)
  exact q1.trans q2
 have hb0:=(hk w.heap.size (by omega)).trans hq
 have e1:(ps.take i).map kyB++[kyB ps[i]]=(ps.take (i+1)).map kyB:=by rw [List.take_succ_eq_append_getElem hi,List.map_append];rfl
 rw [e1] at hS
 refine ⟨⟨by omega,h.cnt,h.z,h.pg,⟨A',c',?_,?_⟩,?_,?_⟩,hb0⟩
 ·simp [World.setCell,Array.getElem?_modify,hb0]
 ·refine ⟨hS.1,?_⟩
  rcases hS.2 with h0 | ⟨g,c2,cur,hv,hB,hgg,rest⟩
  ·exact .inl h0
  ·exact .inr ⟨g,c2,cur,hv,hB,(Below.heap_setCell _ _ _ _ (by simp;omega)).trans hgg,rest⟩
 ·exact h.kn.kept ((Below.heap_setCell _ _ _ _ (by simp)).trans (hk _ (by omega)))
 ·refine Below.setCell (p:=⟨w.heap.size,1,none⟩) ?_ (Nat.le_refl _) _
  have hz:=hg.size
  rw [World.size_alloc] at hz
  exact h.bl.trans ⟨hg.os,hg.tape,hg.output,by omega,fun x hx=>hk x (by omega)⟩
theorem v3i {t:List Td} {qs:List (List Td)} (ht:q0c t=0) (hq:∀ u∈qs,q0c u=0):q3c t∈qs.map q3c↔t∈qs:=by
 constructor
 ·intro h
  obtain ⟨u,hu,e⟩:=List.mem_map.1 h
  rw [←k5g (hq u hu) ht e]
  exact hu
 ·intro h
  exact List.mem_map.2 ⟨t,h,rfl⟩
theorem k1h (hi:i<ps.length) (hok:∀ t∈ps,q0c t=0) (hold:∀ t∈old,q0c t=0) (h:k+frs (old.map q3c++(ps.map q3c).take i) ((ps.map q3c).drop i)=frP ps old) :
  (ps[i]∈old∨ps[i]∈ps.take i→k+frs (old.map q3c++(ps.map q3c).take (i+1)) ((ps.map q3c).drop (i+1))=frP ps old)∧(¬ (ps[i]∈old∨ps[i]∈ps.take i)→(k+1)+frs (old.map q3c++(ps.map q3c).take (i+1)) ((ps.map q3c).drop (i+1))=frP ps old):=by
 have hl:i<(ps.map q3c).length:=by simpa using hi
 rw [y1a hl] at h
 have h0:=hok _ (List.getElem_mem hi)
 have e1:((ps.map q3c)[i]∈old.map q3c∨(ps.map q3c)[i]∈(ps.map q3c).take i)↔(ps[i]∈old∨ps[i]∈ps.take i):=by
  rw [List.getElem_map,←List.map_take,v3i h0 hold,v3i h0 fun u hu=>hok u (List.mem_of_mem_take hu)]
 constructor
 ·intro hh
  rw [if_pos (e1.2 hh)] at h
  omega
 ·intro hh
  rw [if_neg fun q=>hh (e1.1 q)] at h
  omega
theorem q7c.same (h:q7c ps old n w (i+1) i k wr) (hok:∀ t∈ps,q0c t=0) (hold:∀ t∈old,q0c t=0) (hm:ps[i]'(h.le)∈ps.take i):q7c ps old n w (i+1) (i+1) k wr:=by
 have hi:i<ps.length:=h.le
 have hp:=h.pg _ hm
 refine ⟨h.le,(k1h hi hok hold h.cnt).1 (.inr hm),?_,fun t ht=>?_,h.nx,?_,h.bl⟩
 ·have hz:=h.z
  rw [List.drop_eq_getElem_cons hi,q9f hp] at hz
  exact hz
 ·rw [List.take_succ_eq_append_getElem hi] at ht
  rcases List.mem_append.1 ht with q | q
  ·exact h.pg t q
  ·simp at q
   rw [q]
   exact hp
 ·rw [List.take_succ_eq_append_getElem hi]
  exact h.kn.again hm
theorem q7c.put (h:q7c ps old n w (i+1) i k wr) {k':Nat} (hp:pgE (ps[i]'(h.le))=0) (hc:k'+frs (old.map q3c++(ps.map q3c).take (i+1)) ((ps.map q3c).drop (i+1))=frP ps old) (hk:KnM w w' (w.heap.size+1) (ps.take i++[ps[i]'(h.le)]) n) (hg:wr.grownBy w' (some (w.heap.size+1))):q7c ps old n w (i+1) (i+1) k' w':=by
 have hi:i<ps.length:=h.le
 have hs:=h.sz
 have hkk:∀ x,x<wr.heap.size→x≠w.heap.size+1→w'.heap[x]? = wr.heap[x]?:=fun x h1 h2=>hg.block x h1 (by simpa using h2)
 obtain ⟨A,c,q1,q2⟩:=h.nx
 refine ⟨h.le,hc,?_,fun t ht=>?_,⟨A,c,(hkk _ (by omega) (by omega)).trans q1,?_⟩,?_,?_⟩
 ·have hz:=h.z
  rw [List.drop_eq_getElem_cons hi,q9f hp] at hz
  exact hz
 ·rw [List.take_succ_eq_append_getElem hi] at ht
  rcases List.mem_append.1 ht with q | q
  ·exact h.pg t q
  ·simp at q
   rw [q]
   exact hp
 ·refine ⟨q2.1,?_⟩
  rcases q2.2 with h0 | ⟨g,c2,cur,hv,hB,hgg,rest⟩
  ·exact .inl h0
  ·exact .inr ⟨g,c2,cur,hv,hB,(hkk g (Array.getElem?_eq_some_iff.1 hgg).1 (by omega)).trans hgg,rest⟩
 ·rw [List.take_succ_eq_append_getElem hi]
  exact hk
 ·exact h.bl.trans ⟨hg.os,hg.tape,hg.output,hg.size,fun x hx=>hkk x (by omega) (by omega)⟩
theorem q7c.sheet (h:q7c ps old n w ps.length ps.length k wr) (hok:∀ t∈ps,q0c t=0) (hni:∀ t∈ps,z4c t) (hl:ps.length≤20) (hw1:10≤n) (hw2:n≤100):fmE ps=0∧k=frP ps old∧∃ A c,wr.heap[w.heap.size]? = some (.cells #[.int .i64 (n:Int),.slice A ps.length c,.map (some (w.heap.size+1))] 54 (0,0))∧ShM wr (.slice A ps.length c) (.map (some (w.heap.size+1))) ps n:=by
 have hc:=h.cnt
 have hp:=h.pg
 have hk:=h.kn
 obtain ⟨A,c,q1,q2⟩:=h.nx
 rw [List.drop_eq_nil_of_le (by simp),frs] at hc
 rw [List.take_length] at hp hk q2
 exact ⟨k1l ps hp,by omega,A,c,q1,hok,hp,hni,hl,hw1,hw2,⟨A,c,rfl,z3n q2⟩,.inr ⟨_,rfl,hk.up fun _ _ q=>q.below h.bl⟩⟩
end
end Go.Proofs.YtchdplceopegoaaGreatDoor
