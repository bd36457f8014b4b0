/- Texts as one: SyC. -/
import Derived.Test.YtchdplceopegoaaGreatDoorPs36
namespace Go.Proofs.YtchdplceopegoaaGreatDoor
open Go Go.RowKit
set_option maxRecDepth 100000
set_option maxHeartbeats 4000000
def y2s (ks:List Tn):List UInt8:=match ks with
 | []=>[]
 | _::_=>44::32::cmx ks
def v9s (i:Nat) (ks:List Tn):List UInt8:=if i=0 then cmx ks else y2s ks
theorem v5o (t:Tn) (r:List Tn):cmx (t::r)=t.tx++y2s r:=by
 cases r<;>rfl
structure y3y (w0:World) (b:Nat) (rest:List Td) (T:List UInt8) (n:Nat) (i:Nat) (G:Fo) (bs:List UInt8) (w:World):Prop where
 n:i+G.len=n
 e:v4j w0 b G
 w:WyE w0 b bs (G.nodes++rest) w
 t:bs++v9s i G.trs=T
theorem k0j {w0:World} {b:Nat} {F:Fo} (hE:v4j w0 b F) (hn:F.len≤1000) (o z:UInt8):KdC w0 b F o z:=by
 intro bs rest w hl hW
 obtain ⟨A,c,h⟩:=hW
 have HO:Hid (Calls Tryz.prog 96 #[.pointer (some ⟨b,0,none⟩),.int .u8 (o.toNat:Int)] w fun e w'=>e = .returned .nilIface∧WyE w0 b (bs++[o]) (F.nodes++rest) w'):=by
  refine (q6z h o (by omega)).mono ?_
  rintro e w' ⟨rfl,h1⟩
  exact ⟨rfl,_,_,h1⟩
 have HZ:Hid (∀ W:World,WyE w0 b (bs++[o]++cmx F.trs) rest W→CallsD Tryz.prog 96 #[.pointer (some ⟨b,0,none⟩),.int .u8 (z.toNat:Int)] .returning W fun e u' w'=>u' = .returning∧(e = .returned .nilIface∧WyE w0 b (bs++o::(cmx F.trs++[z])) rest w')):=fun W hW=>by
  obtain ⟨A,c,h⟩:=hW
  refine (k0i h z .returning (by simp only [List.length_append,List.length_cons,List.length_nil];omega)).mono ?_
  rintro e u' w' ⟨rfl,rfl,h1⟩
  refine ⟨rfl,rfl,A,c,?_⟩
  have e1:bs++o::(cmx F.trs++[z])=bs++[o]++cmx F.trs++[z]:=by simp
  rw [e1]
  exact h1
 have HS:Hid (∀ w1,WyE w0 b (bs++[o]) (F.nodes++rest) w1→y3y w0 b rest (bs++[o]++cmx F.trs) F.len 0 F (bs++[o]) w1):=fun w1 h1=>⟨by omega,hE,h1,rfl⟩
 have HTL:Hid ((bs++[o]++cmx F.trs).length≤500000):=(show _≤_ by simp only [List.length_append,List.length_cons,List.length_nil];omega)
 clear h hE hl
 generalize F.len=fn at HS hn ⊢
 generalize bs++[o]++cmx F.trs=T at HS HZ HTL
 go_enter_defers Tryz.func169,Tryz.ntmps169
 go_wp2_with fail
 refine HO.out.mono ?_
 rintro e w1 ⟨rfl,h1⟩
 have HS1:=(show Hid (_) from HS.out w1 h1)
 clear h1 HO HS
 go_wp2_with fail
 go_loopw [19] (fun x wr=>∃ (i:Nat) (G:Fo) (bs':List UInt8),x = .int .i64 (i:Int)∧y3y w0 b rest T fn i G bs' wr) (fun x _=>fn - (intOf x).toNat)
 case atStart=>exact ⟨0,F,_,rfl,HS1.out⟩
 case round=>
  obtain ⟨i,G,bs',rfl,hV⟩:=hrel
  have hT:=HTL.out
  cases G with
  | nil=>
   obtain ⟨hi,_,hw,ht⟩:=hV
   have hie:¬ (i:Int)<(fn:Int):=by simp only [Fo.len] at hi;omega
   have ht2:bs'=T:=by
    rw [←ht]
    unfold v9s
    split<;>simp [Fo.trs,cmx,y2s]
   have HW1:Hid (WyE w0 b T rest wr):=(show WyE w0 b T rest wr by rw [←ht2];exact hw)
   clear hw ht ht2 hi
   go_wp2
   refine leaves_cons (f:=96) (args:=#[.pointer (some ⟨b,0,none⟩),.int .u8 (z.toNat:Int)]) (by simp) (by simp [go_sem]) ?_
   refine (HZ.out _ HW1.out).mono ?_
   rintro e u' w'' ⟨rfl,rfl,h5⟩
   exact ⟨_,results_none rfl _ _ _,rfl,h5⟩
  | cons y k G'=>
   obtain ⟨hi,hE,hw,ht⟩:=hV
   have hil:(i:Int)<(fn:Int):=by simp only [Fo.len] at hi;omega
   have hi2:i+1+G'.len=fn:=by simp only [Fo.len] at hi;omega
   have HX:Hid (ExC w0 b y k):=hE.1
   have HE:Hid (v4j w0 b G'):=hE.2
   have e0:(Fo.cons y k G').trs=q0m y k.trs::G'.trs:=rfl
   have e1:(Fo.cons y k G').nodes++rest=y::(k.nodes++(G'.nodes++rest)):=by simp [Fo.nodes]
   rw [e1] at hw
   rw [e0] at ht
   have hcm:=v5o (q0m y k.trs) G'.trs
   have hmt:(q0m y k.trs).tx=q2w y k.trs:=rfl
   rw [hmt] at hcm
   by_cases h0:i=0
   ·subst h0
    rw [v9s,if_pos rfl,hcm] at ht
    have HX1:Hid (∀ W,WyE w0 b bs' (y::(k.nodes++(G'.nodes++rest))) W→Calls Tryz.prog 136 #[.pointer (some ⟨b,0,none⟩)] W fun e w'=>e = .returned (.tuple #[])∧y3y w0 b rest T fn 1 G' (bs'++q2w y k.trs) w'):=fun W hW=>by
     refine (HX.out bs' (G'.nodes++rest) W (by rw [←ht] at hT;simp only [List.length_append] at hT;omega) hW).mono ?_
     rintro e w' ⟨rfl,h6⟩
     exact ⟨rfl,by omega,HE.out,h6,by rw [v9s,if_neg (by omega),List.append_assoc];exact ht⟩
    have HW:=(show Hid (_) from hw)
    clear hw ht hcm e0 e1 hE HX hi hmt
    go_wp2_with fail
    refine (HX1.out _ HW.out).mono ?_
    rintro e w2 ⟨rfl,h2⟩
    go_wp2
    refine ⟨⟨1,G',_,rfl,h2⟩,?_⟩
    simp [intOf];omega
   ·rw [v9s,if_neg h0] at ht
    have ht3:bs'++[44,32]++(q2w y k.trs++y2s G'.trs)=T:=by
     rw [←ht,←hcm]
     simp [y2s]
    have hi0:0<(i:Int):=by omega
    have HC:Hid (Calls Tryz.prog 33 #[.pointer (some ⟨b,0,none⟩),.string ⟨#[44,32]⟩] wr fun e w'=>(∃ z,e = .returned (.tuple #[z,.nilIface]))∧WyE w0 b (bs'++[44,32]) (y::(k.nodes++(G'.nodes++rest))) w'):=by
     obtain ⟨A,c,h⟩:=hw
     refine (q4i h ⟨#[44,32]⟩ (by rw [←ht3] at hT;simp only [List.length_append] at hT;omega) (by decide)).mono ?_
     rintro e w' ⟨rfl,h,_⟩
     exact ⟨⟨_,rfl⟩,_,_,h⟩
    have HX1:Hid (∀ W,WyE w0 b (bs'++[44,32]) (y::(k.nodes++(G'.nodes++rest))) W→Calls Tryz.prog 136 #[.pointer (some ⟨b,0,none⟩)] W fun e w'=>e = .returned (.tuple #[])∧y3y w0 b rest T fn (i+1) G' (bs'++[44,32]++q2w y k.trs) w'):=fun W hW=>by
     refine (HX.out (bs'++[44,32]) (G'.nodes++rest) W (by rw [←ht3] at hT;simp only [List.length_append] at hT ⊢;omega) hW).mono ?_
     rintro e w' ⟨rfl,h6⟩
     exact ⟨rfl,by omega,HE.out,h6,by rw [v9s,if_neg (by omega),List.append_assoc];exact ht3⟩
    clear hw ht ht3 hcm e0 e1 hE HX hi hmt
    go_wp2_with fail
    refine HC.out.mono ?_
    rintro e w2 ⟨⟨q,rfl⟩,h2⟩
    have H2:=(show Hid (_) from h2)
    clear h2
    go_wp2_with fail
    refine (HX1.out _ H2.out).mono ?_
    rintro e w3 ⟨rfl,h3⟩
    go_wp2
    refine ⟨⟨i+1,G',_,by go_num,h3⟩,?_⟩
    simp [intOf];omega
theorem k0k {w0:World} {b:Nat} {y:Td} {k:Fo} (hX:ExC w0 b y k) (op:Int) (hop:op=5∨op=6) (s:Bool) (bs:List UInt8) (rest:List Td) (w:World) (hl:bs.length+(brx ((op - 5).toNat+s.toNat) (q0m y k.trs)).length≤500000) (hW:WyE w0 b bs (y::(k.nodes++rest)) w) :
  Calls Tryz.prog 201 #[.pointer (some ⟨b,0,none⟩),.int .i64 op,.bool s] w fun e w'=>e = .returned (.tuple #[])∧WyE w0 b (bs++brx ((op - 5).toNat+s.toNat) (q0m y k.trs)) rest w':=by
 have HNB:Hid (∀ W,Calls Tryz.prog 230 #[.int .i64 y.op,.int .i64 op,.bool s] W fun e w'=>e = .returned (.bool (decide (prc y<(op - 5).toNat+s.toNat)))∧w'=W):=fun W=>z9m y op hop s W
 have HX:Hid (ExC w0 b y k):=hX
 obtain ⟨A,c,h⟩:=hW
 obtain ⟨tb,tq,rfl,hlt,d0,_,_⟩:=h.td 0 (by simp)
 simp only [List.getElem_cons_zero,Nat.zero_mul,Nat.add_zero] at d0
 obtain ⟨bc,_⟩:=q0w h.bl
 have e0:w.cell? ⟨tb,tq,none⟩=some (.int .i64 y.op):=(bc _ _ hlt).trans d0
 have cR:w.cell? ⟨b,2,none⟩=some (.slice (some ⟨tb,tq,none⟩) (y::(k.nodes++rest)).length c):=h.x.cellR 0
 generalize hn:(y::(k.nodes++rest)).length=n at cR
 have h1n:0<n:=by rw [←hn];simp
 have hbx:brx ((op - 5).toNat+s.toNat) (q0m y k.trs)=if prc y<(op - 5).toNat+s.toNat then 40::(q2w y k.trs++[41]) else q2w y k.trs:=rfl
 rw [hbx] at hl ⊢
 by_cases hp:prc y<(op - 5).toNat+s.toNat
 ·rw [if_pos hp] at hl ⊢
  rw [decide_eq_true hp] at HNB
  simp only [List.length_cons,List.length_append,List.length_nil] at hl
  have HO:Hid (Calls Tryz.prog 96 #[.pointer (some ⟨b,0,none⟩),.int .u8 40] w fun e w'=>e = .returned .nilIface∧WyE w0 b (bs++[40]) (y::(k.nodes++rest)) w'):=by
   refine (q6z h 40 (by omega)).mono ?_
   rintro e w' ⟨rfl,h1⟩
   exact ⟨rfl,_,_,h1⟩
  have HX1:Hid (∀ W,WyE w0 b (bs++[40]) (y::(k.nodes++rest)) W→Calls Tryz.prog 136 #[.pointer (some ⟨b,0,none⟩)] W fun e w'=>e = .returned (.tuple #[])∧WyE w0 b (bs++[40]++q2w y k.trs) rest w'):=fun W hW=>HX.out (bs++[40]) rest W (by simp only [List.length_append,List.length_cons,List.length_nil];omega) hW
  have HZ:Hid (∀ W:World,WyE w0 b (bs++[40]++q2w y k.trs) rest W→CallsD Tryz.prog 96 #[.pointer (some ⟨b,0,none⟩),.int .u8 41] .returning W fun e u' w'=>u' = .returning∧(e = .returned .nilIface∧WyE w0 b (bs++40::(q2w y k.trs++[41])) rest w')):=fun W hW=>by
   obtain ⟨A,c,h⟩:=hW
   refine (k0i h 41 .returning (by simp only [List.length_append,List.length_cons,List.length_nil];omega)).mono ?_
   rintro e u' w' ⟨rfl,rfl,h1⟩
   refine ⟨rfl,rfl,A,c,?_⟩
   have e1:bs++40::(q2w y k.trs++[41])=bs++[40]++q2w y k.trs++[41]:=by simp
   rw [e1]
   exact h1
  clear h bc d0 hbx hl hop hn hX
  go_enter_defers Tryz.func201,Tryz.ntmps201
  go_wp2_with fail
  refine (HNB.out _).mono ?_
  rintro e w1 ⟨rfl,rfl⟩
  go_wp2_with fail
  refine HO.out.mono ?_
  rintro e w2 ⟨rfl,h2⟩
  have H2:=(show Hid (_) from h2)
  clear h2
  go_wp2_with fail
  refine (HX1.out _ H2.out).mono ?_
  rintro e w3 ⟨rfl,h3⟩
  have H3:=(show Hid (_) from h3)
  clear h3
  go_wp2
  refine leaves_cons (f:=96) (args:=#[.pointer (some ⟨b,0,none⟩),.int .u8 41]) (by simp) (by simp [go_sem]) ?_
  refine (HZ.out _ H3.out).mono ?_
  rintro e u' w'' ⟨rfl,rfl,h5⟩
  exact ⟨_,results_none rfl _ _ _,rfl,h5⟩
 ·rw [if_neg hp] at hl ⊢
  rw [decide_eq_false hp] at HNB
  have HX1:Hid (Calls Tryz.prog 136 #[.pointer (some ⟨b,0,none⟩)] w fun e w'=>e = .returned (.tuple #[])∧WyE w0 b (bs++q2w y k.trs) rest w'):=HX.out bs rest w (by omega) ⟨_,_,h⟩
  clear h bc d0 hbx hl hop hn hX
  go_enter_defers Tryz.func201,Tryz.ntmps201
  go_wp2_with fail
  refine (HNB.out _).mono ?_
  rintro e w1 ⟨rfl,rfl⟩
  go_wp2_with fail
  refine HX1.out.mono ?_
  rintro e w3 ⟨rfl,h3⟩
  have H3:=(show Hid (_) from h3)
  clear h3
  go_wp2
  exact ⟨_,results_none rfl _ _ _,rfl,H3.out⟩
theorem k7x {w0:World} {b:Nat} {y z:Td} {k l:Fo} (hX:ExC w0 b y k) (hZ:ExC w0 b z l) (op:Int) (hop:op=5∨op=6) (m:ByteArray) (hm:m.size=3) (bs:List UInt8) (rest:List Td) (w:World)
  (hl:bs.length+(brx (op - 5).toNat (q0m y k.trs)).length+(brx ((op - 5).toNat+1) (q0m z l.trs)).length+3≤500000) (hW:WyE w0 b bs (y::(k.nodes++(z::(l.nodes++rest)))) w) :
  Calls Tryz.prog 170 #[.pointer (some ⟨b,0,none⟩),.int .i64 op,.string m] w fun e w'=>e = .returned (.tuple #[])∧WyE w0 b (bs++(brx (op - 5).toNat (q0m y k.trs)++btL m++brx ((op - 5).toNat+1) (q0m z l.trs))) rest w':=by
 have hml:(btL m).length=3:=by rw [q0b,hm]
 have H1:Hid (Calls Tryz.prog 201 #[.pointer (some ⟨b,0,none⟩),.int .i64 op,.bool false] w fun e w'=>e = .returned (.tuple #[])∧WyE w0 b (bs++brx (op - 5).toNat (q0m y k.trs)) (z::(l.nodes++rest)) w'):=k0k hX op hop false bs _ w (by simp only [Bool.toNat_false,Nat.add_zero];omega) hW
 generalize brx (op - 5).toNat (q0m y k.trs)=X at H1 hl ⊢
 have H2:Hid (∀ W,WyE w0 b (bs++X) (z::(l.nodes++rest)) W→Calls Tryz.prog 33 #[.pointer (some ⟨b,0,none⟩),.string m] W fun e w'=>(∃ z,e = .returned (.tuple #[z,.nilIface]))∧WyE w0 b (bs++X++btL m) (z::(l.nodes++rest)) w'):=fun W hW=>by
  obtain ⟨A,c,h⟩:=hW
  refine (q4i h m (by simp only [List.length_append];omega) (by omega)).mono ?_
  rintro e w' ⟨rfl,h,_⟩
  exact ⟨⟨_,rfl⟩,_,_,h⟩
 have H3:Hid (∀ W,WyE w0 b (bs++X++btL m) (z::(l.nodes++rest)) W→Calls Tryz.prog 201 #[.pointer (some ⟨b,0,none⟩),.int .i64 op,.bool true] W fun e w'=>e = .returned (.tuple #[])∧WyE w0 b (bs++X++btL m++brx ((op - 5).toNat+1) (q0m z l.trs)) rest w'):=fun W hW=>k0k hZ op hop true _ _ W (by simp only [List.length_append,Bool.toNat_true];omega) hW
 clear hW hl hX hZ hml hm
 go_enter Tryz.func170,Tryz.ntmps170
 go_wp2_with fail
 refine H1.out.mono ?_
 rintro e w1 ⟨rfl,h1⟩
 have K1:=(show Hid (_) from h1)
 clear h1
 go_wp2_with fail
 refine (H2.out _ K1.out).mono ?_
 rintro e w2 ⟨⟨q,rfl⟩,h2⟩
 have K2:=(show Hid (_) from h2)
 clear h2
 go_wp2_with fail
 refine (H3.out _ K2.out).mono ?_
 rintro e w3 ⟨rfl,h3⟩
 have K3:=(show Hid (_) from h3)
 clear h3
 go_wp2
 go_end0
 refine ⟨rfl,?_⟩
 have h4:=K3.out
 simp only [List.append_assoc] at h4 ⊢
 exact h4
theorem v1o {w0:World} {b:Nat} {y z:Td} {k l:Fo} (hX:ExC w0 b y k) (hZ:ExC w0 b z l) (op:Int) (hop:op=5∨op=6) (tx:ByteArray) (n:Int):ExC w0 b ⟨op,tx,n⟩ (.cons y k (.cons z l .nil)):=by
 intro bs rest w hl hW
 obtain ⟨A,c,h⟩:=hW
 have hnd:(Fo.cons y k (.cons z l .nil)).nodes++rest=y::(k.nodes++(z::(l.nodes++rest))):=by simp [Fo.nodes]
 rw [hnd] at h
 have HN:Hid (Calls Tryz.prog 134 #[.pointer (some ⟨b,0,none⟩)] w fun e w'=>e = .returned (tdV ⟨op,tx,n⟩)∧WyE w0 b bs (y::(k.nodes++(z::(l.nodes++rest)))) w'):=q4h h
 have HSD:=(show Hid (_) from fun m hm W hl hW=>k7x hX hZ op hop m hm bs rest W hl hW)
 clear h hnd hX hZ
 rcases hop with rfl | rfl
 ·have HL:Hid (q2w ⟨5,tx,n⟩ (Fo.cons y k (.cons z l .nil)).trs=brx 0 (q0m y k.trs)++32::43::32::brx 1 (q0m z l.trs)):=rfl
  rw [HL.out] at hl ⊢
  simp only [List.length_append,List.length_cons] at hl
  have HS1:Hid (∀ W:World,WyE w0 b bs (y::(k.nodes++(z::(l.nodes++rest)))) W→Calls Tryz.prog 170 #[.pointer (some ⟨b,0,none⟩),.int .i64 5,.string ⟨#[32,43,32]⟩] W fun e w'=>e = .returned (.tuple #[])∧WyE w0 b (bs++(brx 0 (q0m y k.trs)++32::43::32::brx 1 (q0m z l.trs))) rest w'):=fun W hW=>by
   refine (HSD.out ⟨#[32,43,32]⟩ rfl W (by show bs.length+(brx 0 _).length+(brx 1 _).length+3≤500000;omega) hW).mono ?_
   rintro e w' ⟨rfl,h6⟩
   refine ⟨rfl,?_⟩
   have e1:brx 0 (q0m y k.trs)++32::43::32::brx 1 (q0m z l.trs)=brx ((5:Int) - 5).toNat (q0m y k.trs)++btL ⟨#[32,43,32]⟩++brx (((5:Int) - 5).toNat+1) (q0m z l.trs):=by simp;rfl
   rw [e1]
   exact h6
  clear HSD hl
  go_enter Tryz.func136,Tryz.ntmps136
  go_wp2_with fail
  refine HN.out.mono ?_
  rintro e w1 ⟨rfl,A1,c1,h1⟩
  have H1:Hid (∀ W:World,Below w1.heap.size w1 W→WyE w0 b bs (y::(k.nodes++(z::(l.nodes++rest)))) W):=fun W hb=>⟨_,_,h1.grew hb⟩
  clear h1 HN
  go_wp2_with fail
  refine (HS1.out _ (H1.out _ (q1j w1 _))).mono ?_
  rintro e w3 ⟨rfl,h3⟩
  go_wp2
  go_end0
  exact ⟨rfl,h3⟩
 ·have HL:Hid (q2w ⟨6,tx,n⟩ (Fo.cons y k (.cons z l .nil)).trs=brx 1 (q0m y k.trs)++32::42::32::brx 2 (q0m z l.trs)):=rfl
  rw [HL.out] at hl ⊢
  simp only [List.length_append,List.length_cons] at hl
  have HS1:Hid (∀ W:World,WyE w0 b bs (y::(k.nodes++(z::(l.nodes++rest)))) W→Calls Tryz.prog 170 #[.pointer (some ⟨b,0,none⟩),.int .i64 6,.string ⟨#[32,42,32]⟩] W fun e w'=>e = .returned (.tuple #[])∧WyE w0 b (bs++(brx 1 (q0m y k.trs)++32::42::32::brx 2 (q0m z l.trs))) rest w'):=fun W hW=>by
   refine (HSD.out ⟨#[32,42,32]⟩ rfl W (by show bs.length+(brx 1 _).length+(brx 2 _).length+3≤500000;omega) hW).mono ?_
   rintro e w' ⟨rfl,h6⟩
   refine ⟨rfl,?_⟩
   have e1:brx 1 (q0m y k.trs)++32::42::32::brx 2 (q0m z l.trs)=brx ((6:Int) - 5).toNat (q0m y k.trs)++btL ⟨#[32,42,32]⟩++brx (((6:Int) - 5).toNat+1) (q0m z l.trs):=by simp;rfl
   rw [e1]
   exact h6
  clear HSD hl
  go_enter Tryz.func136,Tryz.ntmps136
  go_wp2_with fail
  refine HN.out.mono ?_
  rintro e w1 ⟨rfl,A1,c1,h1⟩
  have H1:Hid (∀ W:World,Below w1.heap.size w1 W→WyE w0 b bs (y::(k.nodes++(z::(l.nodes++rest)))) W):=fun W hb=>⟨_,_,h1.grew hb⟩
  clear h1 HN
  go_wp2_with fail
  refine (HS1.out _ (H1.out _ (q1j w1 _))).mono ?_
  rintro e w3 ⟨rfl,h3⟩
  go_wp2
  go_end0
  exact ⟨rfl,h3⟩
theorem z7s {w0:World} {b:Nat} (ht:z5s w0):∀ F:Fo,F.ok→F.exs→v4j w0 b F
 | .nil,_,_=>trivial
 | .cons x k n,hok,hex=>by
  have hk:v4j w0 b k:=z7s ht k hok.2.1 fun y hy=>hex y (by simp [Fo.nodes,hy])
  have hn:v4j w0 b n:=z7s ht n hok.2.2 fun y hy=>hex y (by simp [Fo.nodes,hy])
  refine ⟨?_,hn⟩
  have hx:=hex x (by simp [Fo.nodes])
  have hkl:=hok.1
  obtain ⟨op,tx,m⟩:=x
  rcases q2e hx with ⟨e1,e2,e3,e4,e5⟩ | ⟨e1,e2,e3,e5⟩ | ⟨e1,e2,e3,e4,e5⟩ | ⟨e1,e2,e3,e4,e5⟩ | ⟨e1,e2,e3,e5⟩ | ⟨e1,e2,e3,e5⟩
  ·rw [e5] at hkl
   cases k with
   | cons=>simp [Fo.len] at hkl
   | nil=>
    dsimp only at e1 e3 e4
    subst e1
    exact v1n ht m e3 e4 tx
  ·rw [e5] at hkl
   cases k with
   | cons=>simp [Fo.len] at hkl
   | nil=>
    dsimp only at e1
    subst e1
    exact j6b tx m
  ·rw [e5] at hkl
   dsimp only at e1 e3 e4 hkl
   subst e1
   have:m=(k.len:Int):=by omega
   subst this
   exact j5z tx (k0j hk (by omega) 40 41)
  ·rw [e5] at hkl
   dsimp only at e1 e3 e4 hkl
   subst e1
   have:m=(k.len:Int):=by omega
   subst this
   exact j6a tx (k0j hk (by omega) 91 93)
  all_goals
   rw [e5] at hkl
   dsimp only at e1
   cases k with
   | nil=>simp [Fo.len] at hkl
   | cons y ky r=>
    cases r with
    | nil=>simp [Fo.len] at hkl
    | cons z kz r2=>
     cases r2 with
     | cons=>simp [Fo.len] at hkl
     | nil=>exact v1o hk.1 hk.2.1 op (by omega) tx m
end Go.Proofs.YtchdplceopegoaaGreatDoor
