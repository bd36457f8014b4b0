/- Texts as one: SyC, TreA. -/
import Derived.Test.YthjapabokcajhaaGreatDoorPf37
import Derived.Test.YthjapabokcajhaaGreatDoorPf11
namespace Go.Proofs.YthjapabokcajhaaGreatDoor
open Go Go.RowKit
set_option maxRecDepth 100000
set_option maxHeartbeats 4000000
def v0d(ks:List Tn):List UInt8:=match ks with
 | []=>[]
 | _::_=>44::32::cmx ks
def j8d(i:Nat)(ks:List Tn):List UInt8:=if i=0 then cmx ks else v0d ks
theorem j5e(t:Tn)(r:List Tn):cmx (t::r)=t.tx++v0d r:=by
 cases r<;>rfl
structure v1e(w0:World)(b:Nat)(rest:List Td)(T:List UInt8)(n:Nat)(i:Nat)(G:Fo)(bs:List UInt8)(w:World):Prop where
 n:i+G.len=n
 e:j4d w0 b G
 w:WyE w0 b bs (G.nodes++rest) w
 t:bs++j8d i G.trs=T
theorem z5n{w0:World}{b:Nat}{F:Fo}(hE:j4d w0 b F)(hn:F.len<=1000)(o z:UInt8):KdC w0 b F o z:=by
 intro bs rest w hl hW;obtain⟨A,c,h⟩:=hW
 have HO:Hid (Calls Tryz.prog 45 #[.pointer (some ⟨b,0,none⟩),.int .u8 (o.toNat:Int)] w fun e w'=>e=.returned .nilIface/\WyE w0 b (bs++[o]) (F.nodes++rest) w'):=by
  refine(q5e h o (by omega)).mono ?_;rintro e w'⟨rfl,h1⟩;exact⟨rfl,_,_,h1⟩
 have HZ:Hid (∀W:World,WyE w0 b (bs++[o]++cmx F.trs) rest W->CallsD Tryz.prog 45 #[.pointer (some ⟨b,0,none⟩),.int .u8 (z.toNat:Int)] .returning W fun e u' w'=>u'=.returning/\(e=.returned .nilIface/\WyE w0 b (bs++o::(cmx F.trs++[z])) rest w')):=fun W hW=>by
  obtain⟨A,c,h⟩:=hW;refine(z5m h z .returning (by simp only[List.length_append,List.length_cons,List.length_nil];omega)).mono ?_;rintro e u' w'⟨rfl,rfl,h1⟩;refine⟨rfl,rfl,A,c,?_⟩;have e1:bs++o::(cmx F.trs++[z])=bs++[o]++cmx F.trs++[z]:=by simp
  rw[e1];exact h1
 have HS:Hid (∀w1,WyE w0 b (bs++[o]) (F.nodes++rest) w1->v1e w0 b rest (bs++[o]++cmx F.trs) F.len 0 F (bs++[o]) w1):=fun w1 h1=>⟨by omega,hE,h1,rfl⟩
 have HTL:Hid ((bs++[o]++cmx F.trs).length<=500000):=(show _<=_ by simp only[List.length_append,List.length_cons,List.length_nil];omega);clear h hE hl;generalize F.len=fn at HS hn⊢;generalize bs++[o]++cmx F.trs=T at HS HZ HTL;go_enter_defers Tryz.func132,Tryz.ntmps132;go_wp2_with fail;refine HO.out.mono ?_;rintro e w1⟨rfl,h1⟩;have HS1:=(show Hid (_)from HS.out w1 h1);clear h1 HO HS;go_wp2_with fail
 go_loopw [19] (fun x wr=>∃(i:Nat)(G:Fo)(bs':List UInt8),x=.int .i64 (i:Int)/\v1e w0 b rest T fn i G bs' wr) (fun x _=>fn-(intOf x).toNat)
 case atStart=>exact⟨0,F,_,rfl,HS1.out⟩
 case round=>
  obtain⟨i,G,bs',rfl,hV⟩:=hrel;have hT:=HTL.out;cases G with
  | nil=>
   obtain⟨hi,_,hw,ht⟩:=hV;have hie:¬(i:Int)<(fn:Int):=by simp only[Fo.len]at hi;omega
   have ht2:bs'=T:=by
    rw[<-ht];unfold j8d
    split<;>simp[Fo.trs,cmx,v0d]
   have HW1:Hid (WyE w0 b T rest wr):=(show WyE w0 b T rest wr by rw[<-ht2];exact hw);clear hw ht ht2 hi;go_wp2;refine leaves_cons (f:=45) (args:=#[.pointer (some ⟨b,0,none⟩),.int .u8 (z.toNat:Int)]) (by simp) (by simp[go_sem]) ?_;refine(HZ.out _ HW1.out).mono ?_;rintro e u' w''⟨rfl,rfl,h5⟩;exact⟨_,results_none rfl _ _ _,rfl,h5⟩
  | cons y k G'=>
   obtain⟨hi,hE,hw,ht⟩:=hV;have hil:(i:Int)<(fn:Int):=by simp only[Fo.len]at hi;omega
   have hi2:i+1+G'.len=fn:=by simp only[Fo.len]at hi;omega
   have HX:Hid (ExC w0 b y k):=hE.1;have HE:Hid (j4d w0 b G'):=hE.2;have e0:(Fo.cons y k G').trs=q3d y k.trs::G'.trs:=rfl;have e1:(Fo.cons y k G').nodes++rest=y::(k.nodes++(G'.nodes++rest)):=by simp[Fo.nodes]
   rw[e1]at hw;rw[e0]at ht;have hcm:=j5e (q3d y k.trs) G'.trs;have hmt:(q3d y k.trs).tx=q2l y k.trs:=rfl;rw[hmt]at hcm;by_cases h0:i=0
   ·subst h0;rw[j8d,if_pos rfl,hcm]at ht
    have HX1:Hid (∀W,WyE w0 b bs' (y::(k.nodes++(G'.nodes++rest))) W->Calls Tryz.prog 85 #[.pointer (some ⟨b,0,none⟩)] W fun e w'=>e=.returned (.tuple #[])/\v1e w0 b rest T fn 1 G' (bs'++q2l y k.trs) w'):=fun W hW=>by
     refine(HX.out bs' (G'.nodes++rest) W (by rw[<-ht]at hT;simp only[List.length_append]at hT;omega) hW).mono ?_;rintro e w'⟨rfl,h6⟩;exact⟨rfl,by omega,HE.out,h6,by rw[j8d,if_neg (by omega),List.append_assoc];exact ht⟩
    have HW:=(show Hid (_)from hw);clear hw ht hcm e0 e1 hE HX hi hmt;go_wp2_with fail;refine(HX1.out _ HW.out).mono ?_;rintro e w2⟨rfl,h2⟩;go_wp2;refine⟨⟨1,G',_,rfl,h2⟩,?_⟩;simp[intOf];omega
   ·rw[j8d,if_neg h0]at ht
    have ht3:bs'++[44,32]++(q2l y k.trs++v0d G'.trs)=T:=by
     rw[<-ht,<-hcm];simp[v0d]
    have hi0:0<(i:Int):=by omega
    have HC:Hid (Calls Tryz.prog 38 #[.pointer (some ⟨b,0,none⟩),.string ⟨#[44,32]⟩] wr fun e w'=>(∃z,e=.returned (.tuple #[z,.nilIface]))/\WyE w0 b (bs'++[44,32]) (y::(k.nodes++(G'.nodes++rest))) w'):=by
     obtain⟨A,c,h⟩:=hw;refine(q3b h ⟨#[44,32]⟩ (by rw[<-ht3]at hT;simp only[List.length_append]at hT;omega) (by decide)).mono ?_;rintro e w'⟨rfl,h,_⟩;exact⟨⟨_,rfl⟩,_,_,h⟩
    have HX1:Hid (∀W,WyE w0 b (bs'++[44,32]) (y::(k.nodes++(G'.nodes++rest))) W->Calls Tryz.prog 85 #[.pointer (some ⟨b,0,none⟩)] W fun e w'=>e=.returned (.tuple #[])/\v1e w0 b rest T fn (i+1) G' (bs'++[44,32]++q2l y k.trs) w'):=fun W hW=>by
     refine(HX.out (bs'++[44,32]) (G'.nodes++rest) W (by rw[<-ht3]at hT;simp only[List.length_append]at hT⊢;omega) hW).mono ?_;rintro e w'⟨rfl,h6⟩;exact⟨rfl,by omega,HE.out,h6,by rw[j8d,if_neg (by omega),List.append_assoc];exact ht3⟩
    clear hw ht ht3 hcm e0 e1 hE HX hi hmt;go_wp2_with fail;refine HC.out.mono ?_;rintro e w2⟨⟨q,rfl⟩,h2⟩;have H2:=(show Hid (_)from h2);clear h2;go_wp2_with fail;refine(HX1.out _ H2.out).mono ?_;rintro e w3⟨rfl,h3⟩;go_wp2;refine⟨⟨i+1,G',_,by go_num,h3⟩,?_⟩;simp[intOf];omega
theorem z5p{w0:World}{b:Nat}{y:Td}{k:Fo}(hX:ExC w0 b y k)(op:Int)(hop:op=5\/op=6)(s:Bool)(bs:List UInt8)(rest:List Td)(w:World)(hl:bs.length+(brx ((op-5).toNat+s.toNat) (q3d y k.trs)).length<=500000)(hW:WyE w0 b bs (y::(k.nodes++rest)) w):
  Calls Tryz.prog 181 #[.pointer (some ⟨b,0,none⟩),.int .i64 op,.bool s] w fun e w'=>e=.returned (.tuple #[])/\WyE w0 b (bs++brx ((op-5).toNat+s.toNat) (q3d y k.trs)) rest w':=by
 have HNB:Hid (∀W,Calls Tryz.prog 206 #[.int .i64 y.op,.int .i64 op,.bool s] W fun e w'=>e=.returned (.bool (decide (prc y<(op-5).toNat+s.toNat)))/\w'=W):=fun W=>z4w y op hop s W
 have HX:Hid (ExC w0 b y k):=hX;obtain⟨A,c,h⟩:=hW;obtain⟨tb,tq,rfl,hlt,d0,_,_⟩:=h.td 0 (by simp);simp only[List.getElem_cons_zero,Nat.zero_mul,Nat.add_zero]at d0;obtain⟨bc,_⟩:=q1g h.bl;have e0:w.cell? ⟨tb,tq,none⟩=some (.int .i64 y.op):=(bc _ _ hlt).trans d0;have cR:w.cell? ⟨b,2,none⟩=some (.slice (some ⟨tb,tq,none⟩) (y::(k.nodes++rest)).length c):=h.x.cellR 0;generalize hn:(y::(k.nodes++rest)).length=n at cR;have h1n:0<n:=by rw[<-hn];simp
 have hbx:brx ((op-5).toNat+s.toNat) (q3d y k.trs)=if prc y<(op-5).toNat+s.toNat then 40::(q2l y k.trs++[41])else q2l y k.trs:=rfl
 rw[hbx]at hl⊢;by_cases hp:prc y<(op-5).toNat+s.toNat
 ·rw[if_pos hp]at hl⊢;rw[decide_eq_true hp]at HNB;simp only[List.length_cons,List.length_append,List.length_nil]at hl
  have HO:Hid (Calls Tryz.prog 45 #[.pointer (some ⟨b,0,none⟩),.int .u8 40] w fun e w'=>e=.returned .nilIface/\WyE w0 b (bs++[40]) (y::(k.nodes++rest)) w'):=by
   refine(q5e h 40 (by omega)).mono ?_;rintro e w'⟨rfl,h1⟩;exact⟨rfl,_,_,h1⟩
  have HX1:Hid (∀W,WyE w0 b (bs++[40]) (y::(k.nodes++rest)) W->Calls Tryz.prog 85 #[.pointer (some ⟨b,0,none⟩)] W fun e w'=>e=.returned (.tuple #[])/\WyE w0 b (bs++[40]++q2l y k.trs) rest w'):=fun W hW=>HX.out (bs++[40]) rest W (by simp only[List.length_append,List.length_cons,List.length_nil];omega) hW
  have HZ:Hid (∀W:World,WyE w0 b (bs++[40]++q2l y k.trs) rest W->CallsD Tryz.prog 45 #[.pointer (some ⟨b,0,none⟩),.int .u8 41] .returning W fun e u' w'=>u'=.returning/\(e=.returned .nilIface/\WyE w0 b (bs++40::(q2l y k.trs++[41])) rest w')):=fun W hW=>by
   obtain⟨A,c,h⟩:=hW;refine(z5m h 41 .returning (by simp only[List.length_append,List.length_cons,List.length_nil];omega)).mono ?_;rintro e u' w'⟨rfl,rfl,h1⟩;refine⟨rfl,rfl,A,c,?_⟩;have e1:bs++40::(q2l y k.trs++[41])=bs++[40]++q2l y k.trs++[41]:=by simp
   rw[e1];exact h1
  clear h bc d0 hbx hl hop hn hX;go_enter_defers Tryz.func181,Tryz.ntmps181;go_wp2_with fail;refine(HNB.out _).mono ?_;rintro e w1⟨rfl,rfl⟩;go_wp2_with fail;refine HO.out.mono ?_;rintro e w2⟨rfl,h2⟩;have H2:=(show Hid (_)from h2);clear h2;go_wp2_with fail;refine(HX1.out _ H2.out).mono ?_;rintro e w3⟨rfl,h3⟩;have H3:=(show Hid (_)from h3);clear h3;go_wp2;refine leaves_cons (f:=45) (args:=#[.pointer (some ⟨b,0,none⟩),.int .u8 41]) (by simp) (by simp[go_sem]) ?_;refine(HZ.out _ H3.out).mono ?_;rintro e u' w''⟨rfl,rfl,h5⟩;exact⟨_,results_none rfl _ _ _,rfl,h5⟩
 ·rw[if_neg hp]at hl⊢;rw[decide_eq_false hp]at HNB;have HX1:Hid (Calls Tryz.prog 85 #[.pointer (some ⟨b,0,none⟩)] w fun e w'=>e=.returned (.tuple #[])/\WyE w0 b (bs++q2l y k.trs) rest w'):=HX.out bs rest w (by omega) ⟨_,_,h⟩;clear h bc d0 hbx hl hop hn hX;go_enter_defers Tryz.func181,Tryz.ntmps181;go_wp2_with fail;refine(HNB.out _).mono ?_;rintro e w1⟨rfl,rfl⟩;go_wp2_with fail;refine HX1.out.mono ?_;rintro e w3⟨rfl,h3⟩;have H3:=(show Hid (_)from h3);clear h3;go_wp2;exact⟨_,results_none rfl _ _ _,rfl,H3.out⟩
theorem k1l{w0:World}{b:Nat}{y z:Td}{k l:Fo}(hX:ExC w0 b y k)(hZ:ExC w0 b z l)(op:Int)(hop:op=5\/op=6)(m:ByteArray)(hm:m.size=3)(bs:List UInt8)(rest:List Td)(w:World)
  (hl:bs.length+(brx (op-5).toNat (q3d y k.trs)).length+(brx ((op-5).toNat+1) (q3d z l.trs)).length+3<=500000) (hW:WyE w0 b bs (y::(k.nodes++(z::(l.nodes++rest)))) w):
  Calls Tryz.prog 133 #[.pointer (some ⟨b,0,none⟩),.int .i64 op,.string m] w fun e w'=>e=.returned (.tuple #[])/\WyE w0 b (bs++(brx (op-5).toNat (q3d y k.trs)++btL m++brx ((op-5).toNat+1) (q3d z l.trs))) rest w':=by
 have hml:(btL m).length=3:=by rw[q0h,hm]
 have H1:Hid (Calls Tryz.prog 181 #[.pointer (some ⟨b,0,none⟩),.int .i64 op,.bool false] w fun e w'=>e=.returned (.tuple #[])/\WyE w0 b (bs++brx (op-5).toNat (q3d y k.trs)) (z::(l.nodes++rest)) w'):=z5p hX op hop false bs _ w (by simp only[Bool.toNat_false,Nat.add_zero];omega) hW;generalize brx (op-5).toNat (q3d y k.trs)=X at H1 hl⊢
 have H2:Hid (∀W,WyE w0 b (bs++X) (z::(l.nodes++rest)) W->Calls Tryz.prog 38 #[.pointer (some ⟨b,0,none⟩),.string m] W fun e w'=>(∃z,e=.returned (.tuple #[z,.nilIface]))/\WyE w0 b (bs++X++btL m) (z::(l.nodes++rest)) w'):=fun W hW=>by
  obtain⟨A,c,h⟩:=hW;refine(q3b h m (by simp only[List.length_append];omega) (by omega)).mono ?_;rintro e w'⟨rfl,h,_⟩;exact⟨⟨_,rfl⟩,_,_,h⟩
 have H3:Hid (∀W,WyE w0 b (bs++X++btL m) (z::(l.nodes++rest)) W->Calls Tryz.prog 181 #[.pointer (some ⟨b,0,none⟩),.int .i64 op,.bool true] W fun e w'=>e=.returned (.tuple #[])/\WyE w0 b (bs++X++btL m++brx ((op-5).toNat+1) (q3d z l.trs)) rest w'):=fun W hW=>z5p hZ op hop true _ _ W (by simp only[List.length_append,Bool.toNat_true];omega) hW
 clear hW hl hX hZ hml hm;go_in;go_wp2_with fail;refine H1.out.mono ?_;rintro e w1⟨rfl,h1⟩;have K1:=(show Hid (_)from h1);clear h1;go_wp2_with fail;refine(H2.out _ K1.out).mono ?_;rintro e w2⟨⟨q,rfl⟩,h2⟩;have K2:=(show Hid (_)from h2);clear h2;go_wp2_with fail;refine(H3.out _ K2.out).mono ?_;rintro e w3⟨rfl,h3⟩;have K3:=(show Hid (_)from h3);clear h3;go_wp2
 go_end0
 refine⟨rfl,?_⟩;have h4:=K3.out;simp only[List.append_assoc]at h4⊢;exact h4
theorem j1x{w0:World}{b:Nat}{y z:Td}{k l:Fo}(hX:ExC w0 b y k)(hZ:ExC w0 b z l)(op:Int)(hop:op=5\/op=6)(tx:ByteArray)(n:Int):ExC w0 b ⟨op,tx,n⟩ (.cons y k (.cons z l .nil)):=by
 intro bs rest w hl hW;obtain⟨A,c,h⟩:=hW;have hnd:(Fo.cons y k (.cons z l .nil)).nodes++rest=y::(k.nodes++(z::(l.nodes++rest))):=by simp[Fo.nodes]
 rw[hnd]at h;have HN:Hid (Calls Tryz.prog 83 #[.pointer (some ⟨b,0,none⟩)] w fun e w'=>e=.returned (tdV ⟨op,tx,n⟩)/\WyE w0 b bs (y::(k.nodes++(z::(l.nodes++rest)))) w'):=q3a h;have HSD:=(show Hid (_)from fun m hm W hl hW=>k1l hX hZ op hop m hm bs rest W hl hW);clear h hnd hX hZ;rcases hop with rfl|rfl
 ·have HL:Hid (q2l ⟨5,tx,n⟩ (Fo.cons y k (.cons z l .nil)).trs=brx 0 (q3d y k.trs)++32::43::32::brx 1 (q3d z l.trs)):=rfl;rw[HL.out]at hl⊢;simp only[List.length_append,List.length_cons]at hl
  have HS1:Hid (∀W:World,WyE w0 b bs (y::(k.nodes++(z::(l.nodes++rest)))) W->Calls Tryz.prog 133 #[.pointer (some ⟨b,0,none⟩),.int .i64 5,.string ⟨#[32,43,32]⟩] W fun e w'=>e=.returned (.tuple #[])/\WyE w0 b (bs++(brx 0 (q3d y k.trs)++32::43::32::brx 1 (q3d z l.trs))) rest w'):=fun W hW=>by
   refine(HSD.out ⟨#[32,43,32]⟩ rfl W (by show bs.length+(brx 0 _).length+(brx 1 _).length+3<=500000;omega) hW).mono ?_;rintro e w'⟨rfl,h6⟩;refine⟨rfl,?_⟩;have e1:brx 0 (q3d y k.trs)++32::43::32::brx 1 (q3d z l.trs)=brx ((5:Int)-5).toNat (q3d y k.trs)++btL ⟨#[32,43,32]⟩++brx (((5:Int)-5).toNat+1) (q3d z l.trs):=by simp;rfl
   rw[e1];exact h6
  clear HSD hl;go_in;go_wp2_with fail;refine HN.out.mono ?_;rintro e w1⟨rfl,A1,c1,h1⟩;have H1:Hid (∀W:World,Below w1.heap.size w1 W->WyE w0 b bs (y::(k.nodes++(z::(l.nodes++rest)))) W):=fun W hb=>⟨_,_,h1.grew hb⟩
  clear h1 HN;go_wp2_with fail;refine(HS1.out _ (H1.out _ (q7o w1 _))).mono ?_;rintro e w3⟨rfl,h3⟩;go_wp2
  go_end0
  exact⟨rfl,h3⟩
 ·have HL:Hid (q2l ⟨6,tx,n⟩ (Fo.cons y k (.cons z l .nil)).trs=brx 1 (q3d y k.trs)++32::42::32::brx 2 (q3d z l.trs)):=rfl;rw[HL.out]at hl⊢;simp only[List.length_append,List.length_cons]at hl
  have HS1:Hid (∀W:World,WyE w0 b bs (y::(k.nodes++(z::(l.nodes++rest)))) W->Calls Tryz.prog 133 #[.pointer (some ⟨b,0,none⟩),.int .i64 6,.string ⟨#[32,42,32]⟩] W fun e w'=>e=.returned (.tuple #[])/\WyE w0 b (bs++(brx 1 (q3d y k.trs)++32::42::32::brx 2 (q3d z l.trs))) rest w'):=fun W hW=>by
   refine(HSD.out ⟨#[32,42,32]⟩ rfl W (by show bs.length+(brx 1 _).length+(brx 2 _).length+3<=500000;omega) hW).mono ?_;rintro e w'⟨rfl,h6⟩;refine⟨rfl,?_⟩;have e1:brx 1 (q3d y k.trs)++32::42::32::brx 2 (q3d z l.trs)=brx ((6:Int)-5).toNat (q3d y k.trs)++btL ⟨#[32,42,32]⟩++brx (((6:Int)-5).toNat+1) (q3d z l.trs):=by simp;rfl
   rw[e1];exact h6
  clear HSD hl;go_in;go_wp2_with fail;refine HN.out.mono ?_;rintro e w1⟨rfl,A1,c1,h1⟩;have H1:Hid (∀W:World,Below w1.heap.size w1 W->WyE w0 b bs (y::(k.nodes++(z::(l.nodes++rest)))) W):=fun W hb=>⟨_,_,h1.grew hb⟩
  clear h1 HN;go_wp2_with fail;refine(HS1.out _ (H1.out _ (q7o w1 _))).mono ?_;rintro e w3⟨rfl,h3⟩;go_wp2
  go_end0
  exact⟨rfl,h3⟩
theorem z3i{w0:World}{b:Nat}(ht:z1v w0):∀F:Fo,F.ok->F.exs->j4d w0 b F
 | .nil,_,_=>trivial
 | .cons x k n,hok,hex=>by
  have hk:j4d w0 b k:=z3i ht k hok.2.1 fun y hy=>hex y (by simp[Fo.nodes,hy])
  have hn:j4d w0 b n:=z3i ht n hok.2.2 fun y hy=>hex y (by simp[Fo.nodes,hy])
  refine⟨?_,hn⟩;have hx:=hex x (by simp[Fo.nodes]);have hkl:=hok.1;obtain⟨op,tx,m⟩:=x;rcases q1n hx with⟨e1,e2,e3,e4,e5⟩|⟨e1,e2,e3,e5⟩|⟨e1,e2,e3,e4,e5⟩|⟨e1,e2,e3,e4,e5⟩|⟨e1,e2,e3,e5⟩|⟨e1,e2,e3,e5⟩
  ·rw[e5]at hkl;cases k with
   | cons=>simp[Fo.len]at hkl
   | nil=>
    dsimp only at e1 e3 e4;subst e1;exact j1w ht m e3 e4 tx
  ·rw[e5]at hkl;cases k with
   | cons=>simp[Fo.len]at hkl
   | nil=>
    dsimp only at e1;subst e1;exact k8c tx m
  ·rw[e5]at hkl;dsimp only at e1 e3 e4 hkl;subst e1
   have:m=(k.len:Int):=by omega
   subst this;exact k8a tx (z5n hk (by omega) 40 41)
  ·rw[e5]at hkl;dsimp only at e1 e3 e4 hkl;subst e1
   have:m=(k.len:Int):=by omega
   subst this;exact k8b tx (z5n hk (by omega) 91 93)
  all_goals
   rw[e5]at hkl;dsimp only at e1;cases k with
   | nil=>simp[Fo.len]at hkl
   | cons y ky r=>
    cases r with
    | nil=>simp[Fo.len]at hkl
    | cons z kz r2=>
     cases r2 with
     | cons=>simp[Fo.len]at hkl
     | nil=>exact j1x hk.1 hk.2.1 op (by omega) tx m
end Go.Proofs.YthjapabokcajhaaGreatDoor
namespace Go.Proofs.YthjapabokcajhaaGreatDoor
open Go Go.RowKit
set_option maxRecDepth 100000
set_option maxHeartbeats 4000000
theorem z5k(a:Addr)(n cap:Nat)(op:Int)(w:World)(hn:0<n){b o:Nat}(ha:a=⟨b,o,none⟩)(hc:w.cell? ⟨b,o,none⟩=some (.int .i64 op)):Calls Tryz.prog 82 #[.slice (some a) n cap] w fun e w'=>e=.returned (.bool (op==9))/\w=w':=by
 subst ha;have hni:(0:Int)<(n:Int):=by omega
 go_in;go_wp2;go_ret;exact⟨rfl,rfl⟩
theorem k7k(ps:List (List Td))(a:Option Addr)(cap:Nat)(w:World)(_hc:ps.length<=cap)(hP:Prg w a ps)(hsz:∀t∈ps,k1o t):Calls Tryz.prog 42 #[.slice a ps.length cap] w fun e w'=>e=.returned (.tuple #[.int .i64 ((q1i ps).1:Int),q1p (q1i ps).2])/\Below w.heap.size w w':=by
 have HP:Hid (Prg w a ps):=hP;have HSZ:Hid (∀t∈ps,k1o t):=hsz;clear hP hsz;by_cases h20:20<(ps.length:Int)
 ·have HE:Hid (q1i ps=(0,3)):=by show q1i ps=_;rw[q1i,if_pos (by omega)]
  go_in;go_wp2;go_ret2;exact⟨by rw[HE.out];rfl,Below.refl _ _⟩
 have HF:Hid (q1i ps=q3u 0 0 ps):=by show q1i ps=_;rw[q1i,if_neg (by omega)]
 go_in;go_wp2
 go_loopw [13] (fun i wr=>Below w.heap.size w wr/\∃k:Nat,k<=ps.length/\i=.int .i64 k/\q1i ps=q3u (q4q ps k) k (ps.drop k)/\∀j(h:j<ps.length),j<k->q0b ps[j]=0) (fun i _=>ps.length-(intOf i).toNat)
 case atStart=>exact⟨Below.refl _ _,0,Nat.zero_le _,rfl,HF.out,fun j _ h=>by omega⟩
 case round=>
  obtain⟨hbr,k,hk,rfl,hF,hall⟩:=hrel;have HBR:Hid (Below w.heap.size w wr):=hbr;have HG:Hid (q1i ps=q3u (q4q ps k) k (ps.drop k)):=hF;have HA:Hid (∀j(h:j<ps.length),j<k->q0b ps[j]=0):=hall;clear hbr hF hall;by_cases hlt:k<ps.length
  ·obtain⟨b,o,a',c',ea,hb,c1,c2,hT⟩:=(HP.out.below HBR.out) k hlt;subst ea;have hki:(k:Int)<(ps.length:Int):=by omega
   have HTF0:Calls Tryz.prog 29 #[.slice a' ps[k].length c'] wr fun e w'=>e=.returned (q1p (q0b ps[k]))/\Below wr.heap.size wr w':=q4k ps[k] a' c' wr c2 hT (HSZ.out _ (List.getElem_mem hlt))
   have HA3:Hid (q0b ps[k]=0->∀j(h:j<ps.length),j<k+1->q0b ps[j]=0):=fun h0 j h hj=>by
    by_cases hjk:j=k
    ·subst hjk;exact h0
    ·exact HA.out j h (by omega)
   have HOP:Hid (q0b ps[k]=0->0<ps[k].length/\∃b1 o1,a'=some ⟨b1,o1,none⟩/\b1<wr.heap.size/\wr.cell? ⟨b1,o1,none⟩=some (.int .i64 (opT ps[k]))):=fun h0=>by
    have hpos:=z3g h0;obtain⟨b1,o1,e1,hb1,d1,_,_⟩:=hT 0 hpos;exact⟨hpos,b1,o1,e1,hb1,by rw[z6z hpos];simpa using d1⟩
   have HBAD:Hid (q0b ps[k]≠0->q1i ps=(k,q0b ps[k])):=fun h=>HG.out.trans (k6u hlt h)
   have HTWO:Hid (q0b ps[k]=0->opT ps[k]=9/\q4q ps k=9->q1i ps=(k,2)):=fun h h2=>HG.out.trans (k6v hlt h h2)
   have HNXT:Hid (q0b ps[k]=0->¬(opT ps[k]=9/\q4q ps k=9)->q1i ps=q3u (q4q ps (k+1)) (k+1) (ps.drop (k+1))):=fun h h2=>HG.out.trans (k1a hlt h h2)
   have HPREV:Hid (∀j,k=j+1->∃a1 n1 c1',wr.cell? ⟨b,o+j,none⟩=some (.slice a1 n1 c1')/\0<n1/\∃b2 o2,a1=some ⟨b2,o2,none⟩/\b2<wr.heap.size/\wr.cell? ⟨b2,o2,none⟩=some (.int .i64 (q4q ps k))):=fun j hj=>by
    have hjl:j<ps.length:=by omega
    obtain⟨bj,oj,aj,cj,ej,_,q1,_,qT⟩:=(HP.out.below HBR.out) j hjl;simp only[Option.some.injEq,Addr.mk.injEq,and_true]at ej;obtain⟨rfl,rfl⟩:=ej;have hpos:=z3g (HA.out j hjl (by omega));obtain⟨b2,o2,e2,hb2,d2,_,_⟩:=qT 0 hpos;refine⟨aj,ps[j].length,cj,q1,hpos,b2,o2,e2,hb2,?_⟩;rw[hj,z1h hjl,z6z hpos];simpa using d2
   have HTF:Hid (Calls Tryz.prog 29 #[.slice a' ps[k].length c'] wr fun e w'=>e=.returned (q1p (q0b ps[k]))/\Below wr.heap.size wr w'):=HTF0;clear hT HTF0 c2;generalize ps[k].length=nl at c1 HTF HOP;generalize opT ps[k]=op0 at HOP HTWO HNXT;generalize q0b ps[k]=E at HTF HA3 HOP HBAD HTWO HNXT;by_cases he:E=0
   ·subst he;obtain⟨hnl,b1,o1,rfl,hb1,d1⟩:=HOP.out rfl;have HA4:=(show Hid (_)from HA3.out rfl);have HT2:Hid (op0=9/\q4q ps k=9->q1i ps=(k,2)):=HTWO.out rfl;have HN2:Hid (¬(op0=9/\q4q ps k=9)->q1i ps=q3u (q4q ps (k+1)) (k+1) (ps.drop (k+1))):=HNXT.out rfl;clear HTWO HNXT;have hnli:(0:Int)<(nl:Int):=by omega
    have HC1:=(show Hid (_)from c1);have HD1:=(show Hid (_)from d1);clear HOP HBAD HA3 c1 d1;by_cases hk0:k=0
    ·have HN:Hid (q1i ps=q3u (q4q ps (k+1)) (k+1) (ps.drop (k+1))):=HN2.out (by simp[q4q,hk0]);have hkb:¬(0:Int)<(k:Int):=by omega
     have c1:=HC1.out;clear HT2 HN2 hk0;go_wp2_with fail;refine HTF.out.mono ?_;rintro e w2⟨rfl,b2⟩;rw[q0u];have HB2:Hid (Below w.heap.size w w2):=q0g HBR.out (Nat.le_refl _) b2;clear b2 c1;go_wp2
     go_roundw
     case rel=>exact⟨HB2.out,k+1,by omega,by go_num,HN.out,HA4.out⟩
     case measure=>simp[intOf];omega
    ·obtain⟨j,rfl⟩:∃j,k=j+1:=⟨k-1,by omega⟩;obtain⟨a1,n1,c1',q1,hn1,b2,o2,rfl,hb2,d2⟩:=HPREV.out j rfl;have hcast:((j+1:Nat):Int)=(j:Int)+1:=by omega
     have hkb:(0:Int)<(j:Int)+1:=by omega
     have hji:(j:Int)<(ps.length:Int):=by omega
     have hkj:(j:Int)+1<(ps.length:Int):=by omega
     have HCK:Hid (∀W:World,Below wr.heap.size wr W->W.cell? ⟨b,o+(j+1),none⟩=some (.slice (some ⟨b1,o1,none⟩) nl c')/\W.cell? ⟨b1,o1,none⟩=some (.int .i64 op0)/\W.cell? ⟨b,o+j,none⟩=some (.slice (some ⟨b2,o2,none⟩) n1 c1')/\W.cell? ⟨b2,o2,none⟩=some (.int .i64 (q4q ps (j+1)))):=fun W hW=>
      ⟨((q1g hW).1 _ _ hb).trans HC1.out,((q1g hW).1 _ _ hb1).trans HD1.out,((q1g hW).1 _ _ hb).trans q1,((q1g hW).1 _ _ hb2).trans d2⟩
     have c1:=HC1.out;generalize q4q ps (j+1)=pv at HT2 HN2 HCK;rw[hcast]at hki⊢;clear q1 d2 HPREV hcast hk0;go_wp2_with fail;refine HTF.out.mono ?_;rintro e w2⟨rfl,b2'⟩;rw[q0u];have HB2:Hid (Below w.heap.size w w2):=q0g HBR.out (Nat.le_refl _) b2';obtain⟨k1,k2,k3,k4⟩:=HCK.out w2 b2';clear b2' c1;have HN1:Hid (Calls Tryz.prog 82 #[.slice (some ⟨b1,o1,none⟩) nl c'] w2 fun e w'=>e=.returned (.bool (op0==9))/\w2=w'):=z5k ⟨b1,o1,none⟩ nl c' op0 w2 hnl rfl k2;have HN2':Hid (Calls Tryz.prog 82 #[.slice (some ⟨b2,o2,none⟩) n1 c1'] w2 fun e w'=>e=.returned (.bool (pv==9))/\w2=w'):=z5k ⟨b2,o2,none⟩ n1 c1' pv w2 hn1 rfl k4;clear k2 k4;go_wp2_with fail;refine HN1.out.mono ?_;rintro e w3⟨rfl,rfl⟩;by_cases h9:op0=9
     ·subst h9;have hob:((9:Int)==9)=true:=rfl;rw[hob];clear hob;go_wp2_with fail;refine HN2'.out.mono ?_;rintro e w3⟨rfl,rfl⟩;by_cases h9':pv=9
      ·subst h9';have HE:Hid (q1i ps=(j+1,2)):=HT2.out (by simp);have hob:((9:Int)==9)=true:=rfl;rw[hob];clear HT2 HN2 hob;go_wp2;go_ret2;exact⟨by rw[HE.out];rfl,HB2.out⟩
      ·have HN:Hid (q1i ps=q3u (q4q ps (j+1+1)) (j+1+1) (ps.drop (j+1+1))):=HN2.out (fun h=>h9' h.2);have hpb:(pv==9)=false:=by simp[h9']
       rw[hpb];clear HT2 HN2 h9' hpb;go_wp2
       go_roundw
       case rel=>exact⟨HB2.out,j+1+1,by omega,by go_num,HN.out,HA4.out⟩
       case measure=>simp[intOf];omega
     ·have HN:Hid (q1i ps=q3u (q4q ps (j+1+1)) (j+1+1) (ps.drop (j+1+1))):=HN2.out (fun h=>h9 h.1);have hob:(op0==9)=false:=by simp[h9]
      rw[hob];clear HT2 HN2 h9 hob;go_wp2
      go_roundw
      case rel=>exact⟨HB2.out,j+1+1,by omega,by go_num,HN.out,HA4.out⟩
      case measure=>simp[intOf];omega
   ·have HE:Hid (q1i ps=(k,E)):=HBAD.out he;have HER:Hid (q1p E=.iface 23 (.int .i64 E)):=q0o he;clear HOP HBAD HA3 HTWO HNXT he;go_wp2_with fail;refine HTF.out.mono ?_;rintro e w2⟨rfl,b2⟩;rw[HER.out];have HB2:Hid (Below w.heap.size w w2):=q0g HBR.out (Nat.le_refl _) b2;clear b2 c1;go_wp2;go_ret2;exact⟨by rw[HE.out,HER.out];rfl,HB2.out⟩
  ·have HE:Hid (q1i ps=(0,0)):=by
    show q1i ps=_;rw[HG.out,List.drop_eq_nil_of_le (by omega)];rfl
   have hki:¬(k:Int)<(ps.length:Int):=by omega
   go_wp2;go_ret2;exact⟨by rw[HE.out];rfl,HBR.out⟩
end Go.Proofs.YthjapabokcajhaaGreatDoor
