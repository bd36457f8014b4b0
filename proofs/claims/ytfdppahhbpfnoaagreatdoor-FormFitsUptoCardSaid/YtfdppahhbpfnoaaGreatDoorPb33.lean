import Derived.Test.YtfdppahhbpfnoaaGreatDoorPb26
import Derived.Test.YtfdppahhbpfnoaaGreatDoorPb28
open Go.Proofs.Tryz
namespace Go.Proofs.YtfdppahhbpfnoaaGreatDoor
open Go Go.RowKit
theorem q5y.take{g:Option Nat}{w:World}{a:Option Addr}{ls:List (List Int)}(h:q5y g w a ls)(n:Nat):q5y g w a (ls.take n):=by
 intro i B;have A:i<ls.length:=by simp at B;omega
 have e:(ls.take n)[i]=ls[i]:=List.getElem_take;rw[e];exact h i A
theorem z7k.o{B:Nat}{v:Value}{ls:List (List Int)}{w:World}(h:z7k B v ls none w):∃a c,v=.slice a ls.length c/\ls.length<=c/\(ls.length=0\/∃k,a=some ⟨k,0,none⟩)/\(∀g:Option Nat,(∀k,g=some k->k<B)->q5y g w a ls)/\(∀k,v.ownBlock=some k->B<=k/\k<w.heap.size):=by
 have G:=h;obtain⟨L,I,_⟩:=G;rcases I.2 with⟨rfl,H⟩|⟨K,D,E,rfl,J,A,C,_⟩
 ·rw[H]at *;exact⟨none,0,rfl,Nat.le_refl _,.inl rfl,fun g hg=>(h.waysN hg).2,fun k hk=>by cases hk⟩
 ·exact⟨_,D,rfl,C,.inr ⟨_,rfl⟩,fun g hg=>(h.waysN hg).2,fun k hk=>by
   cases hk
   exact⟨J,(Array.getElem?_eq_some_iff.1 A).1⟩⟩
theorem q5y.apart{w w':World}{a:Option Addr}{ls:List (List Int)}{g:Option Nat}(h:q5y none w a ls)(hb:Below w w w')(hg:∀k,g=some k->w.heap.size<=k):q5y g w' a ls:=(h.new hg).W hb
set_option maxRecDepth 100000
set_option maxHeartbeats 4000000
def y7q(ks:List Tn):List UInt8:=match ks with
 | []=>[]
 | _::_=>44::32::cmx ks
def y4p(i:Nat)(ks:List Tn):List UInt8:=if i=0 then cmx ks else y7q ks
theorem y0x(t:Tn)(r:List Tn):cmx (t::r)=t.tx++y7q r:=by
 cases r<;>rfl
structure y8v(w0:World)(b:Nat)(rest:List Td)(T:List UInt8)(n:Nat)(i:Nat)(G:Fo)(bs:List UInt8)(w:World):Prop where
 n:i+G.len=n
 e:v9r w0 b G
 w:WyE w0 b bs (G.N++rest) w
 t:bs++y4p i G.R=T
theorem k3n{w0:World}{b:Nat}{F:Fo}(hE:v9r w0 b F)(hn:F.len<=1000)(o z:UInt8):KdC w0 b F o z:=by
 intro I B w hl O;obtain⟨A,c,h⟩:=O
 have r:Hid (Calls prog 45 #[.pointer (some ⟨b,0,none⟩),.int .u8 (o.toNat:Int)] w fun e D=>e=.returned .nilIface/\WyE w0 b (I++[o]) (F.N++B) D):=by
  refine(q7t h o (by omega)).mono ?_;rintro e D⟨rfl,K⟩;exact⟨rfl,_,_,K⟩
 have s:Hid (∀W:World,WyE w0 b (I++[o]++cmx F.R) B W->CallsD prog 45 #[.pointer (some ⟨b,0,none⟩),.int .u8 (z.toNat:Int)] .returning W fun e n D=>n=.returning/\(e=.returned .nilIface/\WyE w0 b (I++o::(cmx F.R++[z])) B D)):=fun W O=>by
  obtain⟨A,c,h⟩:=O;refine(k3m h z .returning (by simp only[List.length_append,List.length_cons,List.length_nil];omega)).mono ?_;rintro e n D⟨rfl,rfl,K⟩;refine⟨rfl,rfl,A,c,?_⟩;have V:I++o::(cmx F.R++[z])=I++[o]++cmx F.R++[z]:=by simp
  rw[V];exact K
 have Z:Hid (∀Y,WyE w0 b (I++[o]) (F.N++B) Y->y8v w0 b B (I++[o]++cmx F.R) F.len 0 F (I++[o]) Y):=fun Y K=>⟨by omega,hE,K,rfl⟩
 have U:Hid ((I++[o]++cmx F.R).length<=500000):=(show _<=_ by simp only[List.length_append,List.length_cons,List.length_nil];omega);clear h hE hl;generalize F.len=fn at Z hn⊢;generalize I++[o]++cmx F.R=T at Z s U;go_enter_defers func132,ntmps132;go_wp2_with fail;refine r.o.mono ?_;rintro e Y⟨rfl,K⟩;have g:=hid (Z.o Y K);clear K r Z;go_wp2_with fail
 go_loopw [19] (fun x wr=>∃(i:Nat)(G:Fo)(C:List UInt8),x=.int .i64 (i:Int)/\y8v w0 b B T fn i G C wr) (fun x _=>fn-(intOf x).toNat)
 case atStart=>exact⟨0,F,_,rfl,g.o⟩
 case round=>
  obtain⟨i,G,C,rfl,u⟩:=hrel;have S:=U.o;cases G with
  | nil=>
   obtain⟨P,_,L,H⟩:=u;have Ac:¬(i:Int)<(fn:Int):=by simp only[Fo.len]at P;omega
   have X:C=T:=by
    rw[<-H];unfold y4p
    split<;>simp[Fo.R,cmx,y7q]
   have j:Hid (WyE w0 b T B wr):=(show WyE w0 b T B wr by rw[<-X];exact L);clear L H X P;go_wp2;refine leaves_cons (f:=45) (args:=#[.pointer (some ⟨b,0,none⟩),.int .u8 (z.toNat:Int)]) (by simp) (by simp[go_sem]) ?_;refine(s.o _ j.o).mono ?_;rintro e n Ae⟨rfl,rfl,h5⟩;exact⟨_,results_none rfl _ _ _,rfl,h5⟩
  | cons y k G'=>
   obtain⟨P,hE,L,H⟩:=u;have Ad:(i:Int)<(fn:Int):=by simp only[Fo.len]at P;omega
   have Ab:i+1+G'.len=fn:=by simp only[Fo.len]at P;omega
   have a:Hid (ExC w0 b y k):=hE.1;have p:Hid (v9r w0 b G'):=hE.2;have l:(Fo.cons y k G').R=q0x y k.R::G'.R:=rfl;have V:(Fo.cons y k G').N++B=y::(k.N++(G'.N++B)):=by simp[Fo.N]
   rw[V]at L;rw[l]at H;have E:=y0x (q0x y k.R) G'.R;have Q:(q0x y k.R).tx=q3r y k.R:=rfl;rw[Q]at E;by_cases t:i=0
   ·subst t;rw[y4p,if_pos rfl,E]at H
    have M:Hid (∀W,WyE w0 b C (y::(k.N++(G'.N++B))) W->Calls prog 85 #[.pointer (some ⟨b,0,none⟩)] W fun e D=>e=.returned (.tuple #[])/\y8v w0 b B T fn 1 G' (C++q3r y k.R) D):=fun W O=>by
     refine(a.o C (G'.N++B) W (by rw[<-H]at S;simp only[List.length_append]at S;omega) O).mono ?_;rintro e D⟨rfl,m⟩;exact⟨rfl,by omega,p.o,m,by rw[y4p,if_neg (by omega),List.append_assoc];exact H⟩
    have HW:=hid L;clear L H E l V hE a P Q;go_wp2_with fail;refine(M.o _ HW.o).mono ?_;rintro e w2⟨rfl,d⟩;go_wp2;refine⟨⟨1,G',_,rfl,d⟩,?_⟩;simp[intOf];omega
   ·rw[y4p,if_neg t]at H
    have J:C++[44,32]++(q3r y k.R++y7q G'.R)=T:=by
     rw[<-H,<-E];simp[y7q]
    have Aa:0<(i:Int):=by omega
    have HC:Hid (Calls prog 38 #[.pointer (some ⟨b,0,none⟩),.string ⟨#[44,32]⟩] wr fun e D=>(∃z,e=.returned (.tuple #[z,.nilIface]))/\WyE w0 b (C++[44,32]) (y::(k.N++(G'.N++B))) D):=by
     obtain⟨A,c,h⟩:=L;refine(q4s h ⟨#[44,32]⟩ (by rw[<-J]at S;simp only[List.length_append]at S;omega) (by decide)).mono ?_;rintro e D⟨rfl,h,_⟩;exact⟨⟨_,rfl⟩,_,_,h⟩
    have M:Hid (∀W,WyE w0 b (C++[44,32]) (y::(k.N++(G'.N++B))) W->Calls prog 85 #[.pointer (some ⟨b,0,none⟩)] W fun e D=>e=.returned (.tuple #[])/\y8v w0 b B T fn (i+1) G' (C++[44,32]++q3r y k.R) D):=fun W O=>by
     refine(a.o (C++[44,32]) (G'.N++B) W (by rw[<-J]at S;simp only[List.length_append]at S⊢;omega) O).mono ?_;rintro e D⟨rfl,m⟩;exact⟨rfl,by omega,p.o,m,by rw[y4p,if_neg (by omega),List.append_assoc];exact J⟩
    clear L H J E l V hE a P Q;go_wp2_with fail;refine HC.o.mono ?_;rintro e w2⟨⟨q,rfl⟩,d⟩;have v:=hid d;clear d;go_wp2_with fail;refine(M.o _ v.o).mono ?_;rintro e w3⟨rfl,h3⟩;go_wp2;refine⟨⟨i+1,G',_,by go_num,h3⟩,?_⟩;simp[intOf];omega
theorem k3p{w0:World}{b:Nat}{y:Td}{k:Fo}(hX:ExC w0 b y k)(op:Int)(E:op=5\/op=6)(s:Bool)(bs:List UInt8)(rest:List Td)(w:World)(hl:bs.length+(brx ((op-5).toNat+s.toNat) (q0x y k.R)).length<=500000)(hW:WyE w0 b bs (y::(k.N++rest)) w):
  Calls prog 181 #[.pointer (some ⟨b,0,none⟩),.int .i64 op,.bool s] w fun e w'=>e=.returned (.tuple #[])/\WyE w0 b (bs++brx ((op-5).toNat+s.toNat) (q0x y k.R)) rest w':=by
 have B:Hid (∀W,Calls prog 206 #[.int .i64 y.op,.int .i64 op,.bool s] W fun e w'=>e=.returned (.bool (decide (prc y<(op-5).toNat+s.toNat)))/\w'=W):=fun W=>k2q y op E s W
 have Q:Hid (ExC w0 b y k):=hX;obtain⟨A,c,h⟩:=hW;obtain⟨U,V,rfl,M,H,_,_⟩:=h.td 0 (by simp);simp only[List.getElem_cons_zero,Nat.zero_mul,Nat.add_zero]at H;obtain⟨K,_⟩:=q1o h.bl;have o:w.cell? ⟨U,V,none⟩=some (.int .i64 y.op):=(K _ _ M).trans H;have a:w.cell? ⟨b,2,none⟩=some (.slice (some ⟨U,V,none⟩) (y::(k.N++rest)).length c):=h.x.cellR 0;generalize O:(y::(k.N++rest)).length=n at a;have g:0<n:=by rw[<-O];simp
 have D:brx ((op-5).toNat+s.toNat) (q0x y k.R)=if prc y<(op-5).toNat+s.toNat then 40::(q3r y k.R++[41])else q3r y k.R:=rfl
 rw[D]at hl⊢;by_cases I:prc y<(op-5).toNat+s.toNat
 ·rw[if_pos I]at hl⊢;rw[decide_eq_true I]at B;simp only[List.length_cons,List.length_append,List.length_nil]at hl
  have Y:Hid (Calls prog 45 #[.pointer (some ⟨b,0,none⟩),.int .u8 40] w fun e w'=>e=.returned .nilIface/\WyE w0 b (bs++[40]) (y::(k.N++rest)) w'):=by
   refine(q7t h 40 (by omega)).mono ?_;rintro e w'⟨rfl,L⟩;exact⟨rfl,_,_,L⟩
  have C:Hid (∀W,WyE w0 b (bs++[40]) (y::(k.N++rest)) W->Calls prog 85 #[.pointer (some ⟨b,0,none⟩)] W fun e w'=>e=.returned (.tuple #[])/\WyE w0 b (bs++[40]++q3r y k.R) rest w'):=fun W hW=>Q.o (bs++[40]) rest W (by simp only[List.length_append,List.length_cons,List.length_nil];omega) hW
  have Z:Hid (∀W:World,WyE w0 b (bs++[40]++q3r y k.R) rest W->CallsD prog 45 #[.pointer (some ⟨b,0,none⟩),.int .u8 41] .returning W fun e P w'=>P=.returning/\(e=.returned .nilIface/\WyE w0 b (bs++40::(q3r y k.R++[41])) rest w')):=fun W hW=>by
   obtain⟨A,c,h⟩:=hW;refine(k3m h 41 .returning (by simp only[List.length_append,List.length_cons,List.length_nil];omega)).mono ?_;rintro e P w'⟨rfl,rfl,L⟩;refine⟨rfl,rfl,A,c,?_⟩;have d:bs++40::(q3r y k.R++[41])=bs++[40]++q3r y k.R++[41]:=by simp
   rw[d];exact L
  clear h K H D hl E O hX;go_enter_defers func181,ntmps181;go_wp2_with fail;refine(B.o _).mono ?_;rintro e l⟨rfl,rfl⟩;go_wp2_with fail;refine Y.o.mono ?_;rintro e p⟨rfl,S⟩;have X:=hid S;clear S;go_wp2_with fail;refine(C.o _ X.o).mono ?_;rintro e m⟨rfl,G⟩;have J:=hid G;clear G;go_wp2;refine leaves_cons (f:=45) (args:=#[.pointer (some ⟨b,0,none⟩),.int .u8 41]) (by simp) (by simp[go_sem]) ?_;refine(Z.o _ J.o).mono ?_;rintro e P j⟨rfl,rfl,i⟩;exact⟨_,results_none rfl _ _ _,rfl,i⟩
 ·rw[if_neg I]at hl⊢;rw[decide_eq_false I]at B;have C:Hid (Calls prog 85 #[.pointer (some ⟨b,0,none⟩)] w fun e w'=>e=.returned (.tuple #[])/\WyE w0 b (bs++q3r y k.R) rest w'):=Q.o bs rest w (by omega) ⟨_,_,h⟩;clear h K H D hl E O hX;go_enter_defers func181,ntmps181;go_wp2_with fail;refine(B.o _).mono ?_;rintro e l⟨rfl,rfl⟩;go_wp2_with fail;refine C.o.mono ?_;rintro e m⟨rfl,G⟩;have J:=hid G;clear G;go_wp2;exact⟨_,results_none rfl _ _ _,rfl,J.o⟩
theorem j2a{w0:World}{b:Nat}{y z:Td}{k l:Fo}(hX:ExC w0 b y k)(hZ:ExC w0 b z l)(op:Int)(B:op=5\/op=6)(m:ByteArray)(hm:m.size=3)(bs:List UInt8)(rest:List Td)(w:World)
  (hl:bs.length+(brx (op-5).toNat (q0x y k.R)).length+(brx ((op-5).toNat+1) (q0x z l.R)).length+3<=500000) (hW:WyE w0 b bs (y::(k.N++(z::(l.N++rest)))) w):
  Calls prog 133 #[.pointer (some ⟨b,0,none⟩),.int .i64 op,.string m] w fun e w'=>e=.returned (.tuple #[])/\WyE w0 b (bs++(brx (op-5).toNat (q0x y k.R)++btL m++brx ((op-5).toNat+1) (q0x z l.R))) rest w':=by
 have C:(btL m).length=3:=by rw[q0c,hm]
 have D:Hid (Calls prog 181 #[.pointer (some ⟨b,0,none⟩),.int .i64 op,.bool false] w fun e w'=>e=.returned (.tuple #[])/\WyE w0 b (bs++brx (op-5).toNat (q0x y k.R)) (z::(l.N++rest)) w'):=k3p hX op B false bs _ w (by simp only[Bool.toNat_false,Nat.add_zero];omega) hW;generalize brx (op-5).toNat (q0x y k.R)=X at D hl⊢
 have J:Hid (∀W,WyE w0 b (bs++X) (z::(l.N++rest)) W->Calls prog 38 #[.pointer (some ⟨b,0,none⟩),.string m] W fun e w'=>(∃z,e=.returned (.tuple #[z,.nilIface]))/\WyE w0 b (bs++X++btL m) (z::(l.N++rest)) w'):=fun W hW=>by
  obtain⟨A,c,h⟩:=hW;refine(q4s h m (by simp only[List.length_append];omega) (by omega)).mono ?_;rintro e w'⟨rfl,h,_⟩;exact⟨⟨_,rfl⟩,_,_,h⟩
 have K:Hid (∀W,WyE w0 b (bs++X++btL m) (z::(l.N++rest)) W->Calls prog 181 #[.pointer (some ⟨b,0,none⟩),.int .i64 op,.bool true] W fun e w'=>e=.returned (.tuple #[])/\WyE w0 b (bs++X++btL m++brx ((op-5).toNat+1) (q0x z l.R)) rest w'):=fun W hW=>k3p hZ op B true _ _ W (by simp only[List.length_append,Bool.toNat_true];omega) hW
 clear hW hl hX hZ C hm;go_in;go_wp2_with fail;refine D.o.mono ?_;rintro e P⟨rfl,E⟩;have L:=hid E;clear E;go_wp2_with fail;refine(J.o _ L.o).mono ?_;rintro e Q⟨⟨q,rfl⟩,G⟩;have M:=hid G;clear G;go_wp2_with fail;refine(K.o _ M.o).mono ?_;rintro e S⟨rfl,H⟩;have O:=hid H;clear H;go_wp2
 go_end0
 refine⟨rfl,?_⟩;have I:=O.o;simp only[List.append_assoc]at I⊢;exact I
theorem v6j{w0:World}{b:Nat}{y z:Td}{k l:Fo}(hX:ExC w0 b y k)(hZ:ExC w0 b z l)(op:Int)(M:op=5\/op=6)(tx:ByteArray)(n:Int):ExC w0 b ⟨op,tx,n⟩ (.cons y k (.cons z l .nil)):=by
 intro C B w E H;obtain⟨A,c,h⟩:=H;have L:(Fo.cons y k (.cons z l .nil)).N++B=y::(k.N++(z::(l.N++B))):=by simp[Fo.N]
 rw[L]at h;have O:Hid (Calls prog 83 #[.pointer (some ⟨b,0,none⟩)] w fun e I=>e=.returned (tdV ⟨op,tx,n⟩)/\WyE w0 b C (y::(k.N++(z::(l.N++B)))) I):=q4r h;have D:=hid (fun m hm W E H=>j2a hX hZ op M m hm C B W E H);clear h L hX hZ;rcases M with rfl|rfl
 ·have Q:Hid (q3r ⟨5,tx,n⟩ (Fo.cons y k (.cons z l .nil)).R=brx 0 (q0x y k.R)++32::43::32::brx 1 (q0x z l.R)):=rfl;rw[Q.o]at E⊢;simp only[List.length_append,List.length_cons]at E
  have G:Hid (∀W:World,WyE w0 b C (y::(k.N++(z::(l.N++B)))) W->Calls prog 133 #[.pointer (some ⟨b,0,none⟩),.int .i64 5,.string ⟨#[32,43,32]⟩] W fun e I=>e=.returned (.tuple #[])/\WyE w0 b (C++(brx 0 (q0x y k.R)++32::43::32::brx 1 (q0x z l.R))) B I):=fun W H=>by
   refine(D.o ⟨#[32,43,32]⟩ rfl W (by show C.length+(brx 0 _).length+(brx 1 _).length+3<=500000;omega) H).mono ?_;rintro e I⟨rfl,V⟩;refine⟨rfl,?_⟩;have S:brx 0 (q0x y k.R)++32::43::32::brx 1 (q0x z l.R)=brx ((5:Int)-5).toNat (q0x y k.R)++btL ⟨#[32,43,32]⟩++brx (((5:Int)-5).toNat+1) (q0x z l.R):=by simp;rfl
   rw[S];exact V
  clear D E;go_in;go_wp2_with fail;refine O.o.mono ?_;rintro e J⟨rfl,X,Y,K⟩;have P:Hid (∀W:World,Below J J W->WyE w0 b C (y::(k.N++(z::(l.N++B)))) W):=fun W hb=>⟨_,_,K.grew hb⟩
  clear K O;go_wp2_with fail;refine(G.o _ (P.o _ (q2m J _))).mono ?_;rintro e Z⟨rfl,U⟩;go_wp2
  go_end0
  exact⟨rfl,U⟩
 ·have Q:Hid (q3r ⟨6,tx,n⟩ (Fo.cons y k (.cons z l .nil)).R=brx 1 (q0x y k.R)++32::42::32::brx 2 (q0x z l.R)):=rfl;rw[Q.o]at E⊢;simp only[List.length_append,List.length_cons]at E
  have G:Hid (∀W:World,WyE w0 b C (y::(k.N++(z::(l.N++B)))) W->Calls prog 133 #[.pointer (some ⟨b,0,none⟩),.int .i64 6,.string ⟨#[32,42,32]⟩] W fun e I=>e=.returned (.tuple #[])/\WyE w0 b (C++(brx 1 (q0x y k.R)++32::42::32::brx 2 (q0x z l.R))) B I):=fun W H=>by
   refine(D.o ⟨#[32,42,32]⟩ rfl W (by show C.length+(brx 1 _).length+(brx 2 _).length+3<=500000;omega) H).mono ?_;rintro e I⟨rfl,V⟩;refine⟨rfl,?_⟩;have S:brx 1 (q0x y k.R)++32::42::32::brx 2 (q0x z l.R)=brx ((6:Int)-5).toNat (q0x y k.R)++btL ⟨#[32,42,32]⟩++brx (((6:Int)-5).toNat+1) (q0x z l.R):=by simp;rfl
   rw[S];exact V
  clear D E;go_in;go_wp2_with fail;refine O.o.mono ?_;rintro e J⟨rfl,X,Y,K⟩;have P:Hid (∀W:World,Below J J W->WyE w0 b C (y::(k.N++(z::(l.N++B)))) W):=fun W hb=>⟨_,_,K.grew hb⟩
  clear K O;go_wp2_with fail;refine(G.o _ (P.o _ (q2m J _))).mono ?_;rintro e Z⟨rfl,U⟩;go_wp2
  go_end0
  exact⟨rfl,U⟩
theorem k0g{w0:World}{b:Nat}(ht:z7n w0):∀F:Fo,F.ok->F.exs->v9r w0 b F
 | .nil,_,_=>trivial
 | .cons x k n,hok,hex=>by
  have hk:v9r w0 b k:=k0g ht k hok.2.1 fun y hy=>hex y (by simp[Fo.N,hy])
  have hn:v9r w0 b n:=k0g ht n hok.2.2 fun y hy=>hex y (by simp[Fo.N,hy])
  refine⟨?_,hn⟩;have hx:=hex x (by simp[Fo.N]);have hkl:=hok.1;obtain⟨op,tx,m⟩:=x;rcases q1l hx with⟨e1,e2,e3,e4,e5⟩|⟨e1,e2,e3,e5⟩|⟨e1,e2,e3,e4,e5⟩|⟨e1,e2,e3,e4,e5⟩|⟨e1,e2,e3,e5⟩|⟨e1,e2,e3,e5⟩
  ·rw[e5]at hkl;cases k with
   | cons=>simp[Fo.len]at hkl
   | nil=>
    dsimp only at e1 e3 e4;subst e1;exact v6i ht m e3 e4 tx
  ·rw[e5]at hkl;cases k with
   | cons=>simp[Fo.len]at hkl
   | nil=>
    dsimp only at e1;subst e1;exact v0v tx m
  ·rw[e5]at hkl;dsimp only at e1 e3 e4 hkl;subst e1
   have:m=(k.len:Int):=by omega
   subst this;exact v0t tx (k3n hk (by omega) 40 41)
  ·rw[e5]at hkl;dsimp only at e1 e3 e4 hkl;subst e1
   have:m=(k.len:Int):=by omega
   subst this;exact v0u tx (k3n hk (by omega) 91 93)
  all_goals
   rw[e5]at hkl;dsimp only at e1;cases k with
   | nil=>simp[Fo.len]at hkl
   | cons y ky r=>
    cases r with
    | nil=>simp[Fo.len]at hkl
    | cons z kz r2=>
     cases r2 with
     | cons=>simp[Fo.len]at hkl
     | nil=>exact v6j hk.1 hk.2.1 op (by omega) tx m
theorem k3i(a:Addr)(n cap:Nat)(op:Int)(w:World)(hn:0<n){b o:Nat}(ha:a=⟨b,o,none⟩)(hc:w.cell? ⟨b,o,none⟩=some (.int .i64 op)):Calls prog 82 #[.slice (some a) n cap] w fun e w'=>e=.returned (.bool (op==9))/\w=w':=by
 subst ha;have A:(0:Int)<(n:Int):=by omega
 go_in;go_wp2;go_ret;exact⟨rfl,rfl⟩
theorem k3g(ps:List (List Td))(a:Option Addr)(cap:Nat)(w:World)(_hc:ps.length<=cap)(hP:Prg w a ps)(Ae:∀t∈ps,k6z t):Calls prog 42 #[.slice a ps.length cap] w fun e w'=>e=.returned (.tuple #[.int .i64 ((q0t ps).1:Int),q1m (q0t ps).2])/\Below w w w':=by
 have HP:Hid (Prg w a ps):=hP;have Ah:Hid (∀t∈ps,k6z t):=Ae;clear hP Ae;by_cases An:20<(ps.length:Int)
 ·have m:Hid (q0t ps=(0,3)):=by show q0t ps=_;rw[q0t,if_pos (by omega)]
  go_in;go_wp2;go_ret2;exact⟨by rw[m.o];rfl,Below.refl _ _⟩
 have HF:Hid (q0t ps=q5r 0 0 ps):=by show q0t ps=_;rw[q0t,if_neg (by omega)]
 go_in;go_wp2
 go_loopw [13] (fun i wr=>Below w w wr/\∃k:Nat,k<=ps.length/\i=.int .i64 k/\q0t ps=q5r (q7d ps k) k (ps.drop k)/\∀j(h:j<ps.length),j<k->q0b ps[j]=0) (fun i _=>ps.length-(intOf i).toNat)
 case atStart=>exact⟨Below.refl _ _,0,Nat.zero_le _,rfl,HF.o,fun j _ h=>by omega⟩
 case round=>
  obtain⟨Ab,k,hk,rfl,hF,f⟩:=hrel;have K:Hid (Below w w wr):=Ab;have HG:Hid (q0t ps=q5r (q7d ps k) k (ps.drop k)):=hF;have HA:Hid (∀j(h:j<ps.length),j<k->q0b ps[j]=0):=f;clear Ab hF f;by_cases S:k<ps.length
  ·obtain⟨b,o,a',u,ea,hb,d,c2,hT⟩:=(HP.o.W K.o) k S;subst ea;have Ac:(k:Int)<(ps.length:Int):=by omega
   have c:Calls prog 29 #[.slice a' ps[k].length u] wr fun e w'=>e=.returned (q1m (q0b ps[k]))/\Below wr wr w':=q6q ps[k] a' u wr c2 hT (Ah.o _ (List.getElem_mem S))
   have V:Hid (q0b ps[k]=0->∀j(h:j<ps.length),j<k+1->q0b ps[j]=0):=fun h0 j h hj=>by
    by_cases Ai:j=k
    ·subst Ai;exact h0
    ·exact HA.o j h (by omega)
   have L:Hid (q0b ps[k]=0->0<ps[k].length/\∃U Y,a'=some ⟨U,Y,none⟩/\U<wr.heap.size/\wr.cell? ⟨U,Y,none⟩=some (.int .i64 (opT ps[k]))):=fun h0=>by
    have A:=k0d h0;obtain⟨U,Y,e1,p,d1,_,_⟩:=hT 0 A;exact⟨A,U,Y,e1,p,by rw[k6e A];simpa using d1⟩
   have J:Hid (q0b ps[k]≠0->q0t ps=(k,q0b ps[k])):=fun h=>HG.o.trans (j9a S h)
   have D:Hid (q0b ps[k]=0->opT ps[k]=9/\q7d ps k=9->q0t ps=(k,2)):=fun h h2=>HG.o.trans (j9b S h h2)
   have C:Hid (q0b ps[k]=0->¬(opT ps[k]=9/\q7d ps k=9)->q0t ps=q5r (q7d ps (k+1)) (k+1) (ps.drop (k+1))):=fun h h2=>HG.o.trans (j1j S h h2)
   have O:Hid (∀j,k=j+1->∃a1 v Q,wr.cell? ⟨b,o+j,none⟩=some (.slice a1 v Q)/\0<v/\∃H Z,a1=some ⟨H,Z,none⟩/\H<wr.heap.size/\wr.cell? ⟨H,Z,none⟩=some (.int .i64 (q7d ps k))):=fun j hj=>by
    have r:j<ps.length:=by omega
    obtain⟨bj,oj,aj,cj,ej,_,q1,_,qT⟩:=(HP.o.W K.o) j r;simp only[Option.some.injEq,Addr.mk.injEq,and_true]at ej;obtain⟨rfl,rfl⟩:=ej;have A:=k0d (HA.o j r (by omega));obtain⟨H,Z,e2,q,d2,_,_⟩:=qT 0 A;refine⟨aj,ps[j].length,cj,q1,A,H,Z,e2,q,?_⟩;rw[hj,z6q r,k6e A];simpa using d2
   have P:Hid (Calls prog 29 #[.slice a' ps[k].length u] wr fun e w'=>e=.returned (q1m (q0b ps[k]))/\Below wr wr w'):=c;clear hT c c2;generalize ps[k].length=nl at d P L;generalize opT ps[k]=op0 at L D C;generalize q0b ps[k]=E at P V L J D C;by_cases he:E=0
   ·subst he;obtain⟨Al,U,Y,rfl,p,d1⟩:=L.o rfl;have g:=hid (V.o rfl);have M:Hid (op0=9/\q7d ps k=9->q0t ps=(k,2)):=D.o rfl;have B:Hid (¬(op0=9/\q7d ps k=9)->q0t ps=q5r (q7d ps (k+1)) (k+1) (ps.drop (k+1))):=C.o rfl;clear D C;have Am:(0:Int)<(nl:Int):=by omega
    have l:=hid d;have Af:=hid d1;clear L J V d d1;by_cases s:k=0
    ·have z:Hid (q0t ps=q5r (q7d ps (k+1)) (k+1) (ps.drop (k+1))):=B.o (by simp[q7d,s]);have Aj:¬(0:Int)<(k:Int):=by omega
     have d:=l.o;clear M B s;go_wp2_with fail;refine P.o.mono ?_;rintro e N⟨rfl,H⟩;rw[q0n];have I:Hid (Below w w N):=q0d K.o Zl H;clear H d;go_wp2
     go_roundw
     case rel=>exact⟨I.o,k+1,by omega,by go_num,z.o,g.o⟩
     case measure=>simp[intOf];omega
    ·obtain⟨j,rfl⟩:∃j,k=j+1:=⟨k-1,by omega⟩;obtain⟨a1,v,Q,q1,Ak,H,Z,rfl,q,d2⟩:=O.o j rfl;have R:((j+1:Nat):Int)=(j:Int)+1:=by omega
     have Aj:(0:Int)<(j:Int)+1:=by omega
     have Ao:(j:Int)<(ps.length:Int):=by omega
     have Ap:(j:Int)+1<(ps.length:Int):=by omega
     have x:Hid (∀W:World,Below wr wr W->W.cell? ⟨b,o+(j+1),none⟩=some (.slice (some ⟨U,Y,none⟩) nl u)/\W.cell? ⟨U,Y,none⟩=some (.int .i64 op0)/\W.cell? ⟨b,o+j,none⟩=some (.slice (some ⟨H,Z,none⟩) v Q)/\W.cell? ⟨H,Z,none⟩=some (.int .i64 (q7d ps (j+1)))):=fun W hW=>
      ⟨((q1o hW).1 _ _ hb).trans l.o,((q1o hW).1 _ _ p).trans Af.o,((q1o hW).1 _ _ hb).trans q1,((q1o hW).1 _ _ q).trans d2⟩
     have d:=l.o;generalize q7d ps (j+1)=pv at M B x;rw[R]at Ac⊢;clear q1 d2 O R s;go_wp2_with fail;refine P.o.mono ?_;rintro e N⟨rfl,n⟩;rw[q0n];have I:Hid (Below w w N):=q0d K.o Zl n;obtain⟨k1,k2,k3,k4⟩:=x.o N n;clear n d;have Ag:Hid (Calls prog 82 #[.slice (some ⟨U,Y,none⟩) nl u] N fun e w'=>e=.returned (.bool (op0==9))/\N=w'):=k3i ⟨U,Y,none⟩ nl u op0 N Al rfl k2;have Aa:Hid (Calls prog 82 #[.slice (some ⟨H,Z,none⟩) v Q] N fun e w'=>e=.returned (.bool (pv==9))/\N=w'):=k3i ⟨H,Z,none⟩ v Q pv N Ak rfl k4;clear k2 k4;go_wp2_with fail;refine Ag.o.mono ?_;rintro e w3⟨rfl,rfl⟩;by_cases h9:op0=9
     ·subst h9;have G:((9:Int)==9)=true:=rfl;rw[G];clear G;go_wp2_with fail;refine Aa.o.mono ?_;rintro e w3⟨rfl,rfl⟩;by_cases X:pv=9
      ·subst X;have m:Hid (q0t ps=(j+1,2)):=M.o (by simp);have G:((9:Int)==9)=true:=rfl;rw[G];clear M B G;go_wp2;go_ret2;exact⟨by rw[m.o];rfl,I.o⟩
      ·have z:Hid (q0t ps=q5r (q7d ps (j+1+1)) (j+1+1) (ps.drop (j+1+1))):=B.o (fun h=>X h.2);have Ad:(pv==9)=false:=by simp[X]
       rw[Ad];clear M B X Ad;go_wp2
       go_roundw
       case rel=>exact⟨I.o,j+1+1,by omega,by go_num,z.o,g.o⟩
       case measure=>simp[intOf];omega
     ·have z:Hid (q0t ps=q5r (q7d ps (j+1+1)) (j+1+1) (ps.drop (j+1+1))):=B.o (fun h=>h9 h.1);have G:(op0==9)=false:=by simp[h9]
      rw[G];clear M B h9 G;go_wp2
      go_roundw
      case rel=>exact⟨I.o,j+1+1,by omega,by go_num,z.o,g.o⟩
      case measure=>simp[intOf];omega
   ·have m:Hid (q0t ps=(k,E)):=J.o he;have y:Hid (q1m E=.iface 23 (.int .i64 E)):=q0k he;clear L J V D C he;go_wp2_with fail;refine P.o.mono ?_;rintro e N⟨rfl,H⟩;rw[y.o];have I:Hid (Below w w N):=q0d K.o Zl H;clear H d;go_wp2;go_ret2;exact⟨by rw[m.o,y.o];rfl,I.o⟩
  ·have m:Hid (q0t ps=(0,0)):=by
    show q0t ps=_;rw[HG.o,List.drop_eq_nil_of_le (by omega)];rfl
   have Ac:¬(k:Int)<(ps.length:Int):=by omega
   go_wp2;go_ret2;exact⟨by rw[m.o];rfl,K.o⟩
theorem v0y{w0:World}{b:Nat}(bs:List UInt8)(rest:List Td)(w:World)(tx:ByteArray)(hl:bs.length+tx.size<=400000)(hW:WyE w0 b bs rest w):
  Calls prog 84 #[.pointer (some ⟨b,0,none⟩),.string tx] w fun e w'=>e=.returned (.tuple #[])/\WyE w0 b (bs++(if tx.size=0 then [35]else [35,32]++btL tx)) rest w':=by
 have J:Hid (Calls prog 45 #[.pointer (some ⟨b,0,none⟩),.int .u8 35] w fun e w'=>e=.returned .nilIface/\WyE w0 b (bs++[35]) rest w'):=by
  obtain⟨A,c,h⟩:=hW;refine(q7t h 35 (by omega)).mono ?_;rintro e w'⟨rfl,P⟩;exact⟨rfl,_,_,P⟩
 by_cases B:tx.size=0
 ·rw[if_pos B]
  have H:tx=⟨#[]⟩:=by
   apply ByteArray.ext;apply Array.toList_inj.1;exact q6m.1 B
  subst H;clear hW hl B;go_in;go_wp2_with fail;refine J.o.mono ?_;rintro e V⟨rfl,D⟩;have G:=hid D;clear D;go_wp2
  go_end0
  exact⟨rfl,G.o⟩
 ·rw[if_neg B]
  have E:(tx.toList==[])=false:=by
   rw[Lib.toList_data];cases U:tx.data.toList with
   | nil=>exact absurd (q6m.2 U) B
   | cons=>rfl
  have L:¬tx.toList=[]:=by
   intro e;rw[e]at E;cases E
  have Q:(⟨#[]⟩:ByteArray).toList=[]:=by rw[Lib.toList_data]
  have R:¬9223372036854775807<1+tx.size:=by omega
  have I:(⟨#[32]⟩:ByteArray).size=1:=rfl
  have C:∀S:ByteArray,S.size<=1000000->btL S=32::btL tx->∀W,WyE w0 b (bs++[35]) rest W->Calls prog 38 #[.pointer (some ⟨b,0,none⟩),.string S] W fun e w'=>(∃z,e=.returned (.tuple #[z,.nilIface]))/\WyE w0 b (bs++([35,32]++btL tx)) rest w':=fun S hS1 hS2 W hW=>by
   obtain⟨A,c,h⟩:=hW;refine(q4s h S (by simp only[List.length_append,List.length_cons,List.length_nil];omega) hS1).mono ?_;rintro e w'⟨rfl,h,_⟩;refine⟨⟨_,rfl⟩,A,c,?_⟩;rw[hS2]at h;have O:bs++([35,32]++btL tx)=bs++[35]++32::btL tx:=by simp
   rw[O];exact h
  have M:=hid (C (⟨#[32]⟩++tx) (by rw[ByteArray.size_append,I];omega) (by simp[btL]));clear C;clear hW B hl;go_in;go_wp2_with fail;refine J.o.mono ?_;rintro e V⟨rfl,D⟩;have G:=hid D;clear D;go_wp2_with fail;refine(M.o _ G.o).mono ?_;rintro e X⟨⟨q,rfl⟩,K⟩;have N:=hid K;clear K;go_wp2
  go_end0
  exact⟨rfl,N.o⟩
theorem v1e{w0:World}{b:Nat}(ht:z7n w0)(bs:List UInt8)(ds:List Td)(hf:q0b ds=0)(w:World)(hl:bs.length<=200000)(hW:WyE w0 b bs ds w):
  Calls prog 44 #[.pointer (some ⟨b,0,none⟩)] w fun e w'=>e=.returned (.tuple #[])/\WyE w0 b (bs++q5i ds) [] w':=by
 have C:=k9d hf;rcases q3h hf with⟨⟨op,B,n⟩,rfl,h9,h0,a⟩|⟨x,F,rfl,O,Y,E,d⟩
 ·dsimp only at h9 h0 a;subst h9;have H:q5i [⟨9,B,n⟩]=if B.size=0 then [35]else [35,32]++btL B:=rfl
  have Ac:=z9i a;rw[H]at C⊢;obtain⟨A,c,h⟩:=hW;have L:Hid (Calls prog 83 #[.pointer (some ⟨b,0,none⟩)] w fun e w'=>e=.returned (tdV ⟨9,B,n⟩)/\WyE w0 b bs [] w'):=q4r h;have u:Hid (∀W,WyE w0 b bs [] W->Calls prog 84 #[.pointer (some ⟨b,0,none⟩),.string B] W fun e w'=>e=.returned (.tuple #[])/\WyE w0 b (bs++(if B.size=0 then [35]else [35,32]++btL B)) [] w'):=fun W hW=>v0y bs [] W B (by omega) hW
  generalize(if B.size=0 then [35]else [35,32]++btL B)=X at u⊢
  clear h H C hf;go_in;go_wp2_with fail;refine L.o.mono ?_;rintro e J⟨rfl,s,v,E⟩;have j:Hid (∀W:World,Below J J W->WyE w0 b bs [] W):=fun W hb=>⟨_,_,E.grew hb⟩
  clear E L;go_wp2_with fail;refine(u.o _ (j.o _ (q2m J _))).mono ?_;rintro e w3⟨rfl,Q⟩;have l:=hid Q;clear Q;go_wp2;refine bodyPost_ret (results_none rfl _ _ _) rfl ?_;exact⟨rfl,l.o⟩
 ·obtain⟨y,k,rfl⟩:=v7r E;have hX:ExC w0 b y k:=(k0g ht _ O Y).1
  have Z:(Fo.cons y k .nil).len=kdT x:=by
   rw[E];rcases d with⟨e,_⟩|⟨e,_⟩<;>(unfold kdT;rw[e];rfl)
  have H:=(z0l O Z).1;have M:(Fo.cons y k .nil).N=y::k.N:=by simp[Fo.N]
  have f:hdT (Fo.cons y k .nil).R=q3r y k.R:=rfl;rw[H]at C⊢;rw[M]at hW;obtain⟨A,c,h⟩:=hW
  have i:Hid (∀bs' W,bs'.length+(q3r y k.R).length<=500000->WyE w0 b bs' (y::k.N) W->Calls prog 85 #[.pointer (some ⟨b,0,none⟩)] W fun e w'=>e=.returned (.tuple #[])/\WyE w0 b (bs'++q3r y k.R) [] w'):=fun bs' W hb hW=>by
   refine hX bs' [] W hb ?_;rw[List.append_nil];exact hW
  have g:Hid (∀bs' W,bs'.length<=500000->WyE w0 b bs' [] W->Calls prog 45 #[.pointer (some ⟨b,0,none⟩),.int .u8 59] W fun e w'=>e=.returned .nilIface/\WyE w0 b (bs'++[59]) [] w'):=fun bs' W hb hW=>by
   obtain⟨A,c,h⟩:=hW;refine(q7t h 59 (by omega)).mono ?_;rintro e w'⟨rfl,E⟩;exact⟨rfl,_,_,E⟩
  clear hX H Z O Y hf;obtain⟨op,B,n⟩:=x;have L:Hid (Calls prog 83 #[.pointer (some ⟨b,0,none⟩)] w fun e w'=>e=.returned (tdV ⟨op,B,n⟩)/\WyE w0 b bs (y::k.N) w'):=q4r h;clear h;rcases d with⟨e,K,_⟩|⟨e,_,_⟩
  ·dsimp only at e K;subst e
   have Ad:B.size<=8:=by
    simp only[q0o,Bool.and_eq_true,decide_eq_true_eq]at K;exact K.1.1.2
   have I:stX ⟨7,B,n⟩ (Fo.cons y k .nil).R=[108,101,116,32]++btL B++[32,61,32]++q3r y k.R++[59]:=rfl;rw[I]at C⊢;simp only[List.length_append,List.length_cons,List.length_nil]at C;have p:(⟨#[108,101,116,32]⟩:ByteArray).size=4:=rfl;have q:(⟨#[32,61,32]⟩:ByteArray).size=3:=rfl;have Aa:¬9223372036854775807<4+B.size:=by omega
   have Ab:¬9223372036854775807<4+B.size+3:=by omega
   have r:=q0c B;go_in;go_wp2_with fail;refine L.o.mono ?_;rintro e J⟨rfl,s,v,E⟩
   have P:∀S:ByteArray,S.size<=100->btL S=[108,101,116,32]++btL B++[32,61,32]->∀W:World,Below J J W->Calls prog 38 #[.pointer (some ⟨b,0,none⟩),.string S] W fun e w'=>(∃z,e=.returned (.tuple #[z,.nilIface]))/\WyE w0 b (bs++([108,101,116,32]++btL B++[32,61,32])) (y::k.N) w':=fun S hS1 hS2 W hb=>by
    refine(q4s (E.grew hb) S (by omega) (by omega)).mono ?_;rintro e w'⟨rfl,h,_⟩;rw[hS2]at h;exact⟨⟨_,rfl⟩,_,_,h⟩
   have t:=hid (P (⟨#[108,101,116,32]⟩++B++⟨#[32,61,32]⟩) (by rw[ByteArray.size_append,ByteArray.size_append,p,q];omega) (by simp[btL]));clear P;have D:Hid (∀W,WyE w0 b (bs++([108,101,116,32]++btL B++[32,61,32])) (y::k.N) W->Calls prog 85 #[.pointer (some ⟨b,0,none⟩)] W fun e w'=>e=.returned (.tuple #[])/\WyE w0 b (bs++([108,101,116,32]++btL B++[32,61,32])++q3r y k.R) [] w'):=fun W hW=>i.o _ W (by simp only[List.length_append,List.length_cons,List.length_nil];omega) hW
   have G:Hid (∀W,WyE w0 b (bs++([108,101,116,32]++btL B++[32,61,32])++q3r y k.R) [] W->Calls prog 45 #[.pointer (some ⟨b,0,none⟩),.int .u8 59] W fun e w'=>e=.returned .nilIface/\WyE w0 b (bs++([108,101,116,32]++btL B++[32,61,32]++q3r y k.R++[59])) [] w'):=fun W hW=>by
    refine(g.o _ W (by simp only[List.length_append,List.length_cons,List.length_nil];omega) hW).mono ?_;rintro e w'⟨rfl,h⟩;refine⟨rfl,?_⟩;simp only[List.append_assoc]at h⊢;exact h
   clear E L i g
   generalize(bs++([108,101,116,32]++btL B++[32,61,32])++q3r y k.R)=P2 at D G
   generalize(bs++([108,101,116,32]++btL B++[32,61,32]))=P1 at t D
   clear I f M C r K;go_wp2_with fail
   go_region_with (go_at_call 38;refine(t.o _ (z2o J _)).mono ?_;rintro e w3⟨⟨z,rfl⟩,Q⟩)
   all_goals
    have l:=hid Q;clear Q;go_wp2_with fail;refine(D.o _ l.o).mono ?_;rintro e w4⟨rfl,U⟩;have m:=hid U;clear U;go_wp2_with fail;refine(G.o _ m.o).mono ?_;rintro e w5⟨rfl,V⟩;have o:=hid V;clear V;go_wp2
    go_end0
    exact⟨rfl,o.o⟩
  ·dsimp only at e;subst e;have I:stX ⟨8,B,n⟩ (Fo.cons y k .nil).R=q3r y k.R++[59]:=rfl;rw[I]at C⊢;simp only[List.length_append,List.length_cons,List.length_nil]at C;have D:Hid (∀W,WyE w0 b bs (y::k.N) W->Calls prog 85 #[.pointer (some ⟨b,0,none⟩)] W fun e w'=>e=.returned (.tuple #[])/\WyE w0 b (bs++q3r y k.R) [] w'):=fun W hW=>i.o _ W (by omega) hW
   have G:Hid (∀W,WyE w0 b (bs++q3r y k.R) [] W->Calls prog 45 #[.pointer (some ⟨b,0,none⟩),.int .u8 59] W fun e w'=>e=.returned .nilIface/\WyE w0 b (bs++(q3r y k.R++[59])) [] w'):=fun W hW=>by
    refine(g.o _ W (by simp only[List.length_append];omega) hW).mono ?_;rintro e w'⟨rfl,h⟩;refine⟨rfl,?_⟩;rw[List.append_assoc]at h;exact h
   clear i g;generalize bs++q3r y k.R=P1 at D G;clear I f M C;go_in;go_wp2_with fail;refine L.o.mono ?_;rintro e J⟨rfl,s,v,E⟩;have j:Hid (∀W:World,Below J J W->WyE w0 b bs (y::k.N) W):=fun W hb=>⟨_,_,E.grew hb⟩
   clear E L;go_wp2_with fail;refine(D.o _ (j.o _ (q2m J _))).mono ?_;rintro e w4⟨rfl,U⟩;have m:=hid U;clear U;go_wp2_with fail;refine(G.o _ m.o).mono ?_;rintro e w5⟨rfl,V⟩;have o:=hid V;clear V;go_wp2
   go_end0
   exact⟨rfl,o.o⟩
structure y9p(w0:World)(b:Nat)(ps:List (List Td))(i:Nat)(w:World):Prop where
 le:i<=ps.length
 w:WyE w0 b (q4o (ps.take i)) [] w
theorem j1i{ps:List (List Td)}{i:Nat}(h:i<ps.length):q4o (ps.take (i+1))=q4o (ps.take i)++q5i ps[i]++[10]:=by
 rw[List.take_succ_eq_append_getElem h,j1h];simp
theorem v5h{ps:List (List Td)}(hP:∀t∈ps,q0b t=0)(hl:ps.length<=20)(i:Nat):(q4o (ps.take i)).length<=50000:=by
 have A:=j8x (ps.take i) fun t ht=>hP t (List.mem_of_mem_take ht)
 have B:(ps.take i).length<=ps.length:=by rw[List.length_take];omega
 omega
theorem k3d(ps:List (List Td))(a:Option Addr)(cap:Nat)(w:World)(hc:ps.length<=cap)(hP:Prg w a ps)(H:∀t∈ps,k6z t)(ht:z7n w):Calls prog 17 #[.slice a ps.length cap] w fun e w'=>e=.returned (.tuple #[.string (y7n ps),q1m (q0t ps).2])/\Below w w w':=by
 have C:Hid (Calls prog 42 #[.slice a ps.length cap] w fun e w'=>e=.returned (.tuple #[.int .i64 ((q0t ps).1:Int),q1m (q0t ps).2])/\Below w w w'):=k3g ps a cap w hc hP H;by_cases D:(q0t ps).2=0
 ·obtain⟨j,y⟩:=q6j D;have G:=z1t ps 0 y;have J:Hid (∀t∈ps,q0b t=0):=G;have Z:=(show Hid (∀i,(q4o (ps.take i)).length<=50000)from v5h G j);rw[j8z D];rw[D]at C⊢;have o:Hid (Prg w a ps):=hP;have r:Hid (z7n w):=ht
  generalize(q0t ps).1=K at C
  clear hP H D y ht G;go_in;go_wp2_with fail;refine C.o.mono ?_;rintro e B⟨rfl,I⟩;rw[q0n];have Y:Hid (Prg B a ps):=o.o.W I;have b:Hid (z7n B):=r.o.W I;have U:=hid I;have f:Hid (y9p B B.heap.size ps 0 (B.alloc (.cells #[.pointer none,.slice none 0 0,.slice none 0 0] 91))):=⟨by omega,none,0,IsX.fresh 91 B [.slice none 0 0],Nat.le_refl _,Tds.nil _ _,q2m B _,Nat.le_refl _⟩;clear I C o r;go_wp2_with fail
  go_loopw [19] (fun x wr=>∃i:Nat,x=.int .i64 (i:Int)/\y9p B B.heap.size ps i wr) (fun x _=>ps.length-(intOf x).toNat)
  case atStart=>exact⟨0,rfl,f.o⟩
  case round=>
   obtain⟨i,rfl,Aa,N⟩:=hrel;have R:=Z.o i;by_cases P:i<ps.length
   ·have k:(i:Int)<(ps.length:Int):=by omega
    obtain⟨b0,o0,S,g,rfl,l,v,O,L⟩:=Y.o i P;obtain⟨A,c,h⟩:=N;obtain⟨u,_⟩:=q1o h.bl;have e0:wr.cell? ⟨b0,o0+i,none⟩=some (.slice S ps[i].length g):=(u _ _ l).trans v;have cR:wr.cell? ⟨B,2,none⟩=some (.slice A ([]:List Td).length c):=h.x.cellR 0;have fR:wr.frozen? ⟨B,2,none⟩=false:=h.x.frozen 2;have hz:=h.bl.size
    have q:Hid (Calls prog 44 #[.pointer (some ⟨B,0,none⟩)] (wr.setCell ⟨B,2,none⟩ (.slice S ps[i].length g)) fun e w'=>e=.returned (.tuple #[])/\WyE B B.heap.size (q4o (ps.take i)++q5i ps[i]) [] w'):=by
     refine v1e b.o _ ps[i] (J.o _ (List.getElem_mem P)) _ (by omega) ⟨S,g,h.x.stored 0 _,O,L,h.bl.setCell (p:=⟨B,2,none⟩) Zl _,Nat.le_refl _⟩
    have m:=k9d (J.o _ (List.getElem_mem P))
    have HB:Hid (∀W,WyE B B.heap.size (q4o (ps.take i)++q5i ps[i]) [] W->Calls prog 45 #[.pointer (some ⟨B,0,none⟩),.int .u8 10] W fun e w'=>e=.returned .nilIface/\y9p B B.heap.size ps (i+1) w'):=fun W N=>by
     obtain⟨A,c,h⟩:=N;refine(q7t h 10 (by rw[List.length_append];omega)).mono ?_;rintro e w'⟨rfl,j⟩;exact⟨rfl,P,A,c,by rw[j1i P];exact j⟩
    clear h v L u m R O;generalize ps[i].length=pn at e0 q;go_wp2_with fail;refine q.o.mono ?_;rintro e w3⟨rfl,z⟩;have K3:=hid z;clear z;go_wp2_with fail;refine(HB.o _ K3.o).mono ?_;rintro e w4⟨rfl,h4⟩;have K4:=hid h4;clear h4;go_wp2;refine⟨⟨i+1,by go_num,K4.o⟩,?_⟩;simp[intOf];omega
   ·have k:¬(i:Int)<(ps.length:Int):=by omega
    have Q:ps.take i=ps:=List.take_of_length_le (by omega);rw[Q]at N;obtain⟨A,c,h⟩:=N;have n:Hid (Calls prog 39 #[.pointer (some ⟨B,0,none⟩)] wr fun e w'=>e=.returned (.string (wbS (q4o ps)))/\Below B wr w'):=k0h _ _ _ _ _ _ h.x;have V:Hid (Below B B wr):=h.bl;generalize M:wbS (q4o ps)=T at n;have d:Hid (wbS (q4o ps)=T):=M;clear h Q R M;go_wp2_with fail;refine n.o.mono ?_;rintro e w3⟨rfl,s⟩;have B3:=hid (q0d U.o Zl (V.o.trans s));clear s;go_wp2;go_ret2;exact⟨by rw[d.o];rfl,B3.o⟩
 ·rw[y3p D];have X:Hid (q1m (q0t ps).2=.iface 23 (.int .i64 (q0t ps).2)):=q0k D
  generalize(q0t ps).2=E at C X⊢
  generalize(q0t ps).1=K at C
  clear hP H D ht;go_in;go_wp2_with fail;refine C.o.mono ?_;rintro e B⟨rfl,I⟩;rw[X.o];go_wp2;go_ret2;exact⟨by rw[X.o];rfl,I⟩
end Go.Proofs.YtfdppahhbpfnoaaGreatDoor
