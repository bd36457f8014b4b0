import Derived.Test.YtfdppahhbpfnoaaGreatDoorPb41
import Derived.Test.YtfdppahhbpfnoaaGreatDoorPb16
open Go.Proofs.Tryz
namespace Go.Proofs.YtfdppahhbpfnoaaGreatDoor
open Go Go.RowKit
set_option maxRecDepth 100000
set_option maxHeartbeats 8000000
def fxG:List Td:=[⟨8,⟨#[]⟩,0⟩,⟨1,⟨#[]⟩,7⟩]
theorem g0e:q0b fxG=0:=by decide +kernel
theorem y1q:z2e fxG ((10:Nat):Int)=0:=by decide +kernel
theorem v7t:q5i fxG=[55,59]:=by decide +kernel
theorem y6f:j8g fxG 10=⟨#[55,59,10]⟩:=by
 have h:=z9m (t:=fxG) (n:=10) y1q;rw[z9o g0e (by rw[v7t];decide),v7t]at h;exact h
abbrev g1q:Array Value:=#[.int .i64 8,.string ⟨#[]⟩,.int .i64 0,.int .i64 1,.string ⟨#[]⟩,.int .i64 7]
abbrev v3r:Obj:=.cells g1q 47
theorem q5q(w:World){k:Nat}{v:Value}(h:g1q[k]?=some v):(w.alloc v3r).cell? ⟨w,k,none⟩=some v:=by
 have A:(w.alloc v3r).heap[w.heap.size]?=some v3r:=by
  show(w.heap.push v3r)[w.heap.size]?=_
  simp
 simp only[World.cell?,Option.isSome_none,Bool.false_eq_true,if_false,A];exact h
theorem k7y(w:World):Tds (w.alloc v3r) (some ⟨w,0,none⟩) fxG:=by
 intro i B;have A:i<2:=B;refine⟨w.heap.size,0,rfl,by rw[World.size_alloc];omega,?_⟩;rw[Nat.zero_add]
 match i,A with
 | 0,_=>exact⟨q5q w rfl,q5q w rfl,q5q w rfl⟩
 | 1,_=>exact⟨q5q w rfl,q5q w rfl,q5q w rfl⟩
theorem g0f{S:ByteArray}(h:Gd (btL S)){j:Nat}(hj:j+1<S.size):¬(S[j+1]=10/\S[j]'(by omega)=32):=by
 rintro⟨B,C⟩
 have A:(btL S).drop j=S[j]'(by omega)::S[j+1]::(btL S).drop (j+2):=by
  rw[q1j (by omega),q1j hj]
 refine h ((btL S).take j) ((btL S).drop (j+2)) ?_;rw[B,C]at A;rw[<-A,List.take_append_drop]
theorem k6i(a b:Int)(W:World):(Instr.field 54 (.agg #[.int .i64 a,.int .i64 b]) 0).run prog W=.ok (.int .i64 a) W:=by kernel_rfl
structure g1u(t:List Td)(n:Nat)(S:ByteArray):Prop where
 l:2<=S.size
 b:S.size<=4000000
 e:∀(h:S.size-1<S.size),S[S.size-1]=10
 g:Gd (btL S)
 f:(q5i t).length<=n->S=wbS (q5i t)++(⟨#[10]⟩:ByteArray)
theorem y5w{t:List Td}(h:q0b t=0)(hp:pgE t=0)(n:Nat):g1u t n (wbS (q6y n t)):=by
 obtain⟨N,A⟩:=v8z (wd:=n) h;obtain⟨H,r,C,B⟩:=y6c h A;have L:=j8i h hp n;have I:=List.length_pos_iff.2 B;have J:(wbS (q6y n t)).size=r.length+1:=by rw[q7s,C,List.length_append];rfl
 refine⟨by omega,by rw[q7s];omega,fun hh=>?_,H,fun hf=>?_⟩
 ·have D:(btL (wbS (q6y n t)))[r.length]?=some 10:=by
   show(q6y n t)[r.length]?=some 10
   rw[C];simp
  have E:(wbS (q6y n t)).size-1=r.length:=by omega
  obtain⟨M,K⟩:=List.getElem?_eq_some_iff.1 D;have G:(wbS (q6y n t))[(wbS (q6y n t)).size-1]=(btL (wbS (q6y n t)))[(wbS (q6y n t)).size-1]'(by rw[q0c];omega):=rfl;rw[G];simp only[E];exact K
 ·rw[z9o h hf];exact(q2l _ _).symm
theorem k1n(hO:y8z)(t:List Td)(a:Option Addr)(cap:Nat)(ws:List Int)(wa:Option Addr)(wc:Nat)(wd:Int)(w:World)(hc:t.length<=cap)(hN:Tds w a t)(I:v9u t)(ht:z1a w)(h:z2e t wd≠0):
  Calls prog 5 #[.slice a t.length cap,.int .i64 wd,.slice wa ws.length wc] w fun e w'=>e=.returned (.bool true)/\Below w w w':=by
 have H:Hid (Calls prog 9 #[.slice (some ⟨w,0,none⟩) 2 2,.int .i64 10] (w.alloc v3r) fun e w'=>e=.returned (.tuple #[.string ⟨#[55,59,10]⟩,.nilIface])/\Below w w w'):=by
  refine(hO fxG _ 2 10 (w.alloc v3r) (by decide) (k7y w) (fun x hx=>by simp[fxG]at hx;rcases hx with rfl|rfl<;>decide) (ht.W (q2m w _))).mono ?_;rintro e w'⟨rfl,J⟩;have c:z2e fxG 10=0:=y1q;exact⟨by rw[y6f,c,q0n],(q2m w _).trans (J.mono (by rw[World.size_alloc];omega))⟩
 have A:Hid (∀W:World,Below w w W->Calls prog 9 #[.slice a t.length cap,.int .i64 wd] W fun e w'=>e=.returned (.tuple #[.string ⟨#[]⟩,.iface 23 (.int .i64 (z2e t wd))])/\Below W W w'):=fun W J=>by
  have P:=hO t a cap wd W hc (hN.W J) I.nine (ht.W J);rw[z9l h,q0k h]at P;exact P
 have B:Hid (∀W:World,Below w w W->Calls prog 7 #[.slice a t.length cap] W fun e w'=>e=.returned (.int .i64 (q0b t))/\Below W W w'):=fun W J=>z5m t a cap W (hN.W J) I
 by_cases K:q0b t=0
 ·have L:Hid (∀W:World,Below w w W->Calls prog 15 #[.slice (some ⟨W,0,none⟩) 1 1,.int .i64 wd] (W.alloc (.cells #[.slice a t.length cap] 22)) fun e w'=>e=.returned (.bool false)/\Below W W w'):=fun W J=>by
   have P:=z4b (ps:=[t]) (fun u hu=>by simp at hu;rw[hu];exact K) (by simp) wd (some ⟨W,0,none⟩) 1 (W.alloc (.cells #[.slice a t.length cap] 22)) (j9h hc (hN.W J))
   have U:¬(fmE [t]=0/\¬(wd<10\/100<wd)):=by
    rintro⟨b,d⟩;rw[z9j d K]at h;rw[k4t h]at b;exact h b
   rw[decide_eq_false U]at P;exact P.mono fun e w' hh=>⟨hh.1,(q2m W _).trans (hh.2.mono (by rw[World.size_alloc];omega))⟩
  rw[K]at B;generalize z2e t wd=E at A;clear hN I ht h K hO;go_in;go_wp2_with fail;refine H.o.mono ?_;rintro e V⟨rfl,M⟩;have C:Hid (Below w w V):=M;clear M H;go_wp2_with fail;refine(A.o _ C.o).mono ?_;rintro e X⟨rfl,N⟩;have D:Hid (Below w w X):=q0d C.o Zl N;clear N A;go_wp2_with fail;refine(B.o _ D.o).mono ?_;rintro e Y⟨rfl,O⟩;have G:Hid (Below w w Y):=q0d D.o Zl O;clear O B;go_wp2_with fail;refine(L.o _ G.o).mono ?_;rintro e f⟨rfl,Z⟩;have Q:Hid (Below w w f):=q0d G.o Zl Z;clear Z L;go_wp2;go_ret;exact⟨rfl,Q.o⟩
 ·have R:(q0b t==0)=false:=by simp[K]
  have S:(q0b t != 0)=true:=by simp[K]
  generalize z2e t wd=E at A;generalize q0b t=F at B R S;clear hN I ht h K hO;go_in;go_wp2_with fail;refine H.o.mono ?_;rintro e V⟨rfl,M⟩;have C:Hid (Below w w V):=M;clear M H;go_wp2_with fail;refine(A.o _ C.o).mono ?_;rintro e X⟨rfl,N⟩;have D:Hid (Below w w X):=q0d C.o Zl N;clear N A;go_wp2_with fail;refine(B.o _ D.o).mono ?_;rintro e Y⟨rfl,O⟩;have G:Hid (Below w w Y):=q0d D.o Zl O;clear O B;go_wp2;go_ret;exact⟨rfl,G.o⟩
theorem k5l(hO:y8z)(t:List Td)(a:Option Addr)(cap:Nat)(ws:List Int)(wa:Option Addr)(wc:Nat)(n:Nat)(w:World)(hc:t.length<=cap)(hN:Tds w a t)(Q:v9u t)(As:ws.length<=wc)(At:ws.length<=9223372036854775807)(hI:q7w w wa ws)(ht:z1a w)(h:z2e t (n:Int)=0)(h0:q0b t=0)(hp:pgE t=0):
  Calls prog 5 #[.slice a t.length cap,.int .i64 (n:Int),.slice wa ws.length wc] w fun e w'=>e=.returned (.bool true)/\Below w w w':=by
 have v:Hid (Calls prog 9 #[.slice (some ⟨w,0,none⟩) 2 2,.int .i64 10] (w.alloc v3r) fun e w'=>e=.returned (.tuple #[.string ⟨#[55,59,10]⟩,.nilIface])/\Below w w w'):=by
  refine(hO fxG _ 2 10 (w.alloc v3r) (by decide) (k7y w) (fun x hx=>by simp[fxG]at hx;rcases hx with rfl|rfl<;>decide) (ht.W (q2m w _))).mono ?_;rintro e w'⟨rfl,C⟩;have L:z2e fxG 10=0:=y1q;exact⟨by rw[y6f,L,q0n],(q2m w _).trans (C.mono (by rw[World.size_alloc];omega))⟩
 have Y:Hid (∀W:World,Below w w W->Calls prog 9 #[.slice a t.length cap,.int .i64 (n:Int)] W fun e w'=>e=.returned (.tuple #[.string (wbS (q6y n t)),.nilIface])/\Below W W w'):=fun W C=>by
  have b:=hO t a cap (n:Int) W hc (hN.W C) Q.nine (ht.W C);rw[z9m h,h,q0n]at b;exact b
 have O:Hid (∀W:World,Below w w W->Calls prog 17 #[.slice (some ⟨W,0,none⟩) 1 1] (W.alloc (.cells #[.slice a t.length cap] 22)) fun e w'=>e=.returned (.tuple #[.string (wbS (q5i t)++(⟨#[10]⟩:ByteArray)),.nilIface])/\Below W W w'):=fun W C=>by
  have R:=k3d [t] (some ⟨W,0,none⟩) 1 (W.alloc (.cells #[.slice a t.length cap] 22)) (by simp) (j9h hc (hN.W C)) (fun u hu=>by simp at hu;subst hu;exact Q.nine) (((ht.W C).W (q2m W _)).pow);rw[j8z (by rw[v9d h0]),v9d h0,y7p,q0n]at R;exact R.mono fun e w' hh=>⟨hh.1,(q2m W _).trans (hh.2.mono (by rw[World.size_alloc];omega))⟩
 have Ai:Hid (∀W:World,Below w w W->Calls prog 18 #[.slice a t.length cap] W fun e w'=>(∃A c,e=.returned (.tuple #[.slice A (q4v t).length c,q1m (q7f t)])/\q2e w' A (q4v t)/\(q4v t).length<=c)/\Below W W w'):=fun W C=>z6h t a cap W (ht.W C).pow hc (hN.W C) Q.nine
 have J:=y5w h0 hp n
 have Ak:(wbS (q5i t)).size<=10000:=by
  have h2:=k9d h0;rw[q7s];omega
 have g:(wbS (q5i t)++(⟨#[10]⟩:ByteArray)).size=(wbS (q5i t)).size+1:=by
  have L:wbS (q5i t)++(⟨#[10]⟩:ByteArray)=wbS (q5i t++[10]):=q2l _ _;rw[L,q7s,q7s,List.length_append];rfl
 have I:(wbS (q5i t)).size<=n->wbS (q6y n t)=wbS (q5i t)++(⟨#[10]⟩:ByteArray):=fun q=>J.f (by rw[<-q7s];exact q)
 have z:Hid (q7w w wa ws):=hI
 have Af:Hid (q7f t=0->(∀(W:World)(A:Option Addr)(c:Nat),Below w w W->(q4v t).length<=c->q2e W A (q4v t)->Calls prog 19 #[.slice A (q4v t).length c,.slice wa ws.length wc] W fun e w'=>e=.returned (.tuple #[.string (shS ((q0j t).show ws)),q1m (shE ((q0j t).show ws))])/\Below W W w')):=fun E W A c C h2 b=>by
  have R:=k3o (q4v t) ws A wa c wc h2 As At W b (q7w.W z.o C);rw[z8t E]at R;exact R
 have Ag:Hid (q7f t=0->∀e,(q0j t).show ws=.error e->e≠0):=fun E e he=>j9j (ds:=q4v t) (by rw[z8t E];exact he)
 have y:Hid (q7f t=0->∀r,(q0j t).show ws=.ok r->r.length<=2000000/\((q1p n 0 r).1=0->(q1p n 0 (btL (wbS (q6y n t)))).1=0)):=fun E r hr=>⟨(y2d E hr).2,fun l=>by
  have:=y1c hr l
  rw[<-z9k h0 (k1x E).2.1]at this
  exact this⟩
 have s:Hid (∀(W:World)(U:ByteArray),U.size<=4000000->Calls prog 20 #[.string U,.int .i64 (n:Int)] W fun e w'=>e=.returned (.agg #[.int .i64 ((q1p n 0 (btL U)).1:Int),.int .i64 ((q1p n 0 (btL U)).2.1:Int)])/\Below W W w'):=fun W U hU=>by
  have R:=j9e U (n:Int) W (by omega);have e:stL (n:Int) U.data.toList=(((q1p n 0 (btL U)).1:Int),((q1p n 0 (btL U)).2.1:Int),((q1p n 0 (btL U)).2.2:Int)):=y0z n (btL U);rw[e]at R;exact R
 clear hN Q ht h hO hI z;generalize wbS (q6y n t)=S at Y J I y;generalize wbS (q5i t)=P at O Ak g I;obtain⟨f1,f2,f3,f4,_⟩:=J;have Av:(S[S.size-1]'(by omega)).toNat=10:=by rw[f3 (by omega)];rfl
 have HG:Hid (Gd (btL S)):=f4;generalize Aj:P++(⟨#[10]⟩:ByteArray)=PP at O g I;have Ah:Hid (P.size<=n->S=PP):=I;clear f3 f4 I Aj;go_in;go_wp2_with fail;refine v.o.mono ?_;rintro e w1⟨rfl,b1⟩;have V:Hid (Below w w w1):=b1;clear b1 v;go_wp2_with fail;refine(Y.o _ V.o).mono ?_;rintro e w2⟨rfl,b2⟩;have m:Hid (Below w w w2):=q0d V.o Zl b2;clear b2 Y V;have q1:¬(S.size:Int)<2:=by omega
 have q2:(0:Int)<=(S.size:Int)-1:=by omega
 have q3:(S.size:Int)-1<(S.size:Int):=by omega
 have q4:((S.size:Int)-1).toNat=S.size-1:=by omega
 go_wp2_with fail
 go_loopw [11] (fun x wr=>Below w w wr/\∃j:Nat,1<=j/\j<=S.size/\x=.int .i64 (j:Int)) (fun x _=>S.size-(intOf x).toNat)
 case atStart=>exact⟨by first|exact m.o|exact q3b m.o _,1,Nat.le_refl _,by omega,rfl⟩
 case round=>
  obtain⟨Ab,j,Ax,Ay,rfl⟩:=hrel;have D:Hid (Below w w wr):=Ab;clear Ab;by_cases Az:j<S.size
  ·have An:(j:Int)<(S.size:Int):=by omega
   have r2:(0:Int)<=(j:Int)-1:=by omega
   have r3:(j:Int)-1<(S.size:Int):=by omega
   have r4:((j:Int)-1).toNat=j-1:=by omega
   have i:¬(S[j]=10/\S[j-1]=32):=by
    have b:=g0f HG.o (j:=j-1) (by omega);simp only[show j-1+1=j by omega]at b;exact b
   by_cases H:S[j]=10
   ·have Aa:¬S[j-1]=32:=fun e=>i ⟨H,e⟩
    have k1:S[j].toNat=10:=by rw[H];rfl
    have k2:(S[j].toNat:Int)=10:=by omega
    have k3:¬((S[j-1].toNat:Nat):Int)=32:=fun e=>Aa (c32 e)
    have k4:¬S[j-1].toNat=32:=by omega
    have k5:(((S[j-1].toNat:Nat):Int)==32)=false:=by simp[k3]
    clear H Aa i;go_wp2;refine⟨⟨by first|exact D.o|exact q3b D.o _,j+1,by omega,by omega,by go_num⟩,?_⟩;simp[intOf];omega
   ·have k1:¬(S[j].toNat:Int)=10:=fun e=>H (c10 e)
    have k2:¬S[j].toNat=10:=by omega
    have k3:((S[j].toNat:Int)==10)=false:=by simp[k1]
    clear H i;go_wp2;refine⟨⟨by first|exact D.o|exact q3b D.o _,j+1,by omega,by omega,by go_num⟩,?_⟩;simp[intOf];omega
  ·have An:¬(j:Int)<(S.size:Int):=by omega
   have Ap:(PP.size:Int)=(P.size:Int)+1:=by omega
   have Al:((PP.size:Int)-1<=(n:Int)/\(S.toList==PP.toList)=true/\(S.toList != PP.toList)=false)\/¬(PP.size:Int)-1<=(n:Int):=by
    by_cases Ao:P.size<=n
    ·have e:=Ah.o Ao;refine .inl ⟨by omega,by rw[e];simp,by rw[e];simp⟩
    ·exact .inr (by omega)
   have A0:PP.size<=20000:=by omega
   clear g Ap;go_wp2_with fail;refine(O.o _ D.o).mono ?_;rintro e w3⟨rfl,b3⟩;have o:Hid (Below w w w3):=q0d D.o Zl b3;clear b3 O;rcases Al with⟨m1,m2,m3⟩|m1
   all_goals
    go_wp2_with fail;refine(Ai.o _ o.o).mono ?_;rintro e w4⟨⟨A4,c4,rfl,d,Ac⟩,b4⟩;have G:Hid (Below w w w4):=q0d o.o Zl b4;have Au:Hid (Below w w w4.drew):=G.o.drew;by_cases E:q7f t=0
    ·have Z:Hid (∀W:World,Below w4 w4 W->Calls prog 19 #[.slice A4 (q4v t).length c4,.slice wa ws.length wc] W fun e w'=>e=.returned (.tuple #[.string (shS ((q0j t).show ws)),q1m (shE ((q0j t).show ws))])/\Below W W w'):=fun W C=>Af.o E W A4 c4 (q0d G.o Zl C) Ac (d.W C)
     rw[E,q0n];clear d b4
     generalize(q4v t).length=nd at Z Ac⊢
     go_wp2_with fail;refine(Z.o _ Zb).mono ?_;rintro e w5⟨rfl,b5⟩;have M:Hid (Below w w w5):=q0d G.o Zl b5;clear b5 Z;cases K:(q0j t).show ws with
     | error er=>
      have HE:=(show Hid (_=_)from q0k (Ag.o E er K));have L:shE (Except.error er:Except Int (List UInt8))=er:=rfl;rw[L,HE.o];clear K L;go_wp2;go_ret;exact⟨rfl,by first|exact M.o|exact q3b M.o _⟩
     | ok r=>
      obtain⟨A1,k⟩:=y.o E r K;have L:shE (Except.ok r:Except Int (List UInt8))=0:=rfl;have e2:shS (Except.ok r:Except Int (List UInt8))=wbS r:=rfl;rw[L,e2,q0n];have Ad:(wbS r).size<=4000000:=by rw[q7s];omega
      have Aq:(0:Int)<((wbS r).size:Int)+1:=by omega
      have Ar:((wbS r).size:Int)+1<=4000001:=by omega
      have B:Hid (∀W:World,Calls prog 20 #[.string (wbS r),.int .i64 (n:Int)] W fun e w'=>e=.returned (.agg #[.int .i64 ((q1p n 0 r).1:Int),.int .i64 ((q1p n 0 r).2.1:Int)])/\Below W W w'):=fun W=>s.o W (wbS r) Ad
      have X:Hid (∀W:World,Calls prog 20 #[.string S,.int .i64 (n:Int)] W fun e w'=>e=.returned (.agg #[.int .i64 ((q1p n 0 (btL S)).1:Int),.int .i64 ((q1p n 0 (btL S)).2.1:Int)])/\Below W W w'):=fun W=>s.o W S f2
      generalize wbS r=U at B Ad Aq Ar⊢
      generalize(q1p n 0 r).2.1=x2 at B
      generalize(q1p n 0 (btL S)).2.1=y2 at X
      by_cases l:(q1p n 0 r).1=0
      ·rw[l,show((0:Nat):Int)=0 from rfl]at B;rw[k l,show((0:Nat):Int)=0 from rfl]at X;have Am:=k6i 0 (x2:Int);have Aw:=k6i 0 (y2:Int);clear l k K L e2;go_wp2_with fail;refine(B.o _).mono ?_;rintro e w6⟨rfl,b6⟩;have N:Hid (Below w w w6):=q0d M.o Zl b6;clear b6;go_wp2_with fail;refine(X.o _).mono ?_;rintro e w7⟨rfl,b7⟩;have p:Hid (Below w w w7):=q0d N.o Zl b7;clear b7;go_wp2;go_ret;exact⟨rfl,by first|exact p.o|exact q3b p.o _⟩
      ·have Ae:(0:Int)<((q1p n 0 r).1:Int):=by omega
       clear k K L e2 l
       generalize((q1p n 0 r).1:Int)=x1 at B Ae
       generalize(x2:Int)=x3 at B
       have Am:=k6i x1 x3;have A2:(decide ((0:Int)<x1))=true:=by simp[Ae]
       go_wp2_with fail;refine(B.o _).mono ?_;rintro e w6⟨rfl,b6⟩;have N:Hid (Below w w w6):=q0d M.o Zl b6;clear b6;go_wp2;go_ret;exact⟨rfl,by first|exact N.o|exact q3b N.o _⟩
    ·have HE:=(show Hid (_=_)from q0k E);rw[HE.o];clear E d b4;go_wp2;go_ret;exact⟨rfl,by first|exact G.o|exact q3b G.o _⟩
theorem k1m(hO:y8z)(t:List Td)(a:Option Addr)(cap:Nat)(ws:List Int)(wa:Option Addr)(wc:Nat)(wd:Int)(w:World)(hc:t.length<=cap)(hN:Tds w a t)(A:v9u t)(C:ws.length<=wc)(D:ws.length<=9223372036854775807)(hI:q7w w wa ws)(ht:z1a w):
  Calls prog 5 #[.slice a t.length cap,.int .i64 wd,.slice wa ws.length wc] w fun e w'=>e=.returned (.bool true)/\Below w w w':=by
 by_cases h:z2e t wd=0
 ·have B:¬(wd<10\/100<wd):=fun B=>by
   rw[z2e,if_pos B]at h;cases h
  have E:q0b t=0:=by
   rcases Classical.em (q0b t=0)with e|e
   ·exact e
   ·rw[z2e,if_neg B,if_pos e]at h;exact absurd h e
  obtain⟨n,rfl⟩:∃n:Nat,wd=(n:Int):=⟨wd.toNat,by omega⟩;have G:pgE t=0:=by rw[<-z9j B E];exact h
  exact k5l hO t a cap ws wa wc n w hc hN A C D hI ht h E G
 ·exact k1n hO t a cap ws wa wc wd w hc hN A ht h
end Go.Proofs.YtfdppahhbpfnoaaGreatDoor
