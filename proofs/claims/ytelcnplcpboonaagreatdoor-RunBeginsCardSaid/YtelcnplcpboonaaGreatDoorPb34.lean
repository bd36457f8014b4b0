import Derived.Test.YtelcnplcpboonaaGreatDoorPb31
open Go.Proofs.Tryz
namespace Go.Proofs.YtelcnplcpboonaaGreatDoor
open Go Go.RowKit
set_option maxRecDepth 100000
set_option maxHeartbeats 4000000
theorem j9a{w0:World}{b:Nat}(bs:List UInt8)(rest:List Td)(w:World)(tx:ByteArray)(hl:bs.length+tx.size<=400000)(hW:WyE w0 b bs rest w):
  Calls prog 167 #[.pointer (some ⟨b,0,none⟩),.string tx] w fun e w'=>e=.returned (.tuple #[])/\WyE w0 b (bs++(if tx.size=0 then [35]else [35,32]++btL tx)) rest w':=by
 have J:Hid (Calls prog 132 #[.pointer (some ⟨b,0,none⟩),.int .u8 35] w fun e w'=>e=.returned .nilIface/\WyE w0 b (bs++[35]) rest w'):=by
  obtain⟨A,c,h⟩:=hW;refine(q6w h 35 (by omega)).mono ?_;rintro e w'⟨rfl,P⟩;exact⟨rfl,_,_,P⟩
 by_cases B:tx.size=0
 ·rw[if_pos B]
  have H:tx=⟨#[]⟩:=by
   apply ByteArray.ext;apply Array.toList_inj.1;exact q5x.1 B
  subst H;clear hW hl B;go_in;go_wp2_with fail;refine J.o.mono ?_;rintro e V⟨rfl,D⟩;have G:=hid D;clear D;go_wp2
  go_end0
  exact⟨rfl,G.o⟩
 ·rw[if_neg B]
  have E:(tx.toList==[])=false:=by
   rw[Lib.toList_data];cases U:tx.data.toList with
   | nil=>exact absurd (q5x.2 U) B
   | cons=>rfl
  have L:¬tx.toList=[]:=by
   intro e;rw[e]at E;cases E
  have Q:(⟨#[]⟩:ByteArray).toList=[]:=by rw[Lib.toList_data]
  have R:¬9223372036854775807<1+tx.size:=by omega
  have I:(⟨#[32]⟩:ByteArray).size=1:=rfl
  have C:∀S:ByteArray,S.size<=1000000->btL S=32::btL tx->∀W,WyE w0 b (bs++[35]) rest W->Calls prog 10 #[.pointer (some ⟨b,0,none⟩),.string S] W fun e w'=>(∃z,e=.returned (.tuple #[z,.nilIface]))/\WyE w0 b (bs++([35,32]++btL tx)) rest w':=fun S hS1 hS2 W hW=>by
   obtain⟨A,c,h⟩:=hW;refine(q4k h S (by simp only[List.length_append,List.length_cons,List.length_nil];omega) hS1).mono ?_;rintro e w'⟨rfl,h,_⟩;refine⟨⟨_,rfl⟩,A,c,?_⟩;rw[hS2]at h;have O:bs++([35,32]++btL tx)=bs++[35]++32::btL tx:=by simp
   rw[O];exact h
  have M:=hid (C (⟨#[32]⟩++tx) (by rw[ByteArray.size_append,I];omega) (by simp[btL]));clear C;clear hW B hl;go_in;go_wp2_with fail;refine J.o.mono ?_;rintro e V⟨rfl,D⟩;have G:=hid D;clear D;go_wp2_with fail;refine(M.o _ G.o).mono ?_;rintro e X⟨⟨q,rfl⟩,K⟩;have N:=hid K;clear K;go_wp2
  go_end0
  exact⟨rfl,N.o⟩
theorem j9g{w0:World}{b:Nat}(ht:z4x w0)(bs:List UInt8)(ds:List Td)(hf:q0c ds=0)(w:World)(hl:bs.length<=200000)(hW:WyE w0 b bs ds w):
  Calls prog 131 #[.pointer (some ⟨b,0,none⟩)] w fun e w'=>e=.returned (.tuple #[])/\WyE w0 b (bs++q2n ds) [] w':=by
 have C:=k7a hf;rcases q5y hf with⟨⟨op,B,n⟩,rfl,h9,h0,a⟩|⟨x,F,rfl,O,Y,E,d⟩
 ·dsimp only at h9 h0 a;subst h9;have H:q2n [⟨9,B,n⟩]=if B.size=0 then [35]else [35,32]++btL B:=rfl
  have Ac:=z7o a;rw[H]at C⊢;obtain⟨A,c,h⟩:=hW;have L:Hid (Calls prog 166 #[.pointer (some ⟨b,0,none⟩)] w fun e w'=>e=.returned (tdV ⟨9,B,n⟩)/\WyE w0 b bs [] w'):=q4j h;have u:Hid (∀W,WyE w0 b bs [] W->Calls prog 167 #[.pointer (some ⟨b,0,none⟩),.string B] W fun e w'=>e=.returned (.tuple #[])/\WyE w0 b (bs++(if B.size=0 then [35]else [35,32]++btL B)) [] w'):=fun W hW=>j9a bs [] W B (by omega) hW
  generalize(if B.size=0 then [35]else [35,32]++btL B)=X at u⊢
  clear h H C hf;go_in;go_wp2_with fail;refine L.o.mono ?_;rintro e J⟨rfl,s,v,E⟩;have j:Hid (∀W:World,Below J J W->WyE w0 b bs [] W):=fun W hb=>⟨_,_,E.grew hb⟩
  clear E L;go_wp2_with fail;refine(u.o _ (j.o _ (q1c J _))).mono ?_;rintro e w3⟨rfl,Q⟩;have l:=hid Q;clear Q;go_wp2;refine bodyPost_ret (results_none rfl _ _ _) rfl ?_;exact⟨rfl,l.o⟩
 ·obtain⟨y,k,rfl⟩:=v6k E;have hX:ExC w0 b y k:=(z8j ht _ O Y).1
  have Z:(Fo.cons y k .nil).len=kdT x:=by
   rw[E];rcases d with⟨e,_⟩|⟨e,_⟩<;>(unfold kdT;rw[e];rfl)
  have H:=(z7z O Z).1;have M:(Fo.cons y k .nil).N=y::k.N:=by simp[Fo.N]
  have f:hdT (Fo.cons y k .nil).R=q2v y k.R:=rfl;rw[H]at C⊢;rw[M]at hW;obtain⟨A,c,h⟩:=hW
  have i:Hid (∀bs' W,bs'.length+(q2v y k.R).length<=500000->WyE w0 b bs' (y::k.N) W->Calls prog 168 #[.pointer (some ⟨b,0,none⟩)] W fun e w'=>e=.returned (.tuple #[])/\WyE w0 b (bs'++q2v y k.R) [] w'):=fun bs' W hb hW=>by
   refine hX bs' [] W hb ?_;rw[List.append_nil];exact hW
  have g:Hid (∀bs' W,bs'.length<=500000->WyE w0 b bs' [] W->Calls prog 132 #[.pointer (some ⟨b,0,none⟩),.int .u8 59] W fun e w'=>e=.returned .nilIface/\WyE w0 b (bs'++[59]) [] w'):=fun bs' W hb hW=>by
   obtain⟨A,c,h⟩:=hW;refine(q6w h 59 (by omega)).mono ?_;rintro e w'⟨rfl,E⟩;exact⟨rfl,_,_,E⟩
  clear hX H Z O Y hf;obtain⟨op,B,n⟩:=x;have L:Hid (Calls prog 166 #[.pointer (some ⟨b,0,none⟩)] w fun e w'=>e=.returned (tdV ⟨op,B,n⟩)/\WyE w0 b bs (y::k.N) w'):=q4j h;clear h;rcases d with⟨e,K,_⟩|⟨e,_,_⟩
  ·dsimp only at e K;subst e
   have Ad:B.size<=8:=by
    simp only[q1f,Bool.and_eq_true,decide_eq_true_eq]at K;exact K.1.1.2
   have I:stX ⟨7,B,n⟩ (Fo.cons y k .nil).R=[108,101,116,32]++btL B++[32,61,32]++q2v y k.R++[59]:=rfl;rw[I]at C⊢;simp only[List.length_append,List.length_cons,List.length_nil]at C;have p:(⟨#[108,101,116,32]⟩:ByteArray).size=4:=rfl;have q:(⟨#[32,61,32]⟩:ByteArray).size=3:=rfl;have Aa:¬9223372036854775807<4+B.size:=by omega
   have Ab:¬9223372036854775807<4+B.size+3:=by omega
   have r:=q0b B;go_in;go_wp2_with fail;refine L.o.mono ?_;rintro e J⟨rfl,s,v,E⟩
   have P:∀S:ByteArray,S.size<=100->btL S=[108,101,116,32]++btL B++[32,61,32]->∀W:World,Below J J W->Calls prog 10 #[.pointer (some ⟨b,0,none⟩),.string S] W fun e w'=>(∃z,e=.returned (.tuple #[z,.nilIface]))/\WyE w0 b (bs++([108,101,116,32]++btL B++[32,61,32])) (y::k.N) w':=fun S hS1 hS2 W hb=>by
    refine(q4k (E.grew hb) S (by omega) (by omega)).mono ?_;rintro e w'⟨rfl,h,_⟩;rw[hS2]at h;exact⟨⟨_,rfl⟩,_,_,h⟩
   have t:=hid (P (⟨#[108,101,116,32]⟩++B++⟨#[32,61,32]⟩) (by rw[ByteArray.size_append,ByteArray.size_append,p,q];omega) (by simp[btL]));clear P;have D:Hid (∀W,WyE w0 b (bs++([108,101,116,32]++btL B++[32,61,32])) (y::k.N) W->Calls prog 168 #[.pointer (some ⟨b,0,none⟩)] W fun e w'=>e=.returned (.tuple #[])/\WyE w0 b (bs++([108,101,116,32]++btL B++[32,61,32])++q2v y k.R) [] w'):=fun W hW=>i.o _ W (by simp only[List.length_append,List.length_cons,List.length_nil];omega) hW
   have G:Hid (∀W,WyE w0 b (bs++([108,101,116,32]++btL B++[32,61,32])++q2v y k.R) [] W->Calls prog 132 #[.pointer (some ⟨b,0,none⟩),.int .u8 59] W fun e w'=>e=.returned .nilIface/\WyE w0 b (bs++([108,101,116,32]++btL B++[32,61,32]++q2v y k.R++[59])) [] w'):=fun W hW=>by
    refine(g.o _ W (by simp only[List.length_append,List.length_cons,List.length_nil];omega) hW).mono ?_;rintro e w'⟨rfl,h⟩;refine⟨rfl,?_⟩;simp only[List.append_assoc]at h⊢;exact h
   clear E L i g
   generalize(bs++([108,101,116,32]++btL B++[32,61,32])++q2v y k.R)=P2 at D G
   generalize(bs++([108,101,116,32]++btL B++[32,61,32]))=P1 at t D
   clear I f M C r K;go_wp2_with fail
   go_region_with (go_at_call 10;refine(t.o _ (z1m J _)).mono ?_;rintro e w3⟨⟨z,rfl⟩,Q⟩)
   all_goals
    have l:=hid Q;clear Q;go_wp2_with fail;refine(D.o _ l.o).mono ?_;rintro e w4⟨rfl,U⟩;have m:=hid U;clear U;go_wp2_with fail;refine(G.o _ m.o).mono ?_;rintro e w5⟨rfl,V⟩;have o:=hid V;clear V;go_wp2
    go_end0
    exact⟨rfl,o.o⟩
  ·dsimp only at e;subst e;have I:stX ⟨8,B,n⟩ (Fo.cons y k .nil).R=q2v y k.R++[59]:=rfl;rw[I]at C⊢;simp only[List.length_append,List.length_cons,List.length_nil]at C;have D:Hid (∀W,WyE w0 b bs (y::k.N) W->Calls prog 168 #[.pointer (some ⟨b,0,none⟩)] W fun e w'=>e=.returned (.tuple #[])/\WyE w0 b (bs++q2v y k.R) [] w'):=fun W hW=>i.o _ W (by omega) hW
   have G:Hid (∀W,WyE w0 b (bs++q2v y k.R) [] W->Calls prog 132 #[.pointer (some ⟨b,0,none⟩),.int .u8 59] W fun e w'=>e=.returned .nilIface/\WyE w0 b (bs++(q2v y k.R++[59])) [] w'):=fun W hW=>by
    refine(g.o _ W (by simp only[List.length_append];omega) hW).mono ?_;rintro e w'⟨rfl,h⟩;refine⟨rfl,?_⟩;rw[List.append_assoc]at h;exact h
   clear i g;generalize bs++q2v y k.R=P1 at D G;clear I f M C;go_in;go_wp2_with fail;refine L.o.mono ?_;rintro e J⟨rfl,s,v,E⟩;have j:Hid (∀W:World,Below J J W->WyE w0 b bs (y::k.N) W):=fun W hb=>⟨_,_,E.grew hb⟩
   clear E L;go_wp2_with fail;refine(D.o _ (j.o _ (q1c J _))).mono ?_;rintro e w4⟨rfl,U⟩;have m:=hid U;clear U;go_wp2_with fail;refine(G.o _ m.o).mono ?_;rintro e w5⟨rfl,V⟩;have o:=hid V;clear V;go_wp2
   go_end0
   exact⟨rfl,o.o⟩
structure y8h(w0:World)(b:Nat)(ps:List (List Td))(i:Nat)(w:World):Prop where
 le:i<=ps.length
 w:WyE w0 b (q2a (ps.take i)) [] w
theorem k9g{ps:List (List Td)}{i:Nat}(h:i<ps.length):q2a (ps.take (i+1))=q2a (ps.take i)++q2n ps[i]++[10]:=by
 rw[List.take_succ_eq_append_getElem h,k9f];simp
theorem v3u{ps:List (List Td)}(hP:∀t∈ps,q0c t=0)(hl:ps.length<=20)(i:Nat):(q2a (ps.take i)).length<=50000:=by
 have A:=j6x (ps.take i) fun t ht=>hP t (List.mem_of_mem_take ht)
 have B:(ps.take i).length<=ps.length:=by rw[List.length_take];omega
 omega
theorem k1a(ps:List (List Td))(a:Option Addr)(C:Nat)(w:World)(hc:ps.length<=C)(hP:Prg w a ps)(I:∀t∈ps,z4i t)(ht:z4x w):Calls prog 106 #[.slice a ps.length C] w fun e w'=>e=.returned (.tuple #[.string (y3j ps),q0s (q0o ps).2])/\Below w w w':=by
 have D:Hid (Calls prog 87 #[.slice a ps.length C] w fun e w'=>e=.returned (.tuple #[.int .i64 ((q0o ps).1:Int),q0s (q0o ps).2])/\Below w w w'):=k1c ps a C w hc hP I;by_cases G:(q0o ps).2=0
 ·obtain⟨k,z⟩:=z0u G;have H:=z3m ps 0 z;have L:Hid (∀t∈ps,q0c t=0):=H;have b:=(show Hid (∀i,(q2a (ps.take i)).length<=50000)from v3u H k);rw[j6z G];rw[G]at D⊢;have q:Hid (Prg w a ps):=hP;have s:Hid (z4x w):=ht
  generalize(q0o ps).1=K at D
  clear hP I G z ht H;go_in;go_wp2_with fail;refine D.o.mono ?_;rintro e B⟨rfl,J⟩;rw[q0q];have Z:Hid (Prg B a ps):=q.o.W J;have d:Hid (z4x B):=s.o.W J;have V:=hid J;have g:Hid (y8h B B.heap.size ps 0 (B.alloc (.cells #[.pointer none,.slice none 0 0,.slice none 0 0] 203))):=⟨by omega,none,0,IsX.fresh 203 B [.slice none 0 0],Nat.le_refl _,Tds.nil _ _,q1c B _,Nat.le_refl _⟩;clear J D q s;go_wp2_with fail
  go_loopw [19] (fun x wr=>∃i:Nat,x=.int .i64 (i:Int)/\y8h B B.heap.size ps i wr) (fun x _=>ps.length-(intOf x).toNat)
  case atStart=>exact⟨0,rfl,g.o⟩
  case round=>
   obtain⟨i,rfl,Aa,O⟩:=hrel;have S:=b.o i;by_cases Q:i<ps.length
   ·have l:(i:Int)<(ps.length:Int):=by omega
    obtain⟨b0,o0,U,j,rfl,m,y,P,M⟩:=Z.o i Q;obtain⟨A,c,h⟩:=O;obtain⟨v,_⟩:=q0t h.bl;have e0:wr.cell? ⟨b0,o0+i,none⟩=some (.slice U ps[i].length j):=(v _ _ m).trans y;have cR:wr.cell? ⟨B,2,none⟩=some (.slice A ([]:List Td).length c):=h.x.cellR 0;have fR:wr.frozen? ⟨B,2,none⟩=false:=h.x.frozen 2;have hz:=h.bl.size
    have r:Hid (Calls prog 131 #[.pointer (some ⟨B,0,none⟩)] (wr.setCell ⟨B,2,none⟩ (.slice U ps[i].length j)) fun e w'=>e=.returned (.tuple #[])/\WyE B B.heap.size (q2a (ps.take i)++q2n ps[i]) [] w'):=by
     refine j9g d.o _ ps[i] (L.o _ (List.getElem_mem Q)) _ (by omega) ⟨U,j,h.x.stored 0 _,P,M,h.bl.setCell (p:=⟨B,2,none⟩) Zl _,Nat.le_refl _⟩
    have n:=k7a (L.o _ (List.getElem_mem Q))
    have HB:Hid (∀W,WyE B B.heap.size (q2a (ps.take i)++q2n ps[i]) [] W->Calls prog 132 #[.pointer (some ⟨B,0,none⟩),.int .u8 10] W fun e w'=>e=.returned .nilIface/\y8h B B.heap.size ps (i+1) w'):=fun W O=>by
     obtain⟨A,c,h⟩:=O;refine(q6w h 10 (by rw[List.length_append];omega)).mono ?_;rintro e w'⟨rfl,k⟩;exact⟨rfl,Q,A,c,by rw[k9g Q];exact k⟩
    clear h y M v n S P;generalize ps[i].length=pn at e0 r;go_wp2_with fail;refine r.o.mono ?_;rintro e w3⟨rfl,h3⟩;have K3:=hid h3;clear h3;go_wp2_with fail;refine(HB.o _ K3.o).mono ?_;rintro e w4⟨rfl,h4⟩;have K4:=hid h4;clear h4;go_wp2;refine⟨⟨i+1,by go_num,K4.o⟩,?_⟩;simp[intOf];omega
   ·have l:¬(i:Int)<(ps.length:Int):=by omega
    have R:ps.take i=ps:=List.take_of_length_le (by omega);rw[R]at O;obtain⟨A,c,h⟩:=O;have o:Hid (Calls prog 12 #[.pointer (some ⟨B,0,none⟩)] wr fun e w'=>e=.returned (.string (wbS (q2a ps)))/\Below B wr w'):=z2d _ _ _ _ _ _ h.x;have X:Hid (Below B B wr):=h.bl;generalize N:wbS (q2a ps)=T at o;have f:Hid (wbS (q2a ps)=T):=N;clear h R S N;go_wp2_with fail;refine o.o.mono ?_;rintro e w3⟨rfl,u⟩;have B3:=hid (q0g V.o Zl (X.o.trans u));clear u;go_wp2;go_ret2;exact⟨by rw[f.o];rfl,B3.o⟩
 ·rw[y2h G];have Y:Hid (q0s (q0o ps).2=.iface 50 (.int .i64 (q0o ps).2)):=q0h G
  generalize(q0o ps).2=E at D Y⊢
  generalize(q0o ps).1=K at D
  clear hP I G ht;go_in;go_wp2_with fail;refine D.o.mono ?_;rintro e B⟨rfl,J⟩;rw[Y.o];go_wp2;go_ret2;exact⟨by rw[Y.o];rfl,J⟩
theorem z8c(ps:List (List Td))(a:Option Addr)(cap:Nat)(w:World)(hc:ps.length<=cap)(hP:Prg w a ps)(hsz:∀t∈ps,z4i t)(ht:q7n w):Calls prog 106 #[.slice a ps.length cap] w fun e w'=>e=.returned (.tuple #[.string (y3j ps),q0s (q0o ps).2])/\Below w w w':=
 k1a ps a cap w hc hP hsz ht.pow
theorem j7v:∀W:List Wd,(∀w∈W,w.length<=20)->szW W<=21*W.length
 | [],_=>Nat.le_refl _
 | x::r,h=>by
  have h1:=j7v r fun w hw=>h w (by simp[hw])
  have h2:=h x (by simp);rw[q1o,List.length_cons];omega
theorem k5z{tx:ByteArray}(h:q3k tx=0):Lib.fields (btL tx)=q0i (btL tx)/\(btL tx).length<=2000/\∀b∈btL tx,b.toNat<128:=by
 obtain⟨I,E⟩:=z7p h;by_cases B:btL tx=[]
 ·rw[B];exact⟨rfl,by simp,fun b A=>by cases A⟩
 ·have H:q0i (btL tx)=q4y (btL tx):=by rw[q0i,if_neg B]
  rw[H]at I E⊢;have G:=z5l (btL tx)
  have C:∀b∈btL tx,prB b=true:=by
   intro b A;rw[<-G]at A;refine z6z (p:=prB) rfl (q4y (btL tx)) (fun w D b A=>?_) b A;have J:=(E w D).2.2 b A;simp only[q9r,Bool.and_eq_true,decide_eq_true_eq]at J;simp only[prB,Bool.and_eq_true,decide_eq_true_eq];omega
  refine⟨?_,?_,fun b A=>?_⟩
  ·rw[z0g fun b A hs=>y6h (C b A) hs,List.filter_eq_self];intro w D
   have:=(E w D).1
   cases w with
   | nil=>exact absurd rfl this
   | cons=>rfl
  ·have K:=v9s (q4y (btL tx));have L:=j7v (q4y (btL tx)) fun w D=>(E w D).2.1
   rw[G]at K;omega
  ·have:=C b A
   simp only[prB,Bool.and_eq_true,decide_eq_true_eq]at this;omega
theorem k2z{tx:ByteArray}(h:q3k tx=0)(w:World)(ht:q7n w):Calls prog 182 #[.string tx] w fun e w'=>(∃g,e=.returned (.slice (some ⟨g,0,none⟩) (q0i (btL tx)).length (q0i (btL tx)).length)/\Wds w' (some ⟨g,0,none⟩) ((q0i (btL tx)).map wbS))/\Below w w w':=by
 obtain⟨B,C,D⟩:=k5z h;rw[<-B];rw[q0b]at C;refine(fields_sh tx w (by omega) (fun j c hj=>D c (List.mem_of_getElem? hj)) ht.spc).mono ?_;rintro e w'⟨rfl,rfl⟩;refine⟨⟨w.heap.size,rfl,?_⟩,q1c w _⟩;intro i E;have A:i<(Lib.fields (btL tx)).length:=by simpa using E
 refine⟨w.heap.size,0,rfl,by rw[World.size_alloc];omega,?_⟩;rw[Nat.zero_add];have G:=heap_alloc_new w (.cells ((Lib.fields (btL tx)).map fun l=>Value.string ⟨l.toArray⟩).toArray 9);rw[Lib.cell_of_heap G]
 show((Lib.fields (btL tx)).map fun l=>Value.string ⟨l.toArray⟩).toArray[i]?=_
 rw[List.getElem?_toArray,List.getElem?_map,show(Lib.fields (btL tx))[i]?=some (Lib.fields (btL tx))[i]from List.getElem?_eq_getElem A];simp[wbS]
theorem k3p{t:List Td}{a:Option Addr}{w:World}(h:q0c t=0)(hN:Tds w a t):0<t.length/\∃b o,a=some ⟨b,o,none⟩/\b<w.heap.size/\w.cell? ⟨b,o,none⟩=some (.int .i64 (opT t))/\w.cell? ⟨b,o+1,none⟩=some (.string (txT t)):=by
 have A:=z8g h;obtain⟨b,o,e,D,B,C,_⟩:=hN 0 A;refine⟨A,b,o,e,D,?_,?_⟩
 ·rw[k3o A];simpa using B
 ·cases t with
  | nil=>simp at A
  | cons x r=>simpa[txT]using C
theorem z3f{b o A n:Nat}{op:Int}{w:World}(hn:0<n)(h:w.cell? ⟨b,o,none⟩=some (.int .i64 op)):Calls prog 195 #[.slice (some ⟨b,o,none⟩) n A] w fun e w'=>e=.returned (.bool (op==9))/\w=w':=by
 have B:(0:Int)<(n:Int):=by omega
 go_in;go_wp2;go_ret;exact⟨rfl,rfl⟩
theorem k8r(t:List Td)(a:Option Addr)(B:Nat)(w:World)(ht:z4x w)(hc:t.length<=B)(hN:Tds w a t)(N:z4i t):Calls prog 156 #[.slice a t.length B] w fun e w'=>z2e t e w'/\Below w w w':=by
 have P:Hid (Calls prog 119 #[.slice a t.length B] w fun e w'=>e=.returned (q0s (q0c t))/\Below w w w'):=q5z t a B w hc hN N;have U:Hid (Tds w a t):=hN;have f:Hid (z4x w):=ht;clear hN N ht;by_cases E:q0c t=0
 ·obtain⟨M,b,o,rfl,j,X,g⟩:=k3p E U.o;have Q:Hid (∀W:World,Below w w W->Calls prog 195 #[.slice (some ⟨b,o,none⟩) t.length B] W fun e w'=>e=.returned (.bool (opT t==9))/\W=w'):=fun W h=>z3f M (((q0t h).1 _ _ j).trans X)
  rw[E]at P;clear X g;by_cases J:opT t=9
  ·obtain⟨L,D,_,_⟩:=z7b E J;have H:Hid (∀W,z2e t (.returned (.tuple #[.slice none 0 0,q0s 2])) W):=fun W=>⟨none,0,by rw[L,D];rfl,by rw[D];exact fun i hi=>by simp at hi,by rw[D];exact Nat.le_refl _⟩
   rw[show(opT t==9)=true by simp[J]]at Q;clear E J L D;go_in;go_wp2_with fail;refine P.o.mono ?_;rintro e O⟨rfl,I⟩;rw[q0q];have C:Hid (Below w w O):=I;clear I;go_wp2_with fail;refine(Q.o _ C.o).mono ?_;rintro e k⟨rfl,rfl⟩;go_wp2;go_ret2;exact⟨H.o _,C.o⟩
  ·have G:Hid (∀W:World,Below w w W->Calls prog 200 #[.slice (some ⟨b,o,none⟩) t.length B] W fun e w'=>(∃A c,e=.returned (.tuple #[.slice A (q7d t).length c,q0s (q8g t)])/\q2z w' A (q7d t)/\(q7d t).length<=c)/\Below W W w'):=fun W h=>j5h t _ B W (f.o.W h) E J hc (U.o.W h)
   have H:Hid (∀A c W,q2z W A (q7d t)->(q7d t).length<=c->z2e t (.returned (.tuple #[.slice A (q7d t).length c,q0s (q8g t)])) W):=fun A c W h h2=>⟨A,c,rfl,h,h2⟩
   rw[show(opT t==9)=false by simp[J]]at Q;generalize q7d t=xs at G H;generalize q0s (q8g t)=er at G H;clear E J;go_in;go_wp2_with fail;refine P.o.mono ?_;rintro e O⟨rfl,I⟩;rw[q0q];have C:Hid (Below w w O):=I;clear I;go_wp2_with fail;refine(Q.o _ C.o).mono ?_;rintro e k⟨rfl,rfl⟩;go_wp2_with fail;refine(G.o _ C.o).mono ?_;rintro e d⟨⟨A,c,rfl,Y,Z⟩,V⟩;have R:Hid (Below w w d):=q0g C.o Zl V;have K:=hid (H.o A c d Y Z);clear Y Z V;generalize xs.length=nx at K⊢;go_wp2;go_ret2;exact⟨K.o,R.o⟩
 ·obtain⟨L,D,_,_⟩:=j4p E;have S:Hid (q0s (q0c t)=.iface 50 (.int .i64 (q0c t))):=q0h E;have H:Hid (∀W,z2e t (.returned (.tuple #[.slice none 0 0,q0s (q0c t)])) W):=fun W=>⟨none,0,by rw[L,D];rfl,by rw[D];exact fun i hi=>by simp at hi,by rw[D];exact Nat.le_refl _⟩
  clear L D E;go_in;go_wp2_with fail;refine P.o.mono ?_;rintro e O⟨rfl,I⟩;rw[S.o];go_wp2;go_ret2;exact⟨by have:=H.o O;rw[S.o]at this;exact this,I⟩
theorem j6e{t:List Td}(h:q0c t=0)(h9:opT t=9):q3k (txT t)=0:=by
 rcases q5y h with⟨x,rfl,_,_,A⟩|⟨x,F,rfl,_,_,_,C⟩
 ·exact A
 ·exfalso;have e:opT (x::F.N)=x.op:=rfl;rcases C with⟨B,_⟩|⟨B,_⟩<;>omega
theorem k2y(t:List Td)(a:Option Addr)(D:Nat)(w:World)(ht:q7n w)(hc:t.length<=D)(hN:Tds w a t)(S:z4i t):Calls prog 153 #[.slice a t.length D] w fun e w'=>z6h t e w'/\Below w w w':=by
 have U:Hid (Calls prog 119 #[.slice a t.length D] w fun e w'=>e=.returned (q0s (q0c t))/\Below w w w'):=q5z t a D w hc hN S;have p:Hid (Tds w a t):=hN;have q:Hid (q7n w):=ht;clear hN S ht;by_cases E:q0c t=0
 ·obtain⟨R,b,o,rfl,m,k,X⟩:=k3p E p.o;have V:Hid (∀W:World,Below w w W->Calls prog 195 #[.slice (some ⟨b,o,none⟩) t.length D] W fun e w'=>e=.returned (.bool (opT t==9))/\W=w'):=fun W h=>z3f R (((q0t h).1 _ _ m).trans k)
  have I:Hid (∀W:World,Below w w W->W.cell? ⟨b,o+1,none⟩=some (.string (txT t))):=fun W h=>((q0t h).1 _ _ m).trans X
  rw[E]at U;have r:(0:Int)<(t.length:Int):=by omega
  clear k X;by_cases K:opT t=9
  ·obtain⟨_,_,H,B⟩:=z7b E K;have L:=j6e E K;have Z:(txT t).size<=2000:=by rw[<-q0b];exact(k5z L).2.1
   have P:Hid (∀W:World,Calls prog 115 #[.string (txT t)] W fun e w'=>e=.returned (.string (txT t))/\Below W W w'):=fun W=>q7c _ W (by omega)
   have J:Hid (∀W:World,Below w w W->Calls prog 182 #[.string (txT t)] W fun e w'=>(∃g,e=.returned (.slice (some ⟨g,0,none⟩) (q0i (btL (txT t))).length (q0i (btL (txT t))).length)/\Wds w' (some ⟨g,0,none⟩) ((q0i (btL (txT t))).map wbS))/\Below W W w'):=fun W h=>k2z L W (q.o.W h)
   have M:Hid (∀A c W,Wds W A ((q0i (btL (txT t))).map wbS)->(q0i (btL (txT t))).length<=c->z6h t (.returned (.tuple #[.slice A (q0i (btL (txT t))).length c,q0s 0])) W):=fun A c W h h2=>⟨A,c,by rw[H,B,List.length_map],by rw[B];exact h,by rw[B,List.length_map];exact h2⟩
   rw[show(opT t==9)=true by simp[K]]at V;generalize q0i (btL (txT t))=ws at J M;generalize txT t=tx at J I P;clear E K H B Z L;go_in;go_wp2_with fail;refine U.o.mono ?_;rintro e N⟨rfl,G⟩;rw[q0q];have X:=I.o N G;have C:Hid (Below w w N):=G;clear G;go_wp2_with fail;refine(V.o _ C.o).mono ?_;rintro e s⟨rfl,rfl⟩;go_wp2_with fail;refine(P.o _).mono ?_;rintro e u⟨rfl,f⟩;have O:Hid (Below w w u):=q0g C.o Zl f;clear f;go_wp2_with fail;refine(J.o _ O.o).mono ?_;rintro e n⟨⟨g,rfl,l⟩,j⟩;have Y:Hid (Below w w n):=q0g O.o Zl j;have Q:=hid (M.o _ ws.length n l Zl);clear l j X;generalize ws.length=nw at Q⊢;go_wp2;go_ret2;exact⟨Q.o,Y.o⟩
  ·have M:Hid (∀W,z6h t (.returned (.tuple #[.slice none 0 0,q0s 2])) W):=fun W=>by
    have H:k1p t=2:=by rw[k1p,if_neg (by simp[E]),if_neg K]
    have B:k8s t=[]:=by rw[k8s,if_neg (by rw[H];decide)]
    exact⟨none,0,by rw[H,B];rfl,by rw[B];exact fun i hi=>by simp at hi,by rw[B];exact Nat.le_refl _⟩
   rw[show(opT t==9)=false by simp[K]]at V;clear E K I;go_in;go_wp2_with fail;refine U.o.mono ?_;rintro e N⟨rfl,G⟩;rw[q0q];have C:Hid (Below w w N):=G;clear G;go_wp2_with fail;refine(V.o _ C.o).mono ?_;rintro e s⟨rfl,rfl⟩;go_wp2;go_ret2;exact⟨M.o _,C.o⟩
 ·obtain⟨_,_,H,B⟩:=j4p E;have d:Hid (q0s (q0c t)=.iface 50 (.int .i64 (q0c t))):=q0h E;have M:Hid (∀W,z6h t (.returned (.tuple #[.slice none 0 0,q0s (q0c t)])) W):=fun W=>⟨none,0,by rw[H,B];rfl,by rw[B];exact fun i hi=>by simp at hi,by rw[B];exact Nat.le_refl _⟩
  clear H B E;go_in;go_wp2_with fail;refine U.o.mono ?_;rintro e N⟨rfl,G⟩;rw[d.o];go_wp2;go_ret2;exact⟨by have:=M.o N;rw[d.o]at this;exact this,G⟩
end Go.Proofs.YtelcnplcpboonaaGreatDoor
