import Derived.Test.YtelcnplcpboonaaGreatDoorPb44
open Go.Proofs.Tryz
namespace Go.Proofs.YtelcnplcpboonaaGreatDoor
open Go Go.RowKit Go.Maps
set_option maxRecDepth 100000
set_option maxHeartbeats 8000000
theorem y6w:(prog.info? 82).map (fun i=>(i.zero,i.size,i.bytes))=some (some (.slice none 0 0),1,24):=by kernel_rfl
theorem v8d{w:World}{G:Array Oper}{rest:List Oper}{o:Oper}{a:Act}{Q:Exit->Act->World->Prop}(I:o.guard=none)(s x:Operand)
  (ho:o.op=.call {callee:=.builtin .append,args:=#[s,x],argTypes:=#[28,28]})
  (B:Nat) (v:Value) (k:Nat) (hs:List Value) (H:a.eval s=v) (E:w.ownsRow B 82 1 v k hs)
  (b0:Nat) (A0:Option Addr) (l0 c0:Nat) (hx:a.eval x=.slice (some ⟨b0,0,none⟩) 1 1) (hc:w.cell? ⟨b0,0,none⟩=some (.slice A0 l0 c0))
  (hb:k<=1000000) (C:B<=w.heap.size)
  (h:∀A c w',w'.ownsRow B 82 1 (.slice A (k+1) c) (k+1) (hs++[.slice A0 l0 c0])->w.grownBy w' v.ownBlock->wpList prog G Q rest (a.put o.dst (.slice A (k+1) c)) w'):wpList prog G Q (o::rest) a w:=by
 obtain⟨V,U,K,L,M⟩:=info_parts y6w;refine wpList_append_own w I s x 28 ho B 82 V _ 1 24 Tryz.underlying28 U K L M rfl (by decide) v k hs H E ⟨b0,0,none⟩ 1 1 [.slice A0 l0 c0] hx rfl ?_ (by intro u O;simp at O;subst O;rfl) (by unfold maxLen;omega) (by omega) C ?_
 ·intro j u J;cases j with
  | zero=>
   simp at J;subst J;rw[z1t];exact hc
  | succ j=>simp at J
 ·intro W w' N S _
  obtain⟨A,D,rfl⟩:∃A D,W=.slice A (k+1) D:=by
   rcases N.2 with⟨P,Y⟩|⟨X,D,R,P,_⟩
   ·omega
   ·exact⟨_,D,P⟩
  exact h A D w' N S
theorem j7j{B:Nat}{w:World}{A:Option Addr}{n c:Nat}{hs:List Value}(h:w.ownsRow B 82 1 (.slice A n c) n hs):n<=c/\∀j u,j<n->hs[j]?=some u->∃g,A=some ⟨g,0,none⟩/\g<w.heap.size/\w.cell? ⟨g,j,none⟩=some u:=by
 rcases h.2 with⟨D,K⟩|⟨g,J,H,D,_,G,E,_,I,C⟩
 ·simp only[Value.slice.injEq]at D;obtain⟨rfl,rfl,rfl⟩:=D;exact⟨Nat.le_refl _,fun j u hj=>by omega⟩
 ·simp only[Value.slice.injEq]at D;obtain⟨rfl,_,rfl⟩:=D;refine⟨E,fun j u hj hk=>⟨g,rfl,(Array.getElem?_eq_some_iff.1 G).1,?_⟩⟩;rw[<-C,List.getElem?_take_of_lt (by omega)]at hk;simp only[World.cell?,G];simpa using hk
structure y3p(qs:List (List Td))(w:World)(i:Nat)(v:Value)(wr:World):Prop where
 le:i<=qs.length
 row:∃hs,wr.ownsRow w.heap.size 82 1 v i hs/\∀j(hj:j<qs.length),j<i->∃A c,hs[j]?=some (.slice A qs[j].length c)/\qs[j].length<=c/\Tds w A qs[j]
 bl:Below w w wr
theorem z9c{T:TypeId}(qs:List (List Td))(n b:Nat)(w:World)(hS:q4l T w b qs n):
  Calls prog 60 #[.pointer (some ⟨b,0,none⟩)] w fun e w'=>(∃A c,e=.returned (.slice A qs.length c)/\Prg w' A qs/\qs.length<=c)/\Below w w w':=by
 obtain⟨oA,oc,m,s0,s1,s2,sf,sW,X⟩:=hS.cell;have P:=hS.lt;obtain⟨_,_,_,J⟩:=hS;have R:=J.len;have o:Hid (∀t∈qs,q0c t=0):=J.ok;have HW:Hid (Wds w oA (qs.map kyB)):=sW;have k:Hid ((m=none/\qs=[])\/∃b,m=some b/\KnM w w b qs n):=X;have f:Hid (∀W,Below w w W->W.cell? ⟨b,2,none⟩=some (.map m)):=fun W h=>((q0t h).1 _ _ P).trans s2
 have M:Hid (y3p qs w 0 (.slice none 0 0) w):=⟨Nat.zero_le _,⟨[],⟨rfl,.inl ⟨rfl,rfl⟩⟩,fun j _ h=>by omega⟩,Below.refl _ _⟩;clear sW X J s0 s2 sf;generalize S:qs.length=np at R s1⊢;have l:Hid (qs.length=np):=S;clear S;go_in;go_wp2_with fail;clear s1
 go_loopw [3,11] (fun v x wr=>∃(i:Nat)(A:Option Addr)(c:Nat),v=.slice A i c/\x=.int .i64 (i:Int)/\y3p qs w i v wr) (fun _ x _=>np-(intOf x).toNat)
 case atStart=>exact⟨0,none,0,rfl,rfl,M.o⟩
 case round=>
  clear M;obtain⟨i,Z,a,rfl,rfl,H⟩:=hrel;have Ac:=l.o;have Ab:=H.le;by_cases Ad:i<np
  ·have s:(i:Int)<(np:Int):=by omega
   have G:i<qs.length:=by omega
   obtain⟨ob,oo,rfl,z,I⟩:=HW.o i (by simpa using G);rw[List.getElem_map]at I;have d0:=((q0t H.bl).1 _ _ z).trans I;have U:=o.o qs[i] (List.getElem_mem _);rcases k.o with⟨_,e0⟩|⟨mb,rfl,K⟩
   ·rw[e0]at G;simp at G
   ·obtain⟨d,q,y,_,Q,O⟩:=(K.kept (H.bl.block mb K.lt)).look (List.getElem_mem G) U;have s2:=f.o wr H.bl;have E:Hid (y3p qs w i (.slice Z i a) wr):=H;have p:Hid (qs[i].length<=q/\Tds w d qs[i]):=⟨Q,O⟩;clear K H I O Q U;generalize wbS (q5g n qs[i])=S6 at y;obtain⟨hs,C,B⟩:=E.o.row;have Y:Hid (wr.ownsRow w.heap.size 82 1 (.slice Z i a) i hs):=C;have L:=hid B;clear C B;have Aa:=v9j;go_wp2_with(at_builtin;refine v8d rfl _ _ rfl w.heap.size _ i hs rfl ?c1 wr.heap.size d qs[i].length q ?cx ?c2 ?c3 ?c4 ?_)
    case cx=>rfl
    case c1=>exact q1z Y.o (q1c _ _)
    case c2=>simp[go_sem]
    case c3=>omega
    case c4=>
     have:=E.o.bl.size
     simp;omega
    intro A4 c4 w4 N D
    have HN:Hid (y3p qs w (i+1) (.slice A4 (i+1) c4) w4):=by
     have hz:=D.size;rw[World.size_alloc]at hz;refine⟨by omega,⟨_,N,fun j hj hji=>?_⟩,E.o.bl.trans ⟨D.os,D.tape,D.output,by omega,fun x hx=>?_⟩⟩
     ·have hl:=Y.o.1;rw[Nat.mul_one]at hl;by_cases e:j<i
      ·obtain⟨A,c,V,q2⟩:=L.o j hj e;exact⟨A,c,by rw[List.getElem?_append_left (by omega)];exact V,q2⟩
      ·have u:j=i:=by omega
       subst u;exact⟨d,q,by rw[List.getElem?_append_right (by omega),hl];simp,p.o⟩
     ·have Ae:=E.o.bl.size;have V:=D.block x (by rw[World.size_alloc];omega) (fun e=>by have:=v7g Y.o e.symm;omega);exact V.trans ((q1c wr _).block x (by omega))
    clear N D Y L E;go_wp2;refine⟨⟨i+1,A4,c4,rfl,by go_num,HN.o⟩,?_⟩;simp[intOf];omega
  ·have s:¬(i:Int)<(np:Int):=by omega
   have r:i=np:=by omega
   subst r;have E:Hid (y3p qs w i (.slice Z i a) wr):=H;clear H;go_wp2;go_ret;obtain⟨hs,C,B⟩:=E.o.row;obtain⟨V,q2⟩:=j7j C;refine⟨⟨Z,a,rfl,fun j hj=>?_,V⟩,E.o.bl⟩;obtain⟨A,c,r1,r2,r3⟩:=B j hj (by omega);obtain⟨g,e,hg,hc⟩:=q2 j _ (by omega) r1;exact⟨g,0,A,c,e,hg,by rw[Nat.zero_add];exact hc,r2,r3.W E.o.bl⟩
end Go.Proofs.YtelcnplcpboonaaGreatDoor
namespace Go.Proofs.YtelcnplcpboonaaGreatDoor
open Go Go.RowKit
set_option maxRecDepth 100000
set_option maxHeartbeats 2000000
inductive z1b (M d:Nat) (σ:Ss) (k:Kd) (K:Nat) (w:World):Ending->World->Prop where
 | ok {ans τ w'} (h:LnR σ k ans τ) (hs:SeM w' M d τ) (hl:ans.length<=100000000) (ht:τ.tx.length<=σ.tx.length+K) (hx:Ex (q9x M d) w w'):z1b M d σ k K w (.returned (.string (wbS ans))) w'
 | bad {ans τ w'} (h:LnR σ k ans τ) (hs:SeM w' M d τ) (hl:ans.length<=100000000) (ht:τ.tx.length<=σ.tx.length+K) (hx:Ex (q9x M d) w w'):z1b M d σ k K w (.panicked [j9z ans]) w'
theorem k4q(l:ByteArray)(k:Nat):btL (l.extract 0 k)=(btL l).take k:=by
 show(l.extract 0 k).data.toList=l.data.toList.take k
 rw[Lib.extract_eq];simp
theorem v1d(l:ByteArray)(h:0<l.size)(h0:l[0]=43)(w:World):Calls prog 41 #[.string l,.string ⟨#[43]⟩] w fun e w'=>e=.returned (.tuple #[.string (l.extract 1 l.size),.bool true])/\w=w':=by
 refine k4y l ⟨#[43]⟩ h ?_ w
 have e:btL (l.extract 0 1)=[43]:=by
  rw[k4q];have A:0<(btL l).length:=by rw[q0b];exact h
  rw[List.take_succ_eq_append_getElem A];show []++[l[0]]=[43];rw[h0];rfl
 rw[ByteArray.toList_eq ⟨#[43]⟩];exact j3f e
theorem q3c(l:ByteArray)(h:(btL l).head?≠some 43)(w:World):Calls prog 41 #[.string l,.string ⟨#[43]⟩] w fun e w'=>e=.returned (.tuple #[.string l,.bool false])/\w=w':=by
 refine j2r l ⟨#[43]⟩ ?_ w;rcases Nat.eq_zero_or_pos l.size with A|A
 ·exact .inl (by rw[A];decide)
 ·refine .inr ⟨A,?_⟩;rw[ByteArray.toList_eq ⟨#[43]⟩];refine z0s (u:=[43]) fun e=>h ?_
  have B:(btL l).take 1=[43]:=(k4q l 1).symm.trans e
  have:=congrArg List.head? B
  rw[List.head?_take]at this;simpa using this
theorem v1e(l:ByteArray)(h:(btL l).take 5=z4v)(w:World):Calls prog 41 #[.string l,.string ⟨#[119,105,100,101,32]⟩] w fun e w'=>e=.returned (.tuple #[.string (l.extract 5 l.size),.bool true])/\w=w':=by
 have A:5<=l.size:=by
  have:=congrArg List.length h
  rw[List.length_take,q0b,show z4v.length=5 from rfl]at this;omega
 refine k4y l ⟨#[119,105,100,101,32]⟩ A ?_ w;rw[ByteArray.toList_eq ⟨#[119,105,100,101,32]⟩];exact j3f ((k4q l 5).trans h)
theorem q4f(l:ByteArray)(h:(btL l).take 5≠z4v)(w:World):Calls prog 41 #[.string l,.string ⟨#[119,105,100,101,32]⟩] w fun e w'=>e=.returned (.tuple #[.string l,.bool false])/\w=w':=by
 refine j2r l ⟨#[119,105,100,101,32]⟩ ?_ w;rcases Nat.lt_or_ge l.size 5 with A|A
 ·exact .inl A
 ·refine .inr ⟨A,?_⟩;rw[ByteArray.toList_eq ⟨#[119,105,100,101,32]⟩];exact z0s (u:=z4v) fun e=>h ((k4q l 5).symm.trans e)
theorem k8j{σ:Ss}(l:ByteArray)(hl:l.size<=3000)(h:0<l.size)(h0:l[0]=43)(M d:Nat)(w:World)(hS:SeM w M d σ)(ht:σ.tx.length<=1000000):
  Calls prog 26 #[.pointer (some ⟨M,0,none⟩),.string l] w fun e w'=>z1b M d σ (kdL (btL l)) l.size w e w':=by
 have H:Hid (kdL (btL l)=.add (btL l).tail):=v2c h h0
 have B:Hid (wbS σ.tx++(l.extract 1 l.size++(⟨#[10]⟩:ByteArray))=wbS (σ.tx++((btL l).tail++[10]))):=by
  show _=_;have K:(⟨#[10]⟩:ByteArray)=wbS [10]:=rfl;rw[v1m,K,q2f,q2f]
 have A:Hid (SeM (w.setCell ⟨M,1,none⟩ (.string (wbS (σ.tx++((btL l).tail++[10]))))) M d ⟨σ.tx++((btL l).tail++[10]),σ.ps,σ.wd⟩):=hS.text _;have E:Hid (Calls prog 41 #[.string l,.string ⟨#[43]⟩] w fun e w'=>e=.returned (.tuple #[.string (l.extract 1 l.size),.bool true])/\w=w'):=v1d l h h0 w;have J:=hS.cell1;have L:=hS.frozen 1
 have I:Hid ((btL l).tail.length+1=l.size):=by
  show _=_;rw[List.length_tail,q0b];omega
 have D:(wbS σ.tx).size<=1000000:=by rw[q4w];exact ht
 have C:(l.extract 1 l.size).size<=3000:=by rw[ByteArray.size_extract];omega
 clear hS h0 h ht;rw[<-B.o]at A;generalize wbS σ.tx=T at J D B A;generalize l.extract 1 l.size=X at E C B A;have O:¬9223372036854775807<X.size+1:=by omega
 have P:¬9223372036854775807<T.size+(X.size+1):=by omega
 go_in;go_wp2_with fail;refine E.o.mono ?_;rintro e Q⟨rfl,rfl⟩;go_wp2;go_ret;have G:=LnR.add (σ:=σ) (btL l).tail;rw[<-H.o]at G;refine z1b.ok (ans:=okA) G A.o (by decide) ?_ (Ex.at (S:=q9x M d) (p:=⟨M,1,none⟩) (.inl rfl) _);have N:=I.o;simp only[List.length_append,List.length_singleton];omega
theorem k2p{σ:Ss}(M d:Nat)(w:World)(hS:SeM w M d σ):
  Calls prog 26 #[.pointer (some ⟨M,0,none⟩),.string ⟨#[100,114,111,112]⟩] w fun e w'=>z1b M d σ .drop 0 w e w':=by
 have C:Hid (SeM (w.setCell ⟨M,1,none⟩ (.string ⟨#[]⟩)) M d ⟨[],σ.ps,σ.wd⟩):=hS.text [];have A:Hid (Calls prog 41 #[.string ⟨#[100,114,111,112]⟩,.string ⟨#[43]⟩] w fun e w'=>e=.returned (.tuple #[.string ⟨#[100,114,111,112]⟩,.bool false])/\w=w'):=q3c _ (by decide) w;have B:Hid (Calls prog 41 #[.string ⟨#[100,114,111,112]⟩,.string ⟨#[119,105,100,101,32]⟩] w fun e w'=>e=.returned (.tuple #[.string ⟨#[100,114,111,112]⟩,.bool false])/\w=w'):=q4f _ (by decide) w;have D:=hS.cell1;have G:=hS.frozen 1;clear hS;generalize wbS σ.tx=T at D;go_in;go_wp2_with fail;refine A.o.mono ?_;rintro e E⟨rfl,rfl⟩;go_wp2_with fail;refine B.o.mono ?_;rintro e E⟨rfl,rfl⟩;go_wp2;go_ret;exact z1b.ok (ans:=okA) .drop C.o (by decide) (Nat.zero_le _) (Ex.at (S:=q9x M d) (p:=⟨M,1,none⟩) (.inl rfl) _)
theorem k8k{σ:Ss}(l:ByteArray)(hk:kdL (btL l)=.bad)(M d:Nat)(w:World)(hS:SeM w M d σ):
  Calls prog 26 #[.pointer (some ⟨M,0,none⟩),.string l] w fun e w'=>z1b M d σ .bad 0 w e w':=by
 obtain⟨C,D,E,G,H,I⟩:=v9u hk;have L:(l.toList==[115,101,116])=false:=z0s E;have N:(l.toList==[116,101,120,116])=false:=z0s G;have O:(l.toList==[108,111,111,107])=false:=z0s H;have P:(l.toList==[100,114,111,112])=false:=z0s I;have A:Hid (Calls prog 41 #[.string l,.string ⟨#[43]⟩] w fun e w'=>e=.returned (.tuple #[.string l,.bool false])/\w=w'):=q3c l C w;have B:Hid (Calls prog 41 #[.string l,.string ⟨#[119,105,100,101,32]⟩] w fun e w'=>e=.returned (.tuple #[.string l,.bool false])/\w=w'):=q4f l D w;have J:Hid (SeM w M d σ):=hS;clear hS hk C D E G H I;go_in;go_wp2_with fail;refine A.o.mono ?_;rintro e K⟨rfl,rfl⟩;go_wp2_with fail;refine B.o.mono ?_;rintro e K⟨rfl,rfl⟩;go_wp2;exact⟨rfl,z1b.bad (ans:=y3g) .bad J.o (by decide) Zl (Ex.refl _ _)⟩
theorem SeM.lines{w:World}{M d:Nat}{σ:Ss}(h:SeM w M d σ):(q2j σ.wd σ.ps).length<=40000020:=by
 obtain⟨_,_,_,q⟩:=h.sh;have A:=k2m σ.wd σ.ps q.ok (z6w σ.ps q.pg);have B:=Nat.mul_le_mul_right 2000001 q.len;omega
theorem k2r{σ:Ss}(M d:Nat)(w:World)(hS:SeM w M d σ):
  Calls prog 26 #[.pointer (some ⟨M,0,none⟩),.string ⟨#[116,101,120,116]⟩] w fun e w'=>z1b M d σ .text 0 w e w':=by
 have Q:=hS.lines;have C:Hid (Calls prog 41 #[.string ⟨#[116,101,120,116]⟩,.string ⟨#[43]⟩] w fun e w'=>e=.returned (.tuple #[.string ⟨#[116,101,120,116]⟩,.bool false])/\w=w'):=q3c _ (by decide) w;have E:Hid (Calls prog 41 #[.string ⟨#[116,101,120,116]⟩,.string ⟨#[119,105,100,101,32]⟩] w fun e w'=>e=.returned (.tuple #[.string ⟨#[116,101,120,116]⟩,.bool false])/\w=w'):=q4f _ (by decide) w;have H:Hid (Calls prog 47 #[.pointer (some ⟨M,0,none⟩)] w fun e w'=>e=.returned (.string (wbS (brS (q2j σ.wd σ.ps))))/\Below w w w'):=k9n M d w hS (by omega);have P:Hid (SeM w M d σ):=hS
 have B:(brS (q2j σ.wd σ.ps)).length<=90000000:=by
  have U:=k1y (rl (q2j σ.wd σ.ps));have V:=j5i (q2j σ.wd σ.ps);have e:brS (q2j σ.wd σ.ps)=brL (rl (q2j σ.wd σ.ps)):=rfl;rw[e];omega
 have G:Hid (wbS (brS (q2j σ.wd σ.ps))++(⟨#[111,107,10]⟩:ByteArray)=wbS (brS (q2j σ.wd σ.ps)++okA)):=by
  show _=_;rw[show(⟨#[111,107,10]⟩:ByteArray)=wbS okA from rfl,q2f]
 have I:Hid ((brS (q2j σ.wd σ.ps)++okA).length<=100000000):=by
  show _<=_;rw[List.length_append,show okA.length=3 from rfl];omega
 have R:(wbS (brS (q2j σ.wd σ.ps))).size<=90000000:=by rw[q4w];exact B
 have J:Hid (LnR σ .text (brS (q2j σ.wd σ.ps)++okA) σ):=.text;clear hS Q B;generalize brS (q2j σ.wd σ.ps)++okA=A at G I J;generalize wbS (brS (q2j σ.wd σ.ps))=D at H G R;go_in;go_wp2_with fail;refine C.o.mono ?_;rintro e O⟨rfl,rfl⟩;go_wp2_with fail;refine E.o.mono ?_;rintro e O⟨rfl,rfl⟩;go_wp2_with fail;refine H.o.mono ?_;rintro e O⟨rfl,L⟩;go_wp2;go_ret;have N:=z1b.ok (K:=0) J.o (P.o.W L) I.o Zl (Ex.of (S:=q9x M d) L);rw[<-G.o]at N;exact N
end Go.Proofs.YtelcnplcpboonaaGreatDoor
namespace Go.Proofs.YtelcnplcpboonaaGreatDoor
open Go Go.RowKit Go.Maps
set_option maxRecDepth 100000
set_option maxHeartbeats 4000000
inductive y8j (n:Nat) (wd:Int):Nat->Int->Prop where
 | no (h:wd<10\/100<wd):y8j n wd n 1
 | ok {m:Nat} (h:wd=(m:Int)) (h1:10<=m) (h2:m<=100):y8j n wd m 0
theorem k7w{T:TypeId}{qs:List (List Td)}{n b:Nat}(w:World)(hS:q4l T w b qs n):
  Calls prog 49 #[.pointer (some ⟨b,0,none⟩)] w fun e w'=>e=.returned (.int .i64 (n:Int))/\w=w':=by
 obtain⟨A,B,m,C,_⟩:=hS.cell;clear hS;go_in;go_wp2;go_ret;exact⟨rfl,rfl⟩
theorem z9d{T:TypeId}(wd:Int)(B:List (List Td))(n d:Nat)(w:World)(hS:q4l T w d B n)(ht:q7n w):
  Calls prog 43 #[.pointer (some ⟨d,0,none⟩),.int .i64 wd] w fun e w'=>∃m f,e=.returned (q0s f)/\y8j n wd m f/\q4l T w' d B m/\q0j w d w w':=by
 have y:Hid (q4l T w d B n):=hS;have HT:Hid (q7n w):=ht;clear ht;by_cases h:wd<10\/100<wd
 ·have Z:Hid (Calls prog 38 #[.int .i64 wd] w fun e w'=>e=.returned (.iface 50 (.int .i64 1))/\w=w'):=y2i h w;have u:Hid (wd<10\/100<wd):=h;clear h hS;go_in;go_wp2_with fail;refine Z.o.mono ?_;rintro e w1⟨rfl,rfl⟩;go_wp2;go_ret;exact⟨n,1,rfl,.no u.o,y.o,q0j.refl _ _ _⟩
 ·obtain⟨m,rfl⟩:∃m:Nat,wd=(m:Int):=⟨wd.toNat,by omega⟩;have G:10<=m:=by omega
  have H:m<=100:=by omega
  obtain⟨_,_,_,C⟩:=hS;have q:Hid (∀t∈B,q0c t=0):=C.ok;have p:Hid (∀t∈B,z4i t):=C.ni;have l:Hid (fmE B=0):=z6w B C.pg;have V:=C.len;have Z:Hid (Calls prog 38 #[.int .i64 (m:Int)] w fun e w'=>e=.returned .nilIface/\w=w'):=k6q G H w;have E:Hid (q4l T (w.alloc (.cells #[.int .i64 (m:Int),.slice none 0 0,.map none] 91)) d B n):=y.o.W (q1c w _);have Q:Hid (Calls prog 60 #[.pointer (some ⟨d,0,none⟩)] (w.alloc (.cells #[.int .i64 (m:Int),.slice none 0 0,.map none] 91)) fun e w'=>(∃A c,e=.returned (.slice A B.length c)/\Prg w' A B/\B.length<=c)/\Below (w.alloc (.cells #[.int .i64 (m:Int),.slice none 0 0,.map none] 91)).heap.size (w.alloc (.cells #[.int .i64 (m:Int),.slice none 0 0,.map none] 91)) w'):=z9c B n d _ E.o;have N:Hid (q4l 91 (w.alloc (.cells #[.int .i64 (m:Int),.slice none 0 0,.map none] 91)) w.heap.size [] m):=q4l.fresh _ w G H;have j:Hid (Below w w (w.alloc (.cells #[.int .i64 (m:Int),.slice none 0 0,.map none] 91))):=q1c w _;clear C h;go_in;go_wp2_with fail;refine Z.o.mono ?_;rintro e w1⟨rfl,rfl⟩;go_wp2_with fail;refine Q.o.mono ?_;rintro e J⟨⟨x,z,rfl,U,_⟩,a⟩;have r:Hid (q4l T J d B n):=E.o.W a;have O:Hid (q4l 91 J w.heap.size [] m):=N.o.W a;have K:Hid (Below w w J):=q8i Zb Zl a;have k:Hid (Calls prog 59 #[.pointer (some ⟨w,0,none⟩),.slice x B.length z] J fun e w'=>j0t B [] m J e w'):=z5g [] B m w.heap.size x z J O.o U q.o p.o V (HT.o.W K.o);clear a U Q N E j Z;generalize X:B.length=no at k⊢;have P:Hid (B.length=no):=X;clear X;go_wp2_with fail;refine k.o.mono ?_;rintro e D⟨v,h3⟩;have s:Hid (q4l T D d B n):=r.o.W v;have L:Hid (Below w w D):=q0g K.o Zl v;clear v;rcases h3 with⟨_,ov,mv,rfl,S⟩|⟨hz,rfl⟩
  ·obtain⟨Y,g,rfl,_⟩:=S.ord
   obtain⟨I,rfl⟩:∃I,mv=.map I:=by
    rcases S.kn with⟨rfl,_⟩|⟨b,rfl,_⟩
    ·exact⟨_,rfl⟩
    ·exact⟨_,rfl⟩
   rw[P.o]at S;have R:Hid (q4l T (D.alloc (.cells #[.int .i64 (m:Int),.slice Y no g,.map I] 91)) d B n):=s.o.W (q1c D _);have o:Hid (ShM (D.alloc (.cells #[.int .i64 (m:Int),.slice Y no g,.map I] 91)) (.slice Y no g) (.map I) B m):=S.W (q1c D _);have M:Hid (Below w w (D.alloc (.cells #[.int .i64 (m:Int),.slice Y no g,.map I] 91))):=L.o.trans ((q1c D _).mono L.o.size);obtain⟨oA,oc,om,s0,s1,s2,i,_,_⟩:=R.o.cell;have Aa:=i 0;have Ab:=i 1;have Ac:=i 2;rw[P.o];clear S k i;go_wp2;go_ret;obtain⟨q1,q2⟩:=R.o.put o.o;exact⟨m,0,rfl,.ok rfl G H,q1,(q0j.of M.o).trans (q2.mono M.o.size)⟩
  ·exact absurd l.o hz
end Go.Proofs.YtelcnplcpboonaaGreatDoor
namespace Go.Proofs.YtelcnplcpboonaaGreatDoor
open Go Go.RowKit
set_option maxRecDepth 100000
set_option maxHeartbeats 4000000
theorem y2c{x:List UInt8}(h:k8x x=true):q4m x<=9999:=(k5v h).2.2.2.2
def RtB(B:Nat)(w:World):Prop:=∀w',Below B w w'->Rtb w'
theorem RtB.at{B:Nat}{w:World}(h:RtB B w):Rtb w:=h w Zb
theorem RtB.to{B:Nat}{w w':World}(h:RtB B w)(hb:Below B w w'):RtB B w':=fun w2 h2=>h w2 (hb.trans h2)
theorem RtB.ex{B M d:Nat}{w w':World}(h:RtB B w)(hM:B<=M)(hd:B<=d)(hB:B<=w.heap.size)(hx:Ex (q9x M d) w w'):RtB B w':=h.to (hx.W (by rintro k (rfl|rfl)<;>assumption) hB)
theorem k2s{σ:Ss}(l:ByteArray)(hl:l.size<=3000)(h:(btL l).take 5=z4v)(B M d:Nat)(hM:B<=M)(hd:B<=d)(w:World)(hS:SeM w M d σ)(N:RtB B w):
  Calls prog 26 #[.pointer (some ⟨M,0,none⟩),.string l] w fun e w'=>z1b M d σ (kdL (btL l)) 0 w e w':=by
 have r:(btL l).head?≠some 43:=by
  have:=congrArg List.head? h
  rw[List.head?_take]at this;have e:(btL l).head?=some 119:=by simpa[z4v]using this
  rw[e];decide
 have I:Hid (Calls prog 41 #[.string l,.string ⟨#[43]⟩] w fun e w'=>e=.returned (.tuple #[.string l,.bool false])/\w=w'):=q3c l r w;have H:Hid (Calls prog 41 #[.string l,.string ⟨#[119,105,100,101,32]⟩] w fun e w'=>e=.returned (.tuple #[.string (l.extract 5 l.size),.bool true])/\w=w'):=v1e l h w;have i:Hid (kdL (btL l)=.wide ((btL l).drop 5)):=v9x r h;have p:btL (l.extract 5 l.size)=(btL l).drop 5:=v1l l 5;have Y:(l.extract 5 l.size).size<=3000:=by rw[ByteArray.size_extract];omega
 generalize l.extract 5 l.size=X at H p Y;rw[<-p]at i;rw[i.o];have a:Hid (SeM w M d σ):=hS;have b:Hid (Rtb w):=N.at;have s:Hid (∀W,Ex (q9x M d) w W->Rtb W):=fun W O=>(N.ex hM hd (by have:=hS.lt;omega) O).at
 have J:Hid (∀W,Below w w W->SeM W M d σ):=fun W hb=>a.o.W hb
 have v:=hS.cell0;have x:w.drew.cell? ⟨M,0,none⟩=some (.pointer (some ⟨d,0,none⟩)):=v;clear hS N h r p i hM hd;cases L:k8x (btL X)with
 | false=>
  have P:Hid (LnR σ (.wide (btL X)) y3g σ):=.wideN L;have S:Hid (∀W,Below w w W->Calls prog 44 #[.string X] W fun e w'=>e=.panicked [j9z y3g]/\Below w w w'):=fun W hb=>(k9l X L Y W (b.o.W hb)).mono fun e w' q=>⟨q.1,q0g hb Zl q.2⟩
  clear L;go_in;go_wp2_with fail;refine I.o.mono ?_;rintro e G⟨rfl,rfl⟩;go_wp2_with fail;refine H.o.mono ?_;rintro e G⟨rfl,rfl⟩;go_wp2_with fail
  go_region_dies
  all_goals
   refine(S.o _ (by first|exact Below.refl _ _|exact Zb.drew)).mono ?_;rintro e G⟨rfl,D⟩;exact⟨rfl,z1b.bad P.o (a.o.W D) (by decide) Zl (Ex.of D)⟩
 | true=>
  have y:=y2c L;have S:Hid (∀W,Below w w W->Calls prog 44 #[.string X] W fun e w'=>e=.returned (.int .i64 (q4m (btL X):Nat))/\Below w w w'):=fun W hb=>(k9m X L W (b.o.W hb)).mono fun e w' q=>⟨q.1,q0g hb Zl q.2⟩
  have Q:Hid (k8x (btL X)=true):=L;clear L;by_cases c:10<=q4m (btL X)/\q4m (btL X)<=100
  ·have P:Hid (LnR σ (.wide (btL X)) okA ⟨σ.tx,σ.ps,q4m (btL X)⟩):=.wide Q.o c
   have U:Hid (∀W,Below w w W->Calls prog 43 #[.pointer (some ⟨d,0,none⟩),.int .i64 (q4m (btL X):Nat)] W fun e w'=>e=.returned .nilIface/\SeM w' M d ⟨σ.tx,σ.ps,q4m (btL X)⟩/\Ex (q9x M d) w w'):=fun W hb=>by
    have Z:=a.o.W hb;refine(z9d _ _ _ _ W Z.sh (b.o.W hb).tabs).mono ?_;rintro e w'⟨m,f,rfl,o,n,O⟩;cases o with
    | no q=>omega
    | ok q _ _=>
     obtain rfl:q4m (btL X)=m:=by omega
     exact⟨rfl,Z.desk O n,(Ex.of hb).trans O.ex⟩
   have R:Hid (∀W,Calls prog 42 #[.int .i64 0,.nilIface] W fun e w'=>e=.returned (.tuple #[])/\W=w'):=fun W=>k6u 0 W
   generalize q4m (btL X)=m at *;clear c;go_in;go_wp2_with fail;refine I.o.mono ?_;rintro e G⟨rfl,rfl⟩;go_wp2_with fail;refine H.o.mono ?_;rintro e G⟨rfl,rfl⟩;go_wp2_with fail
   go_region_with (first
    | (go_at_call 44;refine(S.o _ ?_).mono ?_;exact Zb.drew;rintro e G⟨rfl,D⟩;have C:Hid (Below w w G):=D;clear D;have t:=(J.o _ C.o).cell0)
    | (go_at_call 43;refine(U.o _ ?_).mono ?_;exact C.o;rintro e g⟨rfl,E,A⟩;have j:Hid (SeM g M d ⟨σ.tx,σ.ps,m⟩):=E;have k:Hid (Ex (q9x M d) w g):=A;clear E A)
    | (go_at_call 42;refine(R.o _).mono ?_;rintro e u⟨rfl,rfl⟩))
   all_goals
    go_wp2;go_ret;exact z1b.ok (ans:=okA) P.o j.o (by decide) Zl k.o
  ·have P:Hid (LnR σ (.wide (btL X)) (erA 0 1) σ):=.wideR Q.o c
   have U:Hid (∀W,Below w w W->Calls prog 43 #[.pointer (some ⟨d,0,none⟩),.int .i64 (q4m (btL X):Nat)] W fun e w'=>e=.returned (q0s 1)/\SeM w' M d σ/\Ex (q9x M d) w w'):=fun W hb=>by
    have Z:=a.o.W hb;refine(z9d _ _ _ _ W Z.sh (b.o.W hb).tabs).mono ?_;rintro e w'⟨m,f,rfl,o,n,O⟩;cases o with
    | no q=>exact⟨rfl,Z.desk O n,(Ex.of hb).trans O.ex⟩
    | ok q _ _=>omega
   have R:Hid (∀W,Rtb W->Calls prog 42 #[.int .i64 0,q0s 1] W fun e w'=>e=.panicked [j9z (erA 0 1)]/\Below W W w'):=fun W hr=>k6t (.inl rfl) 0 (by decide) W hr
   generalize q4m (btL X)=m at *;generalize q0s 1=EV at U R;clear c;go_in;go_wp2_with fail;refine I.o.mono ?_;rintro e G⟨rfl,rfl⟩;go_wp2_with fail;refine H.o.mono ?_;rintro e G⟨rfl,rfl⟩;go_wp2_with fail
   go_region_dies
   ·refine(S.o _ (by first|exact Below.refl _ _|exact Zb.drew)).mono ?_;rintro e G⟨rfl,D⟩;have C:Hid (Below w w G):=D;have t:=(J.o _ D).cell0;clear D;rename_i K hK;refine hK _ _ ?_;clear hK K;refine wpAny_ready (rs:=[6]) (by kernel_rfl) (by simp) ?_;refine AllReady.cons rfl (fun K hK=>?_) AllReady.nil
    go_simp
    refine(U.o _ C.o).mono ?_;rintro e g⟨rfl,E,A⟩;refine hK _ _ ?_;clear hK K;refine wpAny_ready (rs:=[7]) (by kernel_rfl) (by simp) ?_;refine AllReady.cons rfl (fun K hK=>?_) AllReady.nil
    go_simp
    refine(R.o _ (s.o _ A)).mono ?_;rintro e u⟨rfl,V⟩;exact⟨rfl,z1b.bad P.o (E.W V) (by decide) Zl (A.trans (Ex.of V))⟩
   ·refine(S.o _ (by first|exact Below.refl _ _|exact Zb.drew)).mono ?_;rintro e G⟨rfl,D⟩;have C:Hid (Below w w G):=D;have t:=(J.o _ D).cell0;clear D;rename_i K hK;refine hK _ _ ?_;clear hK K;refine wpAny_ready (rs:=[3]) (by kernel_rfl) (by simp) ?_;refine AllReady.cons rfl (fun K hK=>?_) AllReady.nil
    go_simp
    refine hK _ _ ?_;clear hK K;refine wpAny_ready (rs:=[6]) (by kernel_rfl) (by simp) ?_;refine AllReady.cons rfl (fun K hK=>?_) AllReady.nil
    go_simp
    refine(U.o _ C.o).mono ?_;rintro e g⟨rfl,E,A⟩;refine hK _ _ ?_;clear hK K;refine wpAny_ready (rs:=[7]) (by kernel_rfl) (by simp) ?_;refine AllReady.cons rfl (fun K hK=>?_) AllReady.nil
    go_simp
    refine(R.o _ (s.o _ A)).mono ?_;rintro e u⟨rfl,V⟩;exact⟨rfl,z1b.bad P.o (E.W V) (by decide) Zl (A.trans (Ex.of V))⟩
theorem j5g(n:Nat):lkA (n:Int)=q1u n++[10]:=by
 rw[lkA,if_neg (by omega),Int.toNat_natCast]
def y9q(s:List UInt8):Prop:=∃ps,q6l (wbS s) ps 0 0/\fmE ps=0
theorem v6e{s:List UInt8}{ps:List (List Td)}{k f:Int}(hs:s.length<=999999)(h:q6l (wbS s) ps k f)(hf:f≠0):Ern f/\∃n:Nat,k=(n:Int)/\n<=999999:=by
 obtain⟨A,n,B,C⟩:=j6q h hf;rw[q4w]at C;exact⟨A,n,B,by omega⟩
theorem v6j{ps:List (List Td)}(h:fmE ps≠0):Ern (fmE ps):=by
 rw[(v6i ps).resolve_left h];exact .inr (.inr (.inl rfl))
theorem j3g{k:Nat}(hk:k<=999999)(f:Int):(erA k f).length<=100000000:=by
 have A:=j3h f;have B:=q3f 5 k (by omega);unfold erA;rw[Int.toNat_natCast];simp only[List.length_append,List.length_singleton]
 split
 ·rw[List.length_cons];omega
 ·rw[List.length_nil];omega
theorem k8l{σ:Ss}(B M d:Nat)(hM:B<=M)(hd:B<=d)(w:World)(hS:SeM w M d σ)(I:σ.tx.length<=999999)(Z:RtB B w):
  Calls prog 26 #[.pointer (some ⟨M,0,none⟩),.string ⟨#[115,101,116]⟩] w fun e w'=>z1b M d σ .set 0 w e w':=by
 have O:Hid (Calls prog 41 #[.string ⟨#[115,101,116]⟩,.string ⟨#[43]⟩] w fun e w'=>e=.returned (.tuple #[.string ⟨#[115,101,116]⟩,.bool false])/\w=w'):=q3c _ (by decide) w;have P:Hid (Calls prog 41 #[.string ⟨#[115,101,116]⟩,.string ⟨#[119,105,100,101,32]⟩] w fun e w'=>e=.returned (.tuple #[.string ⟨#[115,101,116]⟩,.bool false])/\w=w'):=q4f _ (by decide) w;have a:Hid (∀W,Ex (q9x M d) w W->Rtb W):=fun W hx=>(Z.ex hM hd (by have:=hS.lt;omega) hx).at
 have HS:Hid (SeM w M d σ):=hS;have z:=hS.cell0;have j:=hS.cell1;have d0:w.drew.cell? ⟨M,0,none⟩=some (.pointer (some ⟨d,0,none⟩)):=z;have t:w.drew.cell? ⟨M,1,none⟩=some (.string (wbS σ.tx)):=j;have R:Hid (SeM w.drew M d σ):=hS.W Zb.drew;have U:Hid (Ex (q9x M d) w w.drew):=Ex.of Zb.drew;clear hS Z hM hd;by_cases o:y9q σ.tx
 ·obtain⟨D,L,p⟩:=o;obtain⟨_,_,Y,_⟩:=q9c L;have m:=v6l D σ.ps
  have r:Hid (LnR σ .set (lkA (frP D σ.ps:Nat)) ⟨σ.tx,D,σ.wd⟩):=by
   show LnR _ _ _ _;rw[j5g];exact .set L p
  have J:Hid (∀W,SeM W M d σ->Ex (q9x M d) w W->Calls prog 46 #[.pointer (some ⟨d,0,none⟩),.string (wbS σ.tx)] W fun e w'=>e=.returned (.tuple #[.int .i64 (frP D σ.ps:Nat),.int .i64 0,.nilIface])/\SeM w' M d ⟨σ.tx,D,σ.wd⟩/\Ex (q9x M d) w w'):=fun W hs hx=>by
   refine(k5d _ _ _ _ W hs.sh (a.o W hx).tabs).mono ?_;rintro e w'⟨qs,x,k,f,rfl,l,b,C⟩;cases l with
   | bad h1 h2=>exact absurd (q0p h1 L).2.2 h2
   | full h1 h2=>
    obtain⟨rfl,_⟩:=q0p h1 L;exact absurd p h2
   | ok h1 _=>
    obtain⟨rfl,_⟩:=q0p h1 L;exact⟨rfl,hs.desk C b,hx.trans C.ex⟩
  have c:Hid (∀W,Ex (q9x M d) w W->Calls prog 45 #[.int .i64 (frP D σ.ps:Nat),.int .i64 0,.nilIface] W fun e w'=>e=.returned (.string (wbS (lkA (frP D σ.ps:Nat))))/\Below W W w'):=fun W hx=>k0l _ _ (by omega) (by omega) W (a.o W hx)
  have G:(lkA (frP D σ.ps:Nat)).length<=100000000:=by
   have:=q3f 5 (frP D σ.ps) (by omega)
   rw[j5g,List.length_append,List.length_singleton];omega
  have Q:Hid ((lkA (frP D σ.ps:Nat)).length<=100000000):=G;clear L p Y m G I;generalize lkA (frP D σ.ps:Nat)=A at r c Q
  generalize(frP D σ.ps:Nat)=x at J c
  generalize wbS σ.tx=T at j t J;go_in;go_wp2_with fail;refine O.o.mono ?_;rintro e q⟨rfl,rfl⟩;go_wp2_with fail;refine P.o.mono ?_;rintro e q⟨rfl,rfl⟩;go_wp2_with fail
  go_region_with (first
   | (go_at_call 46;refine(J.o _ ?_ ?_).mono ?_;exact R.o;exact U.o;rintro e E⟨rfl,H,C⟩;have g:Hid (SeM E M d ⟨σ.tx,D,σ.wd⟩):=H;have S:Hid (Ex (q9x M d) w E):=C;clear H C)
   | (go_at_call 45;refine(c.o _ ?_).mono ?_;exact S.o;rintro e u⟨rfl,V⟩;have N:Hid (Below E E u):=V;clear V))
  all_goals
   go_wp2;go_ret;exact z1b.ok r.o (g.o.W N.o) Q.o Zl (S.o.trans (Ex.of N.o))
 ·have J:Hid (∀W,SeM W M d σ->Ex (q9x M d) w W->Calls prog 46 #[.pointer (some ⟨d,0,none⟩),.string (wbS σ.tx)] W fun e w'=>∃(k:Nat)(f:Int),e=.returned (.tuple #[.int .i64 0,.int .i64 (k:Int),q0s f])/\(Ern f/\k<=999999/\LnR σ .set (erA k f) σ)/\SeM w' M d σ/\Ex (q9x M d) w w'):=fun W hs hx=>by
   refine(k5d _ _ _ _ W hs.sh (a.o W hx).tabs).mono ?_;rintro e w'⟨qs,x,k,f,rfl,l,b,C⟩;cases l with
   | bad h1 h2=>
    obtain⟨h3,n,rfl,h4⟩:=v6e I h1 h2;exact⟨n,f,rfl,⟨h3,h4,.setE h1 h2⟩,hs.desk C b,hx.trans C.ex⟩
   | full h1 h2=>exact⟨0,_,rfl,⟨v6j h2,by decide,.setF h1 h2⟩,hs.desk C b,hx.trans C.ex⟩
   | ok h1 h2=>exact absurd ⟨_,h1,h2⟩ o
  clear o I;generalize wbS σ.tx=T at j t J;go_in;go_wp2_with fail;refine O.o.mono ?_;rintro e q⟨rfl,rfl⟩;go_wp2_with fail;refine P.o.mono ?_;rintro e q⟨rfl,rfl⟩;go_wp2_with fail
  go_region_dies
  all_goals
   refine(J.o _ ?_ ?_).mono ?_
   ·exact R.o
   ·exact U.o
   rintro e E⟨k,f,rfl,X,H,C⟩;have s:Hid (Calls prog 45 #[.int .i64 0,.int .i64 (k:Int),q0s f] E fun e w'=>e=.panicked [j9z (erA k f)]/\Below E E w'):=k0k X.1 0 k X.2.1 E (a.o E C);have y:Hid (Ern f/\k<=999999/\LnR σ .set (erA k f) σ):=X;have G:=j3g X.2.1 f;clear X;generalize q0s f=EV at s;rename_i K hK;refine hK _ _ ?_;clear hK K;refine wpAny_take (i:=9) (v:=.int .i64 0) rfl (by kernel_rfl) (by kernel_rfl) (by kernel_rfl) (fun _ _ _ h=>h) (Or.inl ⟨by rfl,(by intro W;go_simp)⟩) ?_;refine wpAny_take (i:=10) (v:=.int .i64 (k:Int)) rfl (by kernel_rfl) (by kernel_rfl) (by kernel_rfl) (fun _ _ _ h=>h) (Or.inl ⟨by rfl,(by intro W;go_simp)⟩) ?_;refine wpAny_take (i:=11) (v:=EV) rfl (by kernel_rfl) (by kernel_rfl) (by kernel_rfl) (fun _ _ _ h=>h) (Or.inl ⟨by rfl,(by intro W;go_simp)⟩) ?_;refine wpAny_ready (rs:=[12]) (by kernel_rfl) (by simp) ?_;refine AllReady.cons rfl (fun K hK=>?_) AllReady.nil
   go_simp
   refine s.o.mono ?_;rintro e u⟨rfl,V⟩;exact⟨rfl,z1b.bad y.o.2.2 (H.W V) G Zl (C.trans (Ex.of V))⟩
end Go.Proofs.YtelcnplcpboonaaGreatDoor
