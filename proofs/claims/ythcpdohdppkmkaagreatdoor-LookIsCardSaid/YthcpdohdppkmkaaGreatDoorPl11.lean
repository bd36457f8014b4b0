import Derived.Test.YthcpdohdppkmkaaGreatDoorPl10
open Go.Proofs.Tryz
namespace Go.Proofs.YthcpdohdppkmkaaGreatDoor
open Go Go.RowKit
set_option maxRecDepth 100000
set_option maxHeartbeats 8000000
theorem k6z(k:Nat){o:Int}(hk:k=0/\o=7\/k=1/\o=8)(tx:ByteArray)(n:Int)(A:List Nd)(tA:List UInt8)(kA:Bool)(hA:z9s A tA kA):z9s (⟨o,tx,n⟩::A) (tA) (kA):=by
 have y:Tag k:=.mk;rcases hk with⟨rfl,rfl⟩|⟨rfl,rfl⟩
 all_goals
  intro B b s ds N a V l k w m L I J j i G hl;generalize M:A++N=r;have HR:Hid (A++N=r):=M;have Aa:Hid (r.length=(A:List Nd).length+N.length):=(show _=_ by rw[<-M,List.length_append]);obtain rfl:ds=⟨↑(sel y (7:Int) 8),tx,n⟩::r:=by rw[m,<-M];rfl
  clear m M;obtain⟨x,ea,c1,c2,c3⟩:=L 0 (by simp);subst ea;simp only[List.length_cons]at j hl⊢;have S:Hid (q1k s w (some ⟨s,x+3,none⟩) r):=L.rest
  have E:Hid (V=1->q1k s w (some ⟨s,x,none⟩) r):=fun h=>by
   have g:=L.slid j;rw[if_pos h]at g;exact g
  have HW:Hid (Ln B b l k w):=i;simp only[Nat.zero_mul,Nat.add_zero,List.getElem_cons_zero]at c1 c2 c3;have Ab:s<w.heap.size:=by omega
  have Ac:(1:Int)<=(r.length:Int)+1:=by omega
  have K:Hid (∀O:Obj,q0v B b w (w.alloc O).drew):=fun O=>q0v.drew ((q0v.refl B b w).alloc G O)
  have HK:Hid (∀O:Obj,Lib.OthersKept 5 (some b) w (w.alloc O).drew):=fun O=>((Lib.OthersKept.refl _ _ w).alloc O).drew
  have C:Hid (s<B/\s≠b):=⟨I,J⟩;clear L i I J;go_in
  go_upto_region 1 with fail
  go_cut [0,1,5,6] (fun t _ p q wx=>k2y B b s w.heap.size ⟨↑(sel y (7:Int) 8),tx,n⟩ r l k w t p q wx)
  case first=>
   go_region
   all_goals (go_wp2_with fail)
   all_goals
    go_meet
    refine⟨rfl,rfl,⟨_,_,rfl,?_,by omega⟩,by simp[go_sem],by simp[go_sem],by simp[go_sem],IsX.drew (IsX.alloc HW.o _),K.o _,HK.o _⟩
    first
     | exact S.o.kept ((K.o _).block s C.o.1 C.o.2)
     | exact(E.o (by assumption)).kept ((K.o _).block s C.o.1 C.o.2)
     | exact(E.o rfl).kept ((K.o _).block s C.o.1 C.o.2)
  case rest=>
   obtain⟨rfl,rfl,⟨a',d,rfl,u,Y⟩,e1,e2,e3,v,D,H⟩:=hcut;dsimp only at e1 e2 e3;have R:Hid (q1k s wc a' r):=u;have U:Hid (Ln B b l k wc):=v;have P:Hid (q0v B b w wc):=D;have Q:Hid (Lib.OthersKept 5 (some b) w wc):=H;have W:B<=wc.heap.size:=Nat.le_trans G D.size;clear u v D H;have z:Hid (z9s A tA kA):=hA;clear hA;go_wp2_with fail;refine(z.o B b s r N _ _ l k _ HR.o.symm R.o C.o.1 C.o.2 Y U.o W (by omega)).mono ?_;rintro e w3⟨⟨a3,f,rfl,n3,Z⟩,h3,X,c⟩;go_wp2;go_ret;exact⟨⟨_,_,rfl,n3,Z⟩,h3,P.o.trans X,Q.o.trans c⟩
theorem y1x(tx:ByteArray)(n:Int)(A C:List Nd)(tA tC:List UInt8)(kA kC:Bool)(hA:z9s A tA kA)(hC:z9s C tC kC):z9s (⟨9,tx,n⟩::(A++C)) (tA) (kA):=by
 intro B b s ds H a u l k w hd X S U hc hW M hl;generalize Y:(A++C)++H=r;have j:Hid ((A++C)++H=r):=Y;have o:Hid (r.length=((A++C):List Nd).length+H.length):=(show _=_ by rw[<-Y,List.length_append]);obtain rfl:ds=⟨9,tx,n⟩::r:=by rw[hd,<-Y];rfl
 clear hd Y;obtain⟨o0,ea,c1,c2,c3⟩:=X 0 (by simp);subst ea;simp only[List.length_cons]at hc hl⊢;have i:Hid (q1k s w (some ⟨s,o0+3,none⟩) r):=X.rest
 have J:Hid (u=1->q1k s w (some ⟨s,o0,none⟩) r):=fun h=>by
  have h1:=X.slid hc;rw[if_pos h]at h1;exact h1
 have HW:Hid (Ln B b l k w):=hW;simp only[Nat.zero_mul,Nat.add_zero,List.getElem_cons_zero]at c1 c2 c3;have Ae:s<w.heap.size:=by omega
 have Ag:(1:Int)<=(r.length:Int)+1:=by omega
 have W:Hid (∀O:Obj,q0v B b w (w.alloc O).drew):=fun O=>q0v.drew ((q0v.refl B b w).alloc M O)
 have HK:Hid (∀O:Obj,Lib.OthersKept 5 (some b) w (w.alloc O).drew):=fun O=>((Lib.OthersKept.refl _ _ w).alloc O).drew
 have D:Hid (s<B/\s≠b):=⟨S,U⟩;clear X hW S U;go_in
 go_upto_region 1 with fail
 go_cut [0,1,5,6] (fun t _ p q wx=>k2y B b s w.heap.size ⟨9,tx,n⟩ r l k w t p q wx)
 case first=>
  go_region
  all_goals (go_wp2_with fail)
  all_goals
   go_meet
   refine⟨rfl,rfl,⟨_,_,rfl,?_,by omega⟩,by simp[go_sem],by simp[go_sem],by simp[go_sem],IsX.drew (IsX.alloc HW.o _),W.o _,HK.o _⟩
   first
    | exact i.o.kept ((W.o _).block s D.o.1 D.o.2)
    | exact(J.o (by assumption)).kept ((W.o _).block s D.o.1 D.o.2)
    | exact(J.o rfl).kept ((W.o _).block s D.o.1 D.o.2)
 case rest=>
  obtain⟨rfl,rfl,⟨a',Aa,rfl,hn,v⟩,e1,e2,e3,hw,E,R⟩:=hcut;dsimp only at e1 e2 e3;have g:Hid (q1k s wc a' r):=hn;have K:Hid (Ln B b l k wc):=hw;have I:Hid (q0v B b w wc):=E;have d:Hid (Lib.OthersKept 5 (some b) w wc):=R;have L:B<=wc.heap.size:=Nat.le_trans M E.size;clear hn hw E R;rw[List.append_assoc]at j;generalize G:C++H=rc at j;have m:Hid (C++H=rc):=G;have f:Hid (rc.length=C.length+H.length):=(show _=_ by rw[<-G,List.length_append]);have Z:Hid ((A++C).length=A.length+C.length):=(show _=_ from List.length_append);clear G;have HA:Hid (z9s A tA kA):=hA;have HC:Hid (z9s C tC kC):=hC;clear hA hC;go_wp2_with fail;refine(HA.o B b s r rc _ _ l k _ j.o.symm (g.o.kept (Below.heap_alloc _ _ _ (by have:=D.o;omega))) D.o.1 D.o.2 v (IsX.alloc K.o _) (by simp;omega) (by omega)).mono ?_;rintro e w3⟨⟨a3,Ab,rfl,n3,x⟩,h3,N,Q⟩;have Af:b<wc.heap.size:=IsX.lt K.o;have hx:=Q wc.heap.size _ (heap_alloc_new wc _) (by simp;omega) (by intro c fz h;cases h);have V:=N.size;have Ad:wc.heap.size+1<=w3.heap.size:=by simpa using V
  have HX:Hid (w3.heap[wc.heap.size]?=_):=hx;clear V hx;go_wp2_with fail;refine(HC.o w3.heap.size wc.heap.size s rc H _ _ [] false _ m.o.symm n3 (by have:=D.o;omega) (by have:=D.o;omega) x (IsX.unused _ _ _ _ _ HX.o) Zl (by have q1:=o.o;have q2:=f.o;have q3:=Z.o;simp;omega)).mono ?_;rintro e w4⟨⟨a4,Ac,rfl,n4,y⟩,h4,P,z⟩;go_wp2;go_ret;refine⟨⟨_,_,rfl,n4,y⟩,IsX.far h3 P (by omega) HX.o (by decide),(I.o.trans (((q0v.refl _ _ _).alloc L _).trans N)).trans (P.weak (by omega) L),?_⟩;exact v4b (d.o.trans (((Lib.OthersKept.refl _ _ _).alloc _).trans Q)) z I.o.size
theorem v3x{s:ByteArray}(h1:1<=s.size)(h2:s.size<=20)(h:∀k(h:k<s.size),q5x s[k]=true):isW s=true:=by
 simp only[isW,h1,h2,decide_true,Bool.true_and,List.all_eq_true];intro b A;obtain⟨i,B,rfl⟩:=List.getElem_of_mem A;exact h i (by rw[<-q0x];exact B)
theorem y1i{s:ByteArray}{k:Nat}(h:k<s.size)(hb:q5x s[k]=false):isW s=false:=by
 cases e:isW s with
 | false=>rfl
 | true=>
  simp only[isW,Bool.and_eq_true,List.all_eq_true]at e
  have:=e.2 s[k] (by
   have:k<s.data.toList.length:=by rw[q0x];exact h
   exact List.getElem_mem this)
  rw[hb]at this;cases this
theorem k5k{b:UInt8}(h:q5x b=false):(b.toNat:Int)<32\/(¬(b.toNat:Int)<32/\126<(b.toNat:Int)):=by
 simp[q5x]at h;omega
theorem j1f{b:UInt8}(h:q5x b=true):¬(b.toNat:Int)<32/\¬126<(b.toNat:Int):=by
 simp[q5x]at h;omega
theorem j9n{s:ByteArray}(h:s.size≠0):¬s.toList=[]:=by
 rw[ByteArray.toList_eq];intro e
 have:=q0x s
 rw[e]at this;exact h this.symm
theorem g0n{op:Int}(h1:¬op<1)(h2:¬9<op):op=1\/op=2\/op=3\/op=4\/op=5\/op=6\/op=7\/op=8\/op=9:=by omega
theorem j3p{ds:List Nd}(h:400<ds.length):q3d ds=3:=by rw[q3d,if_pos h]
theorem j3q{ds:List Nd}{k:Nat}(hl:ds.length<=400)(hk:k<ds.length)(ha:∀x∈ds.take k,q1b x=0)(h:q1b ds[k]≠0):q3d ds=q1b ds[k]:=by
 have e:=k0t ds k hk ha h;rw[q3d,if_neg (by omega),if_neg (by rw[e];exact h),e]
theorem v2x{ds:List Nd}(hl:ds.length<=400)(ha:∀x∈ds,q1b x=0):q3d ds=if q0o ds 0 1=some ds.length then 0 else 2:=by
 rw[q3d,if_neg (by omega),if_pos (z1o ds ha)]
theorem v6m{ds:List Nd}{k:Nat}(h:¬k<ds.length)(ha:∀x∈ds.take k,q1b x=0):∀x∈ds,q1b x=0:=by
 rw[List.take_of_length_le (by omega)]at ha;exact ha
theorem v0c{ds:List Nd}{k:Nat}(h:k<ds.length)(ha:∀x∈ds.take k,q1b x=0)(h0:q1b ds[k]=0):∀x∈ds.take (k+1),q1b x=0:=by
 intro x A;rw[List.take_succ_eq_append_getElem h]at A;rcases List.mem_append.1 A with A|A
 ·exact ha x A
 ·simp at A;subst A;exact h0
def v7y(o:Option Nat):Int:=match o with|some j=>j|none=>-1
theorem q0t{ds:List Nd}{i:Nat}{x:Nd}{r:List Nd}(h:ds.drop i=x::r):∃hi:i<ds.length,ds[i]=x/\ds.drop (i+1)=r:=by
 have hi:i<ds.length:=by
  rcases Nat.lt_or_ge i ds.length with A|A
  ·exact A
  ·rw[List.drop_eq_nil_of_le A]at h;cases h
 rw[List.drop_eq_getElem_cons hi]at h;simp only[List.cons.injEq]at h;exact⟨hi,h.1,h.2⟩
theorem q7p{ds A r:List Nd}{i:Nat}(h:ds.drop i=A++r):ds.drop (i+A.length)=r:=by
 rw[<-List.drop_drop,h,List.drop_left]
def Tr.laid:Tr->List UInt8
 | .leaf x=>if x.op=1 then x.tx.data.toList else if x.op=2 then [32]else []
 | .one _ a=>a.laid
 | .two x a b=>if x.op=6 then a.laid++b.laid else a.laid
def Tr.brk:Tr->Bool
 | .leaf x=>decide (x.op=4)
 | .one _ a=>a.brk
 | .two x a b=>if x.op=6 then a.brk||b.brk else a.brk
theorem q7u:∀t:Tr,t.flat=(if t.brk=true then none else some t.laid)
 | .leaf x=>by
  simp only[Tr.flat,Tr.brk,Tr.laid];by_cases h1:x.op=1
  ·simp[h1]
  ·by_cases h2:x.op=2
   ·simp[h2]
   ·by_cases h4:x.op=4
    ·simp[h4]
    ·simp[h1,h2,h4]
 | .one _ a=>q7u a
 | .two x a b=>by
  have h1:=q7u a;have h2:=q7u b;simp only[Tr.flat,Tr.brk,Tr.laid]
  split
  ·rw[h1,h2];cases a.brk<;>cases b.brk<;>simp
  ·exact h1
theorem z8k:∀t:Tr,t.Wf->t.laid.length<=20*t.N.length
 | .leaf x,h=>by
  obtain⟨_,_,_,_,h5,_⟩:=q2c h.1;simp only[Tr.laid,Tr.N]
  split
  ·rename_i h1
   have:=q4d (h5 h1)
   have e:=q0x x.tx;simp only[List.length_cons,List.length_nil];omega
  ·split<;>simp
 | .one x a,h=>by
  have:=z8k a h.2.2
  simp only[Tr.laid,Tr.N,List.length_cons];omega
 | .two x a b,h=>by
  have h1:=z8k a h.2.2.1;have h2:=z8k b h.2.2.2;simp only[Tr.laid,Tr.N,List.length_cons,List.length_append]
  split
  ·rw[List.length_append];omega
  ·omega
theorem j5a{t:Tr}(h:t.brk=false):t.isFlat=true/\t.line=⟨t.laid.toArray⟩:=by
 have:=q7u t
 rw[h]at this;constructor
 ·rw[Tr.isFlat,this];rfl
 ·rw[Tr.line,this];rfl
theorem j5b{t:Tr}(h:t.brk=true):t.isFlat=false/\t.line=⟨#[]⟩:=by
 have:=q7u t
 rw[h]at this;constructor
 ·rw[Tr.isFlat,this];rfl
 ·rw[Tr.line,this];rfl
theorem q5f:∀t:Tr,t.Wf->z9s t.N t.laid t.brk
 | .leaf ⟨op,tx,n⟩,h=>by
  obtain⟨_,_,_,_,h5,_⟩:=q2c h.1;rcases q3y h.1 h.2 with e|e|e|e|e
  all_goals (simp only at e;subst e)
  ·exact y1t tx n (q4d (h5 rfl)).2
  ·exact y1u tx n
  ·exact k6y 0 (.inl ⟨rfl,rfl⟩) tx n
  ·exact y1v tx n
  ·exact k6y 1 (.inr ⟨rfl,rfl⟩) tx n
 | .one ⟨op,tx,n⟩ a,h=>by
  rcases q7y h.2.1 with e|e
  all_goals (simp only at e;subst e)
  ·exact k6z 0 (.inl ⟨rfl,rfl⟩) tx n _ _ _ (q5f a h.2.2)
  ·exact k6z 1 (.inr ⟨rfl,rfl⟩) tx n _ _ _ (q5f a h.2.2)
 | .two ⟨op,tx,n⟩ a c,h=>by
  rcases q7k h.2.1 with e|e
  all_goals (simp only at e;subst e)
  ·exact y1w tx n _ _ _ _ _ _ (q5f a h.2.2.1) (q5f c h.2.2.2) (z8k a h.2.2.1)
  ·exact y1x tx n _ _ _ _ _ _ (q5f a h.2.2.1) (q5f c h.2.2.2)
theorem k9b(op:Int)(w:World):Calls prog 177 #[.int .i64 op] w fun e w'=>e=.returned (.int .i64 (pts op))/\w=w':=by
 by_cases A:op=6
 ·subst A;go_in;go_wp2;go_ret;exact⟨rfl,rfl⟩
 by_cases D:op=9
 ·subst D;go_in;go_wp2;go_ret;exact⟨rfl,rfl⟩
 by_cases B:op=7
 ·subst B;go_in;go_wp2;go_ret;exact⟨rfl,rfl⟩
 by_cases C:op=8
 ·subst C;go_in;go_wp2;go_ret;exact⟨rfl,rfl⟩
 have e:pts op=0:=by simp[pts,A,B,C,D]
 rw[e];have E:(op==6)=false:=by simp[A]
 have G:(op==7)=false:=by simp[B]
 have H:(op==8)=false:=by simp[C]
 have I:(op==9)=false:=by simp[D]
 clear e A B C D;go_in;go_wp2;go_ret;exact⟨rfl,rfl⟩
theorem z6f(s:ByteArray)(w:World):Calls prog 176 #[.string s] w fun e w'=>e=.returned (.bool (isW s))/\w=w':=by
 by_cases L:(s.size:Int)<1
 ·have e:isW s=false:=by simp[isW];omega
  rw[e];clear e;go_in;go_wp2;go_ret;exact⟨rfl,rfl⟩
 by_cases M:20<(s.size:Int)
 ·have e:isW s=false:=by simp[isW];omega
  rw[e];clear e;go_in;go_wp2;go_ret;exact⟨rfl,rfl⟩
 go_in;go_wp2
 go_loopw [14] (fun i wr=>wr=w/\∃k:Nat,k<=s.size/\i=.int .i64 k/\∀j(h:j<s.size),j<k->q5x s[j]=true) (fun i _=>s.size-(intOf i).toNat)
 case atStart=>exact⟨rfl,0,Nat.zero_le _,rfl,fun j _ K=>by omega⟩
 case round=>
  obtain⟨rfl,k,N,rfl,A⟩:=hrel;have H:Hid (∀j(h:j<s.size),j<k->q5x s[j]=true):=A;clear A;by_cases G:k<s.size
  ·cases B:q5x s[k]with
   | false=>
    have C:Hid (isW s=false):=y1i G B;have D:=k5k B;clear B;rcases D with D|⟨D,J⟩
    ·go_wp2;go_ret;exact⟨by rw[C.o];rfl,rfl⟩
    ·go_wp2;go_ret;exact⟨by rw[C.o];rfl,rfl⟩
   | true=>
    have I:Hid (q5x s[k]=true):=B;obtain⟨D,J⟩:=j1f B;clear B;go_wp2
    go_roundw
    case rel=>
     refine⟨by trivial,k+1,by omega,by go_num,?_⟩;intro j h K;by_cases E:j=k
     ·subst E;exact I.o
     ·exact H.o j h (by omega)
    case measure=>simp[intOf];omega
  ·have C:Hid (isW s=true):=v3x (by omega) (by omega) fun j h=>H.o j h (by omega)
   go_wp2;go_ret;exact⟨by rw[C.o];rfl,rfl⟩
theorem q9x(x:Nd)(w:World):Calls prog 105 #[g0l x] w fun e w'=>e=.returned (q1r (q1b x))/\Below w w w':=by
 obtain⟨G,C,n⟩:=x;by_cases D:G<1
 ·have e:q1b ⟨G,C,n⟩=1:=by simp[q1b,D]
  rw[e,z6c];clear e;go_in;go_wp2;go_ret;exact⟨rfl,Zb.alloc Zl _⟩
 by_cases E:9<G
 ·have e:q1b ⟨G,C,n⟩=1:=by simp[q1b,E]
  rw[e,z6c];clear e;go_in;go_wp2;go_ret;exact⟨rfl,Zb.alloc Zl _⟩
 rcases g0n D E with rfl|rfl|rfl|rfl|rfl|rfl|rfl|rfl|rfl
 case inl=>
  clear D E;by_cases B:n=0
  ·subst B;cases K:isW C with
   | false=>
    have e:q1b ⟨1,C,0⟩=5:=by simp[q1b,K]
    rw[e,v7z];clear e;go_in;go_wp2_with(go_at_call 176;refine(z6f _ _).mono ?_;rintro e w'⟨rfl,rfl⟩);go_ret;exact⟨rfl,Zb.alloc Zl _⟩
   | true=>
    have e:q1b ⟨1,C,0⟩=0:=by simp[q1b,K]
    rw[e,q0z];clear e;go_in;go_wp2_with(go_at_call 176;refine(z6f _ _).mono ?_;rintro e w'⟨rfl,rfl⟩);go_ret;exact⟨rfl,Zb.alloc Zl _⟩
  ·have e:q1b ⟨1,C,n⟩=2:=by simp[q1b,B]
   rw[e,k0r];have H:(n != 0)=true:=by simp[B]
   clear e B;go_in;go_wp2;go_ret;exact⟨rfl,Zb.alloc Zl _⟩
 case inr.inr.inr.inr.inr.inr.inl=>
  clear D E;by_cases A:C.size=0
  ·obtain rfl:=k2l A;by_cases B:n<0
   ·have e:q1b ⟨7,⟨#[]⟩,n⟩=1:=by simp[q1b,B,A]
    rw[e,z6c];clear e A;go_in;go_wp2;go_ret;exact⟨rfl,Zb.alloc Zl _⟩
   by_cases J:8<n
   ·have e:q1b ⟨7,⟨#[]⟩,n⟩=1:=by simp[q1b,J,A]
    rw[e,z6c];clear e A;go_in;go_wp2;go_ret;exact⟨rfl,Zb.alloc Zl _⟩
   have e:q1b ⟨7,⟨#[]⟩,n⟩=0:=by simp[q1b,B,J,A]
   rw[e,q0z];clear e A;go_in;go_wp2;go_ret;exact⟨rfl,Zb.alloc Zl _⟩
  ·have e:q1b ⟨7,C,n⟩=2:=by simp[q1b,A]
   rw[e,k0r];have I:=j9n A;clear e A;go_in;go_wp2;go_ret;exact⟨rfl,Zb.alloc Zl _⟩
 all_goals
  clear D E;by_cases A:C.size=0
  ·obtain rfl:=k2l A;by_cases B:n=0
   ·subst B;rw[show ∀k:Int,k=0->q1r k=.nilIface from fun k hk=>by rw[hk];rfl]
    ·clear A;go_in;go_wp2;go_ret;exact⟨rfl,Zb.alloc Zl _⟩
    ·simp[q1b,A]
   ·have H:(n != 0)=true:=by simp[B]
    rw[show ∀k:Int,k=2->q1r k=.iface 22 (.int .i64 2)from fun k hk=>by rw[hk];rfl]
    ·clear A B;go_in;go_wp2;go_ret;exact⟨rfl,Zb.alloc Zl _⟩
    ·simp[q1b,B]
  ·have I:=j9n A;rw[show ∀k:Int,k=2->q1r k=.iface 22 (.int .i64 2)from fun k hk=>by rw[hk];rfl]
   ·clear A;go_in;go_wp2;go_ret;exact⟨rfl,Zb.alloc Zl _⟩
   ·simp[q1b,A]
theorem z5y(ds:List Nd)(a:Option Addr)(cap i0:Nat)(w:World)(hN:q1u w a ds)(hl:ds.length<=400)(hi:i0<=ds.length):
  Calls prog 106 #[.slice a ds.length cap,.int .i64 i0] w fun e w'=>((∃j:Nat,q0o ds i0 1=some j/\e=.returned (.tuple #[.int .i64 j,.bool true]))\/(q0o ds i0 1=none/\e=.returned (.tuple #[.int .i64 ds.length,.bool false])))/\w=w':=by
 have I:Hid (q1u w a ds):=hN;clear hN;go_in;go_wp2
 go_loopw [1,6] (fun i m wr=>wr=w/\∃k q:Nat,k<=ds.length/\q<=k+1/\i=.int .i64 k/\m=.int .i64 q/\q0o ds i0 1=q0o ds k q) (fun i _ _=>ds.length-(intOf i).toNat)
 case atStart=>exact⟨rfl,i0,1,hi,by omega,rfl,rfl,rfl⟩
 case round=>
  obtain⟨rfl,k,q,P,R,rfl,rfl,H⟩:=hrel;have D:Hid (q0o ds i0 1=q0o ds k q):=H;clear H;by_cases G:q=0
  ·subst G;have A:Hid (q0o ds i0 1=some k):=D.o.trans (z6b _ _);go_wp2;go_ret2;exact⟨.inl ⟨k,A.o,rfl⟩,rfl⟩
  ·obtain⟨C,rfl⟩:∃C,q=C+1:=⟨q-1,by omega⟩;by_cases B:k<ds.length
   ·obtain⟨b,o,M,O,N,K,L⟩:=I.o k B;have J:Hid (q0o ds i0 1=q0o ds (k+1) (pts ds[k].op+C)):=D.o.trans (z6a _ _ _ B);have Q:=j9c ds[k].op;subst M;clear K L G;go_wp2_with(go_at_call 177;refine(k9b _ _).mono ?_;rintro e w'⟨rfl,rfl⟩)
    go_roundw
    case rel=>
     exact⟨by trivial,k+1,pts ds[k].op+C,by omega,by omega,by go_num,by go_num,J.o⟩
    case measure=>simp[intOf];omega
   ·have E:k=ds.length:=by omega
    subst E;have A:Hid (q0o ds i0 1=none):=D.o.trans (k0p _ _ _ (by omega));go_wp2;go_ret2;exact⟨.inr ⟨A.o,rfl⟩,rfl⟩
theorem z3t{ds:List Nd}{i0 j:Nat}(a:Option Addr)(cap:Nat)(w:World)(hN:q1u w a ds)(hl:ds.length<=400)(hi:i0<=ds.length)(h:q0o ds i0 1=some j):
  Calls prog 106 #[.slice a ds.length cap,.int .i64 i0] w fun e w'=>e=.returned (.tuple #[.int .i64 j,.bool true])/\w=w':=
 (z5y ds a cap i0 w hN hl hi).mono fun e w'⟨h1,h2⟩=>⟨by
  rcases h1 with⟨j',e1,e2⟩|⟨e1,_⟩
  ·rw[h]at e1;cases e1;exact e2
  ·rw[h]at e1;(cases e1),h2⟩
theorem k3m{ds:List Nd}{i0:Nat}(a:Option Addr)(cap:Nat)(w:World)(hN:q1u w a ds)(hl:ds.length<=400)(hi:i0<=ds.length)(h:q0o ds i0 1=none):
  Calls prog 106 #[.slice a ds.length cap,.int .i64 i0] w fun e w'=>e=.returned (.tuple #[.int .i64 ds.length,.bool false])/\w=w':=
 (z5y ds a cap i0 w hN hl hi).mono fun e w'⟨h1,h2⟩=>⟨by
  rcases h1 with⟨j',e1,e2⟩|⟨_,e2⟩
  ·rw[h]at e1;cases e1
  ·exact e2,h2⟩
theorem q3c(ds:List Nd)(a:Option Addr)(cap:Nat)(w:World)(hN:q1u w a ds):
  Calls prog 61 #[.slice a ds.length cap] w fun e w'=>e=.returned (q1r (q3d ds))/\Below w w w':=by
 have Q:Hid (q1u w a ds):=hN;clear hN;by_cases Y:400<(ds.length:Int)
 ·rw[j3p (by omega),k6j];go_in;go_wp2;go_ret;exact⟨rfl,Below.refl _ _⟩
 ·have I:ds.length<=400:=by omega
  go_in;go_wp2
  go_loopw [14] (fun i wr=>Below w w wr/\∃k:Nat,k<=ds.length/\i=.int .i64 k/\∀x∈ds.take k,q1b x=0) (fun i _=>ds.length-(intOf i).toNat)
  case atStart=>exact⟨Below.refl _ _,0,Nat.zero_le _,rfl,by simp⟩
  case round=>
   obtain⟨H,k,c,rfl,C⟩:=hrel;have N:Hid (∀x∈ds.take k,q1b x=0):=C;have J:Hid (q1u wr a ds):=Q.o.W H;clear C;by_cases B:k<ds.length
   ·obtain⟨b,o,R,Z,U,V,X⟩:=J.o k B;subst R;by_cases K:q1b ds[k]=0
    ·have G:Hid (q1b ds[k]=0):=K;clear K;go_wp2_with fail;refine(q9x ds[k] _).mono ?_;rintro e M⟨rfl,A⟩;rw[G.o,q0z];have E:=z5r H Zl A;clear A;go_wp2
     go_roundw
     case rel=>exact⟨E,k+1,by omega,by go_num,v0c B N.o G.o⟩
     case measure=>simp[intOf];omega
    ·have G:Hid (q1b ds[k]≠0):=K;clear K;go_wp2_with fail;refine(q9x ds[k] _).mono ?_;rintro e M⟨rfl,A⟩;rw[q0l G.o];have E:=z5r H Zl A;clear A;go_wp2;go_ret;refine⟨?_,E⟩;rw[j3q I B N.o G.o,q0l G.o];rfl
   ·have O:Hid (q3d ds=if q0o ds 0 1=some ds.length then 0 else 2):=v2x I (v6m B N.o);cases L:q0o ds 0 1 with
    | none=>
     have D:Hid (q0o ds 0 1=none):=L;clear L;go_wp2_with fail;refine(k3m a cap _ J.o I (Nat.zero_le _) D.o).mono ?_;rintro e M⟨rfl,rfl⟩;go_wp2;go_ret;refine⟨?_,H⟩;rw[O.o,D.o,if_neg (by simp),k0r];rfl
    | some j=>
     have D:Hid (q0o ds 0 1=some j):=L;clear L;by_cases P:j=ds.length
     ·subst P;go_wp2_with fail;refine(z3t a cap _ J.o I (Nat.zero_le _) D.o).mono ?_;rintro e M⟨rfl,rfl⟩;go_wp2;go_ret;refine⟨?_,H⟩;rw[O.o,D.o,if_pos rfl,q0z];rfl
     ·have S:((j:Int) != (ds.length:Int))=true:=by simp;omega
      go_wp2_with fail;refine(z3t a cap _ J.o I (Nat.zero_le _) D.o).mono ?_;rintro e M⟨rfl,rfl⟩;go_wp2;go_ret;refine⟨?_,H⟩;rw[O.o,D.o,if_neg (by simp[P]),k0r];rfl
theorem v3p(ds:List Nd)(a:Option Addr)(cap:Nat)(w:World)(hN:q1u w a ds)(h:q3d ds≠0):
  Calls prog 216 #[.slice a ds.length cap] w fun e w'=>e=.returned (.tuple #[.string ⟨#[]⟩,.bool false,q1r (q3d ds)])/\Below w w w':=by
 have A:Hid (q1u w a ds):=hN;have H:Hid (q3d ds≠0):=h;rw[q0l h];clear hN h;go_in;go_wp2_with fail;refine(q3c ds a cap _ A.o).mono ?_;rintro e C⟨rfl,B⟩;rw[q0l H.o];go_wp2;go_ret3;exact⟨rfl,B⟩
theorem j4h(ds:List Nd)(t:Tr)(hd:ds=t.N)(ht:t.Wf)(hl:ds.length<=400)(a:Option Addr)(cap:Nat)(hc:ds.length<=cap)(w:World)(hN:q1u w a ds):
  Calls prog 216 #[.slice a ds.length cap] w fun e w'=>e=.returned (.tuple #[.string t.line,.bool t.isFlat,.nilIface])/\Below w w w':=by
 have Q:Hid (q1u w a ds):=hN;have H:Hid (q3d ds=0):=(show q3d ds=0 by rw[hd];exact z0y ht (by rw[<-hd];exact hl));have V:Hid (ds=t.N):=hd;have U:Hid (ds≠[]):=(show ds≠[] by have:=t.pos;rw[<-hd]at this;exact List.length_pos_iff.1 this);clear hN hd;cases E:t.brk
 case' true=>obtain⟨M,O⟩:=j5b E
 case' false=>obtain⟨M,O⟩:=j5a E
 all_goals
  rw[M,O];have X:=(show Hid (t.brk=_)from E);clear E M O;go_in;go_wp2_with fail;refine(q3c ds a cap _ Q.o).mono ?_;rintro e A⟨rfl,J⟩;rw[H.o,q0z];have G:Hid (Below w w A):=J;obtain⟨s,S,D⟩:=(Q.o.W J).s U.o;have Y:Hid (q1k s A a ds):=D;clear J D;go_wp2_with fail;refine(q5f t ht A.heap.size A.heap.size s ds [] a cap [] false _ (by rw[V.o];simp) (Y.o.kept (Below.heap_alloc _ _ _ S)) S (by omega) hc (IsX.fresh 326 A [.bool false]) (by simp) (by simp;omega)).mono ?_;rintro e P⟨⟨b,R,rfl,_,_⟩,B,K,_⟩;have C:Below w w P:=G.o.trans ((((Below.refl _ A).alloc Zl _).trans (K.W Zl)).mono G.o.size);rw[Bool.false_or,List.nil_append]at B;have I:Hid (Ln A.heap.size A.heap.size t.laid t.brk P):=B;have Z:=B.cell;rw[X.o]at Z;clear B
 ·go_wp2_with fail;refine(k8k 326 A.heap.size A.heap.size t.laid [.bool t.brk] P I.o).mono ?_;rintro e c⟨rfl,L⟩;go_wp2;go_ret3;exact⟨rfl,C.trans (L.mono G.o.size)⟩
 ·go_wp2;go_ret3;exact⟨rfl,C⟩
theorem v3o(ds:List Nd)(a:Option Addr)(cap:Nat)(hc:ds.length<=cap)(w:World)(hN:q1u w a ds):
  Calls prog 216 #[.slice a ds.length cap] w fun e w'=>e=.returned (.tuple #[.string (flS ds),.bool (flB ds),q1r (q3d ds)])/\Below w w w':=by
 by_cases h:q3d ds=0
 ·obtain⟨C,_,_⟩:=q5c h;obtain⟨D,A,B⟩:=j4g (q9f h) (q3u h) C;rw[A,B,h,q0z];exact j4h ds _ (q3u h) (q9f h) C a cap hc w hN
 ·obtain⟨A,B⟩:=y4w h;rw[A,B];exact v3p ds a cap w hN h
theorem j4k(ds:List Nd)(a:Option Addr)(cap:Nat)(hc:ds.length<=cap)(w:World)(hN:q1u w a ds):
  Calls prog 179 #[.slice a ds.length cap] w fun e w'=>e=.returned (.tuple #[.int .i64 (flS ds).size,.bool (flB ds),q1r (q3d ds)])/\Below w w w':=by
 have D:Hid (q1u w a ds):=hN;clear hN;generalize C:flS ds=s;generalize A:flB ds=b;generalize B:q1r (q3d ds)=v;have H:Hid (flS ds=s/\flB ds=b/\q1r (q3d ds)=v):=⟨C,A,B⟩;clear C A B;go_in;go_wp2_with fail;refine(v3o ds a cap hc _ D.o).mono ?_;rintro e G⟨rfl,E⟩;rw[H.o.1,H.o.2.1,H.o.2.2];go_wp2;go_ret3;exact⟨rfl,E⟩
theorem j2p(ds:List Nd)(t:Tr)(hd:ds=t.N)(ht:t.Wf)(hl:ds.length<=400)(a:Option Addr)(cap:Nat)(hc:ds.length<=cap)(w:World)(hN:q1u w a ds):
  Calls prog 109 #[.slice a ds.length cap] w fun e w'=>e=.returned (.int .i64 (lgF t.flat))/\Below w w w':=by
 obtain⟨E,G,H⟩:=j4g ht hd hl;have A:=j4k ds a cap hc w hN;rw[E,G,H,q0z]at A;cases C:t.flat with
 | none=>
  have B:t.isFlat=false:=by simp[Tr.isFlat,C]
  rw[B]at A;have D:Hid (Calls prog 179 #[.slice a ds.length cap] w fun e w'=>e=.returned (.tuple #[.int .i64 t.line.size,.bool false,.nilIface])/\Below w w w'):=A;clear A hN E G H B hd C;rw[lgF];go_in;go_wp2_with fail;refine D.o.mono ?_;rintro e K⟨rfl,I⟩;go_wp2;go_ret;exact⟨rfl,I⟩
 | some s=>
  have B:t.isFlat=true:=by simp[Tr.isFlat,C]
  have J:t.line.size=s.length:=by rw[q7w,C];rfl
  rw[B,J]at A;have D:Hid (Calls prog 179 #[.slice a ds.length cap] w fun e w'=>e=.returned (.tuple #[.int .i64 s.length,.bool true,.nilIface])/\Below w w w'):=A;clear A hN E G H B J hd C;rw[lgF];go_in;go_wp2_with fail;refine D.o.mono ?_;rintro e K⟨rfl,I⟩;go_wp2;go_ret;exact⟨rfl,I⟩
theorem y4f.pr{g n j:Nat}{F:Nat->Q}{x y:Int}{w w':World}(h:y4f g (j*7+4) (j*7+5) (.int .i64 x) (.int .i64 y) w w')(hp:PwR w g n F)(hj:j<n):PwR w' g n (upd F j {F j with nx:=x,dp:=y}):=by
 have A:=(hp.putNx hj x).putDp hj y;rw[z9r,q0n]at A;exact A.kept (by rw[h.2.2.2])
theorem y4f.belX{g a b:Nat}{e f:Value}{w w':World}(h:y4f g a b e f w w')(B:Nat):q0v B g w w':=
 ⟨h.1,h.2.1,h.2.2.1,by rw[h.2.2.2];simp[World.setCell],fun k _ hk=>by rw[h.2.2.2,Below.heap_setCell _ _ _ _ hk,Below.heap_setCell _ _ _ _ hk]⟩
theorem q9v(bp g n i:Nat)(x y:Int)(F:Nat->Q)(w:World)(hi:i<n)(c0:w.cell? ⟨bp,0,none⟩=some (.slice (some ⟨g,0,none⟩) n n))(hp:PwR w g n F):
  Calls prog 178 #[.pointer (some ⟨bp,0,none⟩),.int .i64 i,.int .i64 x,.int .i64 y] w fun e w'=>e=.returned (.tuple #[])/\PwR w' g n (upd F i {F i with nx:=x,dp:=y})/\q0v w g w w':=by
 have k:=hp.get i hi;refine(j2x bp g n i x y w (by omega) c0 _ _ k.c4 k.c5 hp.row.frozen hp.row.frozen).mono ?_;rintro e A⟨rfl,h⟩;exact⟨rfl,h.pr hp hi,h.belX _⟩
theorem v2n(bp g n i:Nat)(F:Nat->Q)(w:World)(hi:i<n)(c0:w.cell? ⟨bp,0,none⟩=some (.slice (some ⟨g,0,none⟩) n n))(hp:PwR w g n F)
  (h6:((F i).op==6)=false) (h9:((F i).op==9)=false) (h7:((F i).op==7)=false) (h8:((F i).op==8)=false):
  Calls prog 108 #[.pointer (some ⟨bp,0,none⟩),.int .i64 i] w fun e w'=>e=.returned (.tuple #[])/\PwR w' g n F/\q0v w g w w':=by
 obtain⟨E,G,H,I,J,K,L⟩:=hp.get i hi;have C:(i:Int)<n:=by omega
 have D:(0:Int)<=(i:Int):=by omega
 have A:Hid (PwR w g n F):=hp;clear hp hi;generalize F i=q at *;go_in;go_wp2
 go_end0
 have B:Below w w (w.alloc (.cells #[.int .i64 q.op,.string q.tx,.int .i64 q.n,.int .i64 q.en,.int .i64 q.nx,.int .i64 q.dp,.int .i64 q.lg] 182)):= Zb.alloc Zl _;exact⟨rfl,A.o.kept (B.block g A.o.row.lt),q0v.of B⟩
abbrev q5t(q:Q):Obj:=.cells #[.int .i64 q.op,.string q.tx,.int .i64 q.n,.int .i64 q.en,.int .i64 q.nx,.int .i64 q.dp,.int .i64 q.lg] 182
theorem y0m(bp g n i:Nat)(F:Nat->Q)(w:World)(hn:n<=400)(B:i+1<n)(c0:w.cell? ⟨bp,0,none⟩=some (.slice (some ⟨g,0,none⟩) n n))(hp:PwR w g n F)
  (E:(F i).op=7\/(F i).op=8) (x:Int) (hx:IntKind.i64.wrap ((F i).dp+(F i).n)=x):
  Calls prog 108 #[.pointer (some ⟨bp,0,none⟩),.int .i64 i] w fun e w'=>e=.returned (.tuple #[])/\PwR w' g n (upd F (i+1) {F (i+1)with nx:=(F i).nx,dp:=x})/\q0v w g w w':=by
 obtain⟨I,N,O,P,R,S,U⟩:=hp.get i (by omega);have C:(i:Int)<n:=by omega
 have K:(0:Int)<=(i:Int):=by omega
 have L:=z5o hn C;have G:Hid (PwR w g n F):=hp;have H:Hid (w.cell? ⟨bp,0,none⟩=some (.slice (some ⟨g,0,none⟩) n n)):=c0;have M:Hid (∃q,F i=q):=⟨_,rfl⟩;clear hp;generalize F i=q at *;have D:g<w.heap.size:=G.o.row.lt;rcases E with e|e
 all_goals
  rw[e]at I;go_in;go_wp2_with fail;refine(q9v bp g n (i+1) q.nx x F _ B (ka H.o _) (G.o.kept (Below.heap_alloc _ _ _ D))).mono ?_;rintro e V⟨rfl,J,A⟩;go_wp2
  go_end0
  exact⟨rfl,J,(q0v.of ((Below.refl _ w).alloc Zl _)).trans (A.mono (by simp))⟩
theorem y0n(bp g n i j:Nat)(F:Nat->Q)(w:World)(hn:n<=400)(E:i+1<n)(hj:j<n)(K:bp≠g)(c0:w.cell? ⟨bp,0,none⟩=some (.slice (some ⟨g,0,none⟩) n n))(hp:PwR w g n F)
  (G:(F i).op=6) (B:(F (i+1)).en=(j:Int)):
  Calls prog 108 #[.pointer (some ⟨bp,0,none⟩),.int .i64 i] w fun e w'=>e=.returned (.tuple #[])/\PwR w' g n (upd (upd F (i+1) {F (i+1)with nx:=j,dp:=(F i).dp}) j {upd F (i+1) {F (i+1)with nx:=j,dp:=(F i).dp} j with nx:=(F i).nx,dp:=(F i).dp})/\q0v w g w w':=by
 obtain⟨W,l,m,o,r,s,t⟩:=hp.get i (by omega);have N:=(hp.get (i+1) E).c3;rw[B]at N;have L:(i:Int)<n:=by omega
 have S:(i:Int)+1<n:=by omega
 have Y:(0:Int)<=(i:Int):=by omega
 have Z:(0:Int)<=(i:Int)+1:=by omega
 have a:((i:Int)+1).toNat=i+1:=by omega
 have b:=z5o hn L;have P:Hid (PwR w g n F):=hp;have M:g<w.heap.size:=P.o.row.lt;have U:bp<w.heap.size:=World.block_lt_of_cell? w ⟨bp,0,none⟩ c0;have d:Hid (w.cell? ⟨bp,0,none⟩=some (.slice (some ⟨g,0,none⟩) n n)):=c0;have c:∀O,(w.alloc O).cell? ⟨g,(i+1)*7+3,none⟩=some (.int .i64 (j:Int)):=fun O=>ka N O
 have D:∀O,(w.alloc O).cell? ⟨bp,0,none⟩=some (.slice (some ⟨g,0,none⟩) n n):=fun O=>ka c0 O
 rw[G]at W;have f:Hid ((F (i+1)).en=(j:Int)):=B;clear hp B N G;generalize F i=q at *;go_in;go_wp2_with fail;refine(q9v bp g n (i+1) j q.dp F _ E (D _) (P.o.kept (Below.heap_alloc _ _ _ M))).mono ?_;rintro e H⟨rfl,R,A⟩;have h:H.cell? ⟨w,4,none⟩=some (.int .i64 q.nx):=(A.cell (p:=⟨w,4,none⟩) (by simp) (by simp;omega)).trans (by simp[go_sem]);have k:H.cell? ⟨w,5,none⟩=some (.int .i64 q.dp):=(A.cell (p:=⟨w,5,none⟩) (by simp) (by simp;omega)).trans (by simp[go_sem]);have V:H.cell? ⟨bp,0,none⟩=some (.slice (some ⟨g,0,none⟩) n n):=(A.cell (p:=⟨bp,0,none⟩) (by simp;omega) K).trans (D _);have I:Hid (PwR H g n (upd F (i+1) {F (i+1)with nx:=j,dp:=q.dp})):=R;have C:Hid (q0v w g w H):=(q0v.of ((Below.refl _ w).alloc Zl _)).trans (A.mono (by simp));clear R A;go_wp2_with fail;refine(q9v bp g n j q.nx q.dp _ _ hj V I.o).mono ?_;rintro e u⟨rfl,X,J⟩;go_wp2
 go_end0
 exact⟨rfl,X,C.o.trans (J.mono C.o.size)⟩
theorem v2o(bp g n i j:Nat)(F:Nat->Q)(w:World)(hn:n<=400)(E:i+1<n)(hj:j<n)(I:bp≠g)(c0:w.cell? ⟨bp,0,none⟩=some (.slice (some ⟨g,0,none⟩) n n))(hp:PwR w g n F)
  (K:(F i).op=9) (J:(F (i+1)).en=(j:Int)):
  Calls prog 108 #[.pointer (some ⟨bp,0,none⟩),.int .i64 i] w fun e w'=>e=.returned (.tuple #[])/\PwR w' g n (upd (upd F (i+1) {F (i+1)with nx:=(F i).nx,dp:=(F i).dp}) j {upd F (i+1) {F (i+1)with nx:=(F i).nx,dp:=(F i).dp} j with nx:=(F i).nx,dp:=(F i).dp})/\q0v w g w w':=by
 obtain⟨k,t,u,v,x,y,z⟩:=hp.get i (by omega);have W:(i:Int)<n:=by omega
 have d:(i:Int)+1<n:=by omega
 have l:(0:Int)<=(i:Int):=by omega
 have m:(0:Int)<=(i:Int)+1:=by omega
 have o:((i:Int)+1).toNat=i+1:=by omega
 have r:=z5o hn W;have Z:Hid (PwR w g n F):=hp;have X:g<w.heap.size:=Z.o.row.lt;have f:bp<w.heap.size:=World.block_lt_of_cell? w ⟨bp,0,none⟩ c0;have H:∀O,(w.alloc O).cell? ⟨bp,0,none⟩=some (.slice (some ⟨g,0,none⟩) n n):=fun O=>ka c0 O
 rw[K]at k;have Y:Hid ((F (i+1)).en=(j:Int)):=J;clear hp J K;generalize F i=q at *;go_in;go_wp2_with fail;refine(q9v bp g n (i+1) q.nx q.dp F _ E (H _) (Z.o.kept (Below.heap_alloc _ _ _ X))).mono ?_;rintro e B⟨rfl,P,C⟩;have a:B.cell? ⟨w,4,none⟩=some (.int .i64 q.nx):=(C.cell (p:=⟨w,4,none⟩) (by simp) (by simp;omega)).trans (by simp[go_sem]);have b:B.cell? ⟨w,5,none⟩=some (.int .i64 q.dp):=(C.cell (p:=⟨w,5,none⟩) (by simp) (by simp;omega)).trans (by simp[go_sem]);have N:B.cell? ⟨bp,0,none⟩=some (.slice (some ⟨g,0,none⟩) n n):=(C.cell (p:=⟨bp,0,none⟩) (by simp;omega) I).trans (H _)
 have s:B.cell? ⟨g,(i+1)*7+3,none⟩=some (.int .i64 (j:Int)):=by
  have:=(P.get (i+1) E).c3
  rw[q0n]at this;rw[<-Y.o];exact this
 have M:Hid (PwR B g n (upd F (i+1) {F (i+1)with nx:=q.nx,dp:=q.dp})):=P;have G:Hid (q0v w g w B):=(q0v.of ((Below.refl _ w).alloc Zl _)).trans (C.mono (by simp));have L:w.heap.size<B.heap.size:=by have:=C.size;simp at this;omega
 have V:∀A,q0v B.drew.heap.size g B.drew A->A.cell? ⟨bp,0,none⟩=some (.slice (some ⟨g,0,none⟩) n n):=fun A h=>(h.cell (p:=⟨bp,0,none⟩) (by simp;omega) I).trans N
 have S:∀A,q0v B.drew.heap.size g B.drew A->A.cell? ⟨w,4,none⟩=some (.int .i64 q.nx):=fun A h=>(h.cell (p:=⟨w,4,none⟩) L (by simp;omega)).trans a
 have U:∀A,q0v B.drew.heap.size g B.drew A->A.cell? ⟨w,5,none⟩=some (.int .i64 q.dp):=fun A h=>(h.cell (p:=⟨w,5,none⟩) L (by simp;omega)).trans b
 have R:∀A,PwR A g n (upd (upd F (i+1) {F (i+1)with nx:=q.nx,dp:=q.dp}) j {upd F (i+1) {F (i+1)with nx:=q.nx,dp:=q.dp} j with nx:=q.nx,dp:=q.dp})->A.cell? ⟨g,(i+1)*7+3,none⟩=some (.int .i64 (j:Int)):=fun A h=>by
  have:=(h.get (i+1) E).c3
  rw[<-Y.o];by_cases e:i+1=j
  ·subst e;rw[q0n,q0n]at this;exact this
  ·rw[q1l e,q0n]at this;exact this
 clear P C;go_wp2_with fail
 go_region_held3 (fun w'=>w'.cell? ⟨bp,0,none⟩=some (.slice (some ⟨g,0,none⟩) n n)/\w'.cell? ⟨g,(i+1)*7+3,none⟩=some (.int .i64 (j:Int))/\w'.cell? ⟨w,4,none⟩=some (.int .i64 q.nx)/\w'.cell? ⟨w,5,none⟩=some (.int .i64 q.dp))
  (first|exact⟨N,s,a,b⟩|exact⟨V _ D,R _ c,S _ D,U _ D⟩) ((go_at_call 178;refine(q9v bp g n j q.nx q.dp _ B.drew hj N (M.o.kept rfl)).mono ?_;rintro e A⟨rfl,c,D⟩))
 all_goals
  go_wp2
  go_end0
  exact⟨rfl,c,G.o.drew.trans (D.mono G.o.size)⟩
end Go.Proofs.YthcpdohdppkmkaaGreatDoor
