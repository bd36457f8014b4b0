import Derived.Test.YtelcnplcpboonaaGreatDoorPb28
open Go.Proofs.Tryz
namespace Go.Proofs.YtelcnplcpboonaaGreatDoor
open Go Go.RowKit Go.Shelf
attribute [local go_sem] Oper.semAt_some
set_option maxRecDepth 100000
set_option maxHeartbeats 2000000
theorem y3z{q:ByteArray}(h:q.size≠0):btL q≠[]:=fun e=>h (by have:=congrArg List.length e;rw[q0b]at this;exact this)
theorem y2k{q:ByteArray}(h:Lib.indexByte q.data.toList 10=-1)(h0:q.size≠0):rl (btL q)=[btL q]:=v7i (k2u _ h) (y3z h0)
theorem y6k{q:ByteArray}(i:Nat)(h:Lib.indexByte q.data.toList 10=i):rl (btL q)=btL (q.extract 0 i)::rl (btL (q.extract (i+1) q.size)):=by
 obtain⟨H,D,E⟩:=j4e _ i h
 have A:btL (q.extract 0 i)=q.data.toList.take i:=by
  show(q.extract 0 i).data.toList=_
  rw[Lib.extract_eq];simp
 have B:btL (q.extract (i+1) q.size)=q.data.toList.drop (i+1):=by
  show(q.extract (i+1) q.size).data.toList=_
  rw[Lib.extract_to_end]
 have C:btL q=lnF [q.data.toList.take i]++q.data.toList.drop (i+1):=by
  rw[q3z,y0j];simpa using E
 rw[C,k6r _ (by intro l G;rw[List.mem_singleton.1 G];exact D),A,B];rfl
def pcL(pre:List LnT):List (List UInt8):=pre.map fun x=>btL x.1
theorem q9d(A:List LnT)(x:LnT):pcL (A++[x])=pcL A++[btL x.1]:=by simp[pcL]
def Pcs(s:ByteArray)(pre:List LnT):Prop:=pcL pre=rl (btL s)
def NxP(s:ByteArray)(pre:List LnT)(x:LnT):Prop:=∃r,rl (btL s)=pcL pre++btL x.1::r
theorem j5i(s:List UInt8):(lnF (rl s)).length<=s.length+1:=by
 obtain⟨A,r,rfl,B,C⟩:=v6t s;rw[y6j B C]
 split
 ·rw[List.append_nil,List.length_append];omega
 ·rw[z7f,List.length_append,List.length_append,List.length_append];simp;omega
theorem y0i(A C:List (List UInt8)):lnF (A++C)=lnF A++lnF C:=by simp[lnF]
theorem NxP.len{s:ByteArray}{B:List LnT}{x:LnT}(h:NxP s B x):(lnF (pcL B)).length+x.1.size<=s.size/\B.length<=s.size:=by
 obtain⟨r,e⟩:=h;have C:=j5i (btL s);rw[e,y0i,q3z,q0b,List.length_append,List.length_append,List.length_cons,q0b]at C
 have D:∀A:List (List UInt8),A.length<=(lnF A).length:=by
  intro A
  induction A with
  | nil=>exact Nat.le_refl _
  | cons l A ih=>rw[q3z,List.length_append,List.length_cons,List.length_cons];omega
 have E:=D (pcL B);rw[pcL,List.length_map]at E;exact⟨by omega,by unfold pcL at C;omega⟩
theorem k9j(F:Fence)(n:Nat)(hF:∀f,F.fn f)(X:F.round=none)(hn:1<=n)
  (I:∀s w,Lib.indexByte s.data.toList 10=-1->CallsIn F (n-1) prog 23 #[.string s,.string ⟨#[10]⟩] w fun e w'=>e=.returned (.tuple #[.string s,.string ⟨#[]⟩,.bool false])/\∃n,w'=w.drewN n)
  (N:∀(s:ByteArray)w(i:Nat),Lib.indexByte s.data.toList 10=i->i+1<=s.size->s.size<=100000000->CallsIn F (n-1) prog 23 #[.string s,.string ⟨#[10]⟩] w fun e w'=>e=.returned (.tuple #[.string (s.extract 0 i),.string (s.extract (i+1) s.size),.bool true])/\∃n,w'=w.drewN n)
  (l Bn:Nat) (s:ByteArray) (hs:s.size<=100000000) (J:List LnT->World->Prop) (W:World) (hJ:∀x A k,J x A->J x (A.drewN k))
  (hY:∀pre x A,J pre A->NxP s pre x->YieldAt F (n-1) prog l (z4o x) A fun e A'=>e=.returned (.bool true)/\J (pre++[x]) A')
  (a:W.cell? ⟨Bn,0,none⟩=some (.string s)) (h0:J [] W):
  CallsIn F n prog 22 #[.func (.yield l) #[] #[],.pointer (some ⟨Bn,0,none⟩)] W fun e W'=>(∃v,e=.returned v)/\∃ys:List LnT,Pcs s ys/\J ys W':=by
 refine callsIn_of_wp func22 rfl (hF 22) ?_ X;simp only[ntmps22,List.size_toArray,List.length_cons,List.length_nil,Nat.reduceAdd,Nat.reduceSub,Array.replicate_succ,Array.replicate_zero,List.push_toArray,List.append_toArray,List.nil_append,List.cons_append]
 gi_wp2
 gi_loopw [3] (fun r wr=>∃(pre:List LnT)(q:ByteArray),r=.string q/\q.size<=100000000/\rl (btL s)=pcL pre++rl (btL q)/\J pre wr)
  (fun r _=>match r with| .string q=>q.size|_=>0)
 case atStart=>
  exact⟨[],s,rfl,hs,rfl,h0⟩
 case round=>
  obtain⟨pre,q,rfl,S,L,H⟩:=hrel;by_cases C:q.size=0
  ·have U:(q.toList==[])=true:=by
    have:q.data.toList=[]:=List.eq_nil_of_length_eq_zero (by rw[<-Lib.size_eq];exact C)
    rw[ByteArray.toList_eq,this];rfl
   have D:Hid (Pcs s pre):=by
    show pcL pre=_;rw[L,show btL q=[]from List.eq_nil_of_length_eq_zero (by rw[q0b];exact C),k6s,List.append_nil]
   clear L
   gi_wp2
   go_end0
   exact⟨⟨_,rfl⟩,pre,D.o,H⟩
  ·have U:(q.toList==[])=false:=by
    rw[beq_eq_false_iff_ne,ByteArray.toList_eq];exact y3z C
   rcases k5l q.data.toList with K|⟨i,K⟩
   ·have D:Hid (rl (btL s)=pcL pre++[btL q]):=by
     rw[<-y2k K C];exact L
    clear L
    gi_wp2_with fail
    refine(I q wr K).mono ?_;rintro e c⟨rfl,k,rfl⟩;have E:J pre (wr.drewN k):=hJ _ _ _ H;obtain⟨fn,P,B,M,Y,Q⟩:=hY pre ⟨q,S⟩ _ E ⟨_,D.o⟩;dsimp only[z4o]at Y
    gi_wp2
    refine Q.mono ?_;rintro e Z⟨rfl,G⟩
    gi_wp2
    go_roundw
    case rel=>exact⟨pre++[⟨q,S⟩],⟨#[]⟩,rfl,Nat.zero_le _,by rw[D.o,q9d,show btL (⟨#[]⟩:ByteArray)=[]from rfl,k6s,List.append_nil],G⟩
    case measure=>
     show(⟨#[]⟩:ByteArray).size<q.size
     rw[show(⟨#[]⟩:ByteArray).size=0 from rfl];omega
   ·obtain⟨R,_⟩:=k5s q i K
    have D:Hid (rl (btL s)=pcL pre++(btL (q.extract 0 i)::rl (btL (q.extract (i+1) q.size)))):=by
     rw[<-y6k i K];exact L
    clear L;have O:(q.extract 0 i).size<=100000000:=by simp;omega
    have V:(q.extract (i+1) q.size).size<=100000000:=by simp;omega
    have b:(q.extract (i+1) q.size).size<q.size:=by simp;omega
    gi_wp2_with fail
    refine(N q wr i K R S).mono ?_;rintro e c⟨rfl,k,rfl⟩;have E:J pre (wr.drewN k):=hJ _ _ _ H;obtain⟨fn,P,B,M,Y,Q⟩:=hY pre ⟨q.extract 0 i,O⟩ _ E ⟨_,D.o⟩;dsimp only[z4o]at Y
    gi_wp2
    refine Q.mono ?_;rintro e Z⟨rfl,G⟩
    gi_wp2
    go_roundw
    case rel=>exact⟨pre++[⟨q.extract 0 i,O⟩],q.extract (i+1) q.size,rfl,V,by rw[D.o,q9d,List.append_assoc];rfl,G⟩
    case measure=>exact b
theorem z5w(s:ByteArray)(w:World):
  Calls prog 9 #[.string s] w fun e w'=>e=.returned (.func (.func 22) #[] #[.pointer (some ⟨w,0,none⟩)])/\w'=w.alloc (.cells #[.string s] 9):=by
 go_in;go_wp2;go_ret;exact⟨rfl,rfl⟩
theorem z5x(n:Nat)(hn:2<=n)(Bn:Nat)(s:ByteArray)(hs:s.size<=100000000)(w:World)(hBn:Bn<w.heap.size)(hc:w.cell? ⟨Bn,0,none⟩=some (.string s)):
  ∀(l:Nat)(J:List LnT->World->Prop)(W:World),Below w w W->(∀s A k,J s A->J s (A.drewN k))->
   (∀pre x A,J pre A->NxP s pre x->YieldAt Fence.wide (n-1-1) prog l (z4o x) A fun e A'=>e=.returned (.bool true)/\J (pre++[x]) A')->J [] W->
   CallsIn Fence.wide (n-1) prog 22 (#[.func (.yield l) #[] #[]]++#[.pointer (some ⟨Bn,0,none⟩)]) W fun e A'=>(∃v,e=.returned v)/\∃xs,Pcs s xs/\J xs A':=
 fun l J W hW hJ hY h0=>k9j Fence.wide (n-1) (fun _=>trivial) rfl (by omega) (fun s w h=>callsIn_wide.2 (k4x s w h)) (fun s w i h1 h2 h3=>callsIn_wide.2 (j2q s w i h1 h2 h3)) l Bn s hs J W hJ hY ((hW.cell (p:=⟨Bn,0,none⟩) hBn).trans hc) h0
end Go.Proofs.YtelcnplcpboonaaGreatDoor
namespace Go.Proofs.YtelcnplcpboonaaGreatDoor
open Go Go.RowKit
set_option maxRecDepth 100000
set_option maxHeartbeats 4000000
theorem v9b(n:Nat):(q1u n).all q2s=true:=by
 rw[List.all_eq_true];exact fun c hc=>z1z n c hc
theorem y5m{n:Nat}(h:n<=9999):k8x (q1u n)=true:=by
 have B:=q3f 3 n (by omega);have C:q1u n≠[]:=z6p n;have D:1<=(q1u n).length:=List.length_pos_iff.2 C;unfold k8x;simp only[Bool.and_eq_true,decide_eq_true_eq,Bool.or_eq_true,bne_iff_ne,ne_eq];refine⟨⟨⟨D,B⟩,v9b n⟩,?_⟩;rcases Nat.eq_zero_or_pos n with rfl|A
 ·exact .inl (by rw[k7x (by omega)];rfl)
 ·obtain⟨c,z,e,E⟩:=z9b n A;rw[e];exact .inr (by simpa using E)
theorem k5v{l:List UInt8}(h:k8x l=true):(∀b∈l,q2s b=true)/\l≠[]/\l.length<=4/\q1u (q4m l)=l/\q4m l<=9999:=by
 unfold k8x at h;simp only[Bool.and_eq_true,decide_eq_true_eq,Bool.or_eq_true,bne_iff_ne,ne_eq]at h;obtain⟨⟨⟨C,D⟩,E⟩,B⟩:=h;have G:∀b∈l,q2s b=true:=List.all_eq_true.1 E;have A:l≠[]:=fun e=>by rw[e]at C;exact absurd C (by decide)
 have H:=j6i l.length l rfl E;have I:10 ^ l.length<=10 ^ 4:=Nat.pow_le_pow_right (by decide) D;refine⟨G,A,D,j2x _ l rfl G A ?_,by omega⟩;rcases B with B|B
 ·exact .inr B
 ·refine .inl fun e=>B ?_
  cases l with
  | nil=>exact absurd rfl A
  | cons c r=>simpa using e
theorem j7d(x:ByteArray)(hx:x.size<=3000)(w:World)(ht:Rtb w):Calls prog 61 #[.string x] w fun e w'=>((∃v:Int,e=.returned (.tuple #[.int .i64 v,.nilIface])/\-9223372036854775808<=v/\v<=9223372036854775807)\/∃z t N,e=.returned (.tuple #[.int .i64 z,.iface t (.pointer (some ⟨N,0,none⟩))]))/\Below w w w':=by
 cases h:Lib.atoiAll x.data.toList with
 | ok v=>
  obtain⟨C,D⟩:=Lib.atoiAll_bounds h;refine(atoiOk_sh x (by omega) v h w).mono ?_;rintro e w'⟨rfl,rfl|⟨t,rfl⟩⟩
  ·exact⟨.inl ⟨v,rfl,C,D⟩,Below.refl _ _⟩
  ·exact⟨.inl ⟨v,rfl,C,D⟩,Lib.bytesWorld_below _ _ _⟩
 | «syntax»=>
  obtain⟨t,p,B⟩:=ht.syn;refine(atoiSyn_sh x (by omega) h _ w B (.inr ⟨_,_,rfl⟩)).mono ?_;rintro e w'⟨N,rfl,_,_,A⟩;exact⟨.inr ⟨_,_,N,rfl⟩,A⟩
 | range=>
  obtain⟨t,p,B⟩:=ht.ran;refine(atoiRan_sh x (by omega) h _ w B (.inr ⟨_,_,rfl⟩)).mono ?_;rintro e w'⟨N,rfl,_,_,A⟩;exact⟨.inr ⟨_,_,N,rfl⟩,A⟩
theorem k9m(x:ByteArray)(h:k8x (btL x)=true)(w:World)(ht:Rtb w):Calls prog 44 #[.string x] w fun e w'=>e=.returned (.int .i64 (q4m (btL x):Nat))/\Below w w w':=by
 obtain⟨J,B,L,I,M⟩:=k5v h;have D:Hid (Calls prog 61 #[.string x] w fun e w'=>e=.returned (.tuple #[.int .i64 ((q4m (btL x):Nat):Int),.nilIface])/\Below w w w'):=k4l (btL x) J B (by omega) w
 have E:Hid (∀W,Below w w W->Calls prog 62 #[.int .i64 ((q4m (btL x):Nat):Int)] W fun e w'=>e=.returned (.string x)/\Below W W w'):=fun W hW=>by
  refine(q8w ((q4m (btL x):Nat):Int) (by omega) (by omega) W (ht.W hW).tabs.pow).mono ?_;rintro e w'⟨rfl,K⟩;refine⟨?_,K⟩;rw[Int.toNat_natCast,I];rfl
 have N:(x.toList==x.toList)=true:=by simp
 generalize q4m (btL x)=n at D E M⊢;clear h J B L I ht;have Q:¬(n:Int)<0:=by omega
 have R:¬9999<(n:Int):=by omega
 go_in;go_wp2_with fail;refine D.o.mono ?_;rintro e O⟨rfl,G⟩;have A:Hid (Below w w O):=G;clear G;go_wp2_with fail;refine(E.o _ A.o).mono ?_;rintro e P⟨rfl,H⟩;have C:Hid (Below w w P):=q0g A.o Zl H;clear H;go_wp2;go_ret;exact⟨rfl,C.o⟩
theorem k9l(x:ByteArray)(h:k8x (btL x)=false)(hx:x.size<=3000)(w:World)(ht:Rtb w):Calls prog 44 #[.string x] w fun e w'=>e=.panicked [j9z y3g]/\Below w w w':=by
 have G:Hid (Calls prog 61 #[.string x] w fun e w'=>((∃v:Int,e=.returned (.tuple #[.int .i64 v,.nilIface])/\-9223372036854775808<=v/\v<=9223372036854775807)\/∃z t N,e=.returned (.tuple #[.int .i64 z,.iface t (.pointer (some ⟨N,0,none⟩))]))/\Below w w w'):=j7d x hx w ht;have L:Hid (Rtb w):=ht;have K:Hid (k8x (btL x)=false):=h;clear h hx ht;go_in;go_wp2_with fail;refine G.o.mono ?_;rintro e B⟨O,I⟩;have A:Hid (Below w w B):=I;clear I G;rcases O with⟨v,rfl,S,U⟩|⟨z,t,N,rfl⟩
 ·by_cases Q:v<0
  ·go_wp2;exact⟨rfl,rfl,A.o⟩
  ·by_cases R:9999<v
   ·go_wp2;exact⟨rfl,rfl,A.o⟩
   ·obtain⟨n,rfl⟩:∃n:Nat,v=(n:Int):=⟨v.toNat,by omega⟩;have H:Hid (Calls prog 62 #[.int .i64 (n:Int)] B fun e w'=>e=.returned (.string (wbS (q1u n)))/\Below B B w'):=q8w (n:Int) (by omega) (by omega) B (L.o.W A.o).tabs.pow
    have E:((wbS (q1u n)).toList==x.toList)=false:=by
     rw[beq_eq_false_iff_ne,ByteArray.toList_eq,ByteArray.toList_eq];intro e;have M:q1u n=btL x:=e
     have:=y5m (n:=n) (by omega)
     rw[M,K.o]at this;cases this
    generalize wbS (q1u n)=D at H E;go_wp2_with fail;refine H.o.mono ?_;rintro e P⟨rfl,J⟩;have C:Hid (Below w w P):=q0g A.o Zl J;clear J;go_wp2;exact⟨rfl,rfl,C.o⟩
 ·go_wp2;exact⟨rfl,rfl,A.o⟩
def cmn{α:Type}[DecidableEq α]:List α->List α->Nat
 | x::a,y::b=>if x=y then cmn a b+1 else 0
 | _,_=>0
theorem z2b(c:UInt8)(r:List UInt8):∃h t,lns r=h::t/\lns (c::r)=if c=10 then []::h::t else(c::h)::t:=by
 cases B:lns r with
 | nil=>exact absurd B (z5p r)
 | cons h t=>
  refine⟨h,t,rfl,?_⟩;rw[lns,B];by_cases A:c=10
  ·rw[if_pos A,if_pos (by simp[A])]
  ·rw[if_neg A,if_neg (by simp[A])];rfl
theorem j2h:∀(a b:List UInt8)(l:Nat),a≠b->((l+cmn (lns a) (lns b):Nat):Int)=fdL a b l
 | [],[],_,h=>absurd rfl h
 | [],c::r,l,_=>by
  obtain⟨h,t,_,e⟩:=z2b c r;rw[e,fdL];by_cases hc:c=10
  ·rw[if_pos hc,if_pos hc];simp[lns,cmn]
  ·rw[if_neg hc,if_neg hc];simp[lns,cmn]
 | c::r,[],l,_=>by
  obtain⟨h,t,_,e⟩:=z2b c r;rw[e,fdL];by_cases hc:c=10
  ·rw[if_pos hc,if_pos hc];simp[lns,cmn]
  ·rw[if_neg hc,if_neg hc];simp[lns,cmn]
 | x::a,y::b,l,h=>by
  obtain⟨h1,t1,e1,f1⟩:=z2b x a;obtain⟨h2,t2,e2,f2⟩:=z2b y b;rw[f1,f2,fdL];by_cases hxy:x=y
  ·subst hxy;have hne:a≠b:=fun e=>h (by rw[e])
   rw[if_pos rfl];by_cases hx:x=10
   ·have ih:=j2h a b (l+1) hne;rw[e1,e2]at ih;rw[if_pos hx,if_pos hx,if_pos hx,<-ih,cmn,if_pos rfl];omega
   ·have ih:=j2h a b l hne;rw[e1,e2]at ih;rw[if_neg hx,if_neg hx,if_neg hx,<-ih,cmn,cmn];simp
  ·rw[if_neg hxy]
   have h0:cmn (if x=10 then []::h1::t1 else(x::h1)::t1) (if y=10 then []::h2::t2 else(y::h2)::t2)=0:=by
    by_cases hx:x=10
    ·have A:y≠10:=fun e=>hxy (by rw[hx,e])
     rw[if_pos hx,if_neg A,cmn,if_neg (by simp)]
    ·by_cases A:y=10
     ·rw[if_neg hx,if_pos A,cmn,if_neg (by simp)]
     ·rw[if_neg hx,if_neg A,cmn,if_neg (by simp[hxy])]
   rw[h0];rfl
theorem j2i{α β:Type}[DecidableEq α] [DecidableEq β](f:α->β)(hf:∀x y,f x=f y->x=y):∀a b:List α,cmn (a.map f) (b.map f)=cmn a b
 | [],b=>by simp[cmn]
 | x::a,[]=>by simp[cmn]
 | x::a,y::b=>by
  rw[List.map_cons,List.map_cons,cmn,cmn,j2i f hf a b];by_cases h:x=y
  ·rw[if_pos h,if_pos (by rw[h])]
  ·rw[if_neg h,if_neg (fun e=>h (hf x y e))]
theorem v6a{α:Type}[DecidableEq α]:∀(a b:List α)(n:Nat),a.take n=b.take n->n<=a.length->n<=b.length->(∀(h1:n<a.length)(h2:n<b.length),a[n]≠b[n])->cmn a b=n
 | [],b,n,_,h,_,_=>by
  have:n=0:=Nat.le_zero.1 h
  subst this;simp[cmn]
 | x::a,[],n,_,_,h,_=>by
  have:n=0:=Nat.le_zero.1 h
  subst this;simp[cmn]
 | x::a,y::b,0,_,_,_,hd=>by
  have:=hd (by simp) (by simp)
  rw[cmn,if_neg (by simpa using this)]
 | x::a,y::b,n+1,ht,ha,hb,hd=>by
  rw[List.take_succ_cons,List.take_succ_cons]at ht;obtain⟨rfl,hu⟩:=List.cons.inj ht
  rw[cmn,if_pos rfl,v6a a b n hu (by simpa using ha) (by simpa using hb) (fun h1 h2=>by
   have:=hd (by simpa using h1) (by simpa using h2)
   simpa using this)]
theorem y1a(x y:List UInt8)(h:(⟨x.toArray⟩:ByteArray)=⟨y.toArray⟩):x=y:=by
 have:=congrArg (fun b:ByteArray=>b.data.toList) h
 simpa using this
theorem j2g(a b:ByteArray)(n:Nat)(ht:(q1x a).take n=(q1x b).take n)(ha:n<=(q1x a).length)(hb:n<=(q1x b).length)(hd:∀(h1:n<(q1x a).length)(h2:n<(q1x b).length),(q1x a)[n]≠(q1x b)[n]):cmn (lns a.data.toList) (lns b.data.toList)=n:=by
 rw[<-j2i (fun l:List UInt8=>(⟨l.toArray⟩:ByteArray)) y1a];exact v6a _ _ n ht ha hb hd
def ltA:List Td:=[⟨7,⟨#[97]⟩,0⟩,⟨1,⟨#[]⟩,1⟩]
abbrev ltI:List UInt8:=[108,101,116,32,97,61,49,59,10]
abbrev ltO:List UInt8:=[108,101,116,32,97,32,61,32,49,59,10]
theorem j5p:(q0o [ltA]).2=0:=by decide +kernel
theorem v6v:q2n ltA=[108,101,116,32,97,32,61,32,49,59]:=by decide +kernel
theorem y5d:fmE [ltA]=0:=by decide +kernel
theorem j5q:q6l (wbS ltI) [ltA] 0 0:=by
 refine .ok (by decide +kernel) ?_ j5p;have h:=z2c [ltA] 0 false [] (z0u j5p).2 (fun h=>by cases h);have A:[ltA].flatMap k6y=q2x (btL (wbS ltI)):=by decide +kernel
 rw[A]at h;exact h
theorem j5o:q2j 40 [ltA]=ltO:=by
 have A:q2j 40 [ltA]=q5g 40 ltA:=by simp[q2j]
 rw[A,v3n (z3m _ _ (z0u j5p).2 ltA (by simp)) (by rw[v6v];decide),v6v];rfl
theorem y5e:frP [ltA] []=1:=by decide +kernel
abbrev ltS:List UInt8:=[43,108,101,116,32,97,61,49,59,10,115,101,116,10,116,101,120,116,10,108,111,111,107,10,102,108,121]
abbrev ltT:List UInt8:=[111,107,10,49,10,124,108,101,116,32,97,32,61,32,49,59,10,111,107,10,48,10,98,97,100,10]
theorem y8x:rl ltS=[[43,108,101,116,32,97,61,49,59],y3l,k9y,k8v,[102,108,121]]:=by decide +kernel
theorem y8w:brS ltO=124::ltO:=by decide +kernel
theorem y0r:q1u 1=[49]:=by decide +kernel
theorem y0q:q1u 0=[48]:=by decide +kernel
theorem y4w(x:List UInt8):kdL (43::x)=.add x:=by rw[kdL,if_pos (show(43::x).head?=some 43 from rfl)];rfl
theorem y4y:kdL y3l=.set:=by rw[kdL,if_neg (by decide),if_neg (by decide),if_pos rfl]
theorem v9w:kdL k9y=.text:=by rw[kdL,if_neg (by decide),if_neg (by decide),if_neg (by decide),if_pos rfl]
theorem v9t:kdL k8v=.look:=by rw[kdL,if_neg (by decide),if_neg (by decide),if_neg (by decide),if_neg (by decide),if_pos rfl]
theorem y4x:kdL [102,108,121]=.bad:=by rw[kdL,if_neg (by decide),if_neg (by decide),if_neg (by decide),if_neg (by decide),if_neg (by decide),if_neg (by decide)]
theorem y5f:∃τ,RnR ⟨[],[],40⟩ (rl ltS) ltT τ:=by
 rw[y8x];have D:=LnR.add (σ:=⟨[],[],40⟩) [108,101,116,32,97,61,49,59];have A:=LnR.set (σ:=⟨ltI,[],40⟩) j5q y5d;have B:=LnR.text (σ:=⟨ltI,[ltA],40⟩);have C:=LnR.look (σ:=⟨ltI,[ltA],40⟩) j5q y5d;have E:=LnR.bad (σ:=⟨ltI,[ltA],40⟩);dsimp only at D A B C;rw[y5e,y0r]at A;rw[j5o,y8w]at B
 have G:lkA (fdL ltI ltO 0)=[48,10]:=by
  have:fdL ltI ltO 0=0:=by decide +kernel
  rw[this,lkA,if_neg (by decide),Int.toNat_zero,y0q];rfl
 rw[j5o,G]at C;rw[<-y4w]at D;rw[<-y4y]at A;rw[<-v9w]at B;rw[<-v9t]at C;rw[<-y4x]at E;have h:=RnR.cons D (RnR.cons A (RnR.cons B (RnR.cons C (RnR.cons E (RnR.nil _)))));exact⟨_,h⟩
def y9k:List UInt8:=[116,111,111,32,108,111,110,103,10]
def j0x(s:ByteArray)(ans:List UInt8):Prop:=(3000<s.size->ans=y9k)/\(s.size<=3000->∃τ,RnR ⟨[],[],40⟩ (rl (btL s)) ans τ)
theorem v3y{s:ByteArray}{a b:List UInt8}(h:j0x s a)(h':j0x s b):a=b:=by
 rcases Nat.lt_or_ge 3000 s.size with A|A
 ·rw[h.1 A,h'.1 A]
 ·obtain⟨_,B⟩:=h.2 A;obtain⟨_,C⟩:=h'.2 A;exact(z7t B C).1
def Cm(s:ByteArray)(k m:Nat)(done:Bool):Prop:=∃A r,(btL s).take k=lnF A++r/\(∀l∈A,(10:UInt8)∉l)/\(10:UInt8)∉r/\A.length=m/\(done=true->r=[])
theorem v1a(s:ByteArray)(d:Bool):Cm s 0 0 d:=⟨[],[],rfl,by simp,by simp,rfl,fun _=>rfl⟩
theorem v8w{s:ByteArray}{k m:Nat}{d:Bool}(h:Cm s k m false)(hk:k<s.size)(hc:s[k]=10):Cm s (k+1) (m+1) d:=by
 obtain⟨A,r,e,E,G,H,_⟩:=h;have C:k<(btL s).length:=by rw[q0b];exact hk
 have D:(btL s)[k]=10:=hc;refine⟨A++[r],[],?_,?_,by simp,by rw[List.length_append,H];rfl,fun _=>rfl⟩
 ·rw[List.take_succ_eq_append_getElem C,e,D,z7f,List.append_nil,List.append_assoc]
 ·intro l B;rcases List.mem_append.1 B with B|B
  ·exact E l B
  ·rw[List.mem_singleton.1 B];exact G
theorem v8v{s:ByteArray}{k m:Nat}(h:Cm s k m false)(hk:k<s.size)(hc:¬s[k]=10):Cm s (k+1) m false:=by
 obtain⟨A,r,e,D,E,G,_⟩:=h;have B:k<(btL s).length:=by rw[q0b];exact hk
 have C:(btL s)[k]=s[k]:=rfl;refine⟨A,r++[s[k]],?_,D,?_,G,fun h=>by cases h⟩
 ·rw[List.take_succ_eq_append_getElem B,e,C,List.append_assoc]
 ·simp only[List.mem_append,List.mem_singleton,not_or];exact⟨E,fun q=>hc q.symm⟩
theorem j2f{s:ByteArray}{k m:Nat}(h:Cm s k m true)(hs:s.size<=3000){a b:List UInt8}(h1:j0x s a)(h2:j0x (s.extract 0 k) b):∃c,a=b++c:=by
 obtain⟨A,r,e,G,_,_,H⟩:=h;obtain rfl:=H rfl;rw[List.append_nil]at e
 have D:btL (s.extract 0 k)=lnF A:=by
  rw[<-e]
  show(s.extract 0 k).data.toList=s.data.toList.take k
  rw[Lib.extract_eq];simp
 have E:btL s=lnF A++(btL s).drop k:=by rw[<-e,List.take_append_drop]
 have I:(s.extract 0 k).size<=3000:=by
  rw[ByteArray.size_extract];omega
 obtain⟨_,B⟩:=h1.2 hs;obtain⟨_,C⟩:=h2.2 I;rw[E]at B;rw[D]at C;exact j7g G B C
theorem y0s{a:List UInt8}(h:j0x (wbS ltS) a):a=ltT:=by
 obtain⟨_,A⟩:=h.2 (by decide);obtain⟨_,B⟩:=y5f;exact(z7t A B).1
abbrev y8i:Prop:=∀(s:ByteArray)(W:World),Rtb W->Calls prog 6 #[.string s] W fun e w'=>∃ans,e=.returned (.string (wbS ans))/\j0x s ans/\ans.length<=1000000000000/\Below W W w'
theorem z7u(hR:y8i)(s:ByteArray)(n:Int)(hs:s.size<=9223372036854775807)(hn:n<=9223372036854775807)(w:World)(ht:Rtb w):
  Calls prog 4 #[.string s,.int .i64 n] w fun e w'=>e=.returned (.bool true)/\Below w w w':=by
 have K:Hid (∀(t:ByteArray)(W:World),Below w w W->Calls prog 6 #[.string t] W fun e w'=>∃ans,e=.returned (.string (wbS ans))/\j0x t ans/\ans.length<=1000000000000/\Below W W w'):=fun t W h=>hR t W (ht.W h)
 have p:Hid (Calls prog 6 #[.string (wbS ltS)] w fun e w'=>e=.returned (.string (wbS ltT))/\Below w w w'):=by
  refine(hR (wbS ltS) w ht).mono ?_;rintro e w'⟨a,rfl,J,_,H⟩;exact⟨by rw[y0s J],H⟩
 clear hR ht;go_in;go_wp2_with fail;refine p.o.mono ?_;rintro e w1⟨rfl,q⟩;have D:Hid (Below w w w1):=q;have x:((wbS ltT).toList==[111,107,10,49,10,124,108,101,116,32,97,32,61,32,49,59,10,111,107,10,48,10,98,97,100,10])=true:=by rw[ByteArray.toList_eq];decide
 clear q p;generalize wbS ltT=FT at *;by_cases u:3000<s.size
 ·have O:(3000:Int)<(s.size:Int):=by omega
  go_wp2;go_ret;exact⟨rfl,D.o⟩
 ·have O:¬(3000:Int)<(s.size:Int):=by omega
  by_cases v:n<0
  ·go_wp2;go_ret;exact⟨rfl,D.o⟩
  ·obtain⟨C,rfl⟩:∃C:Nat,n=(C:Int):=⟨n.toNat,by omega⟩;have g:s.size<=3000:=by omega
   have z:(C:Int)<=9223372036854775807:=hn;clear u O v hs hn;go_wp2_with fail
   go_loopw [1,6] (fun n i wr=>Below w w wr/\∃j k:Nat,n=.int .i64 (j:Int)/\i=.int .i64 (k:Int)/\k<=s.size/\j<=C/\Cm s k (C-j) (decide (j=0))) (fun _ i _=>s.size-(intOf i).toNat)
   case atStart=>exact⟨by first|exact D.o|exact q3b D.o _,C,0,rfl,rfl,Nat.zero_le _,Nat.le_refl _,by rw[Nat.sub_self];exact v1a _ _⟩
   case round=>
    obtain⟨P,j,k,rfl,rfl,hk,y,S⟩:=hrel;have A:Hid (Below w w wr):=P;clear P D;by_cases V:j=0
    ·subst V
     have G:Hid (Cm s k (C-0) true):=by
      show Cm s k (C-0) true;simpa using S
     clear S;go_wp2_with fail;refine(K.o _ _ (by first|exact A.o|exact q3b A.o _)).mono ?_;rintro e m⟨a,rfl,J,U,M⟩;have B:Hid (Below w w m):=q0g (by first|exact A.o|exact q3b A.o _) Zl M;have L:Hid (j0x s a):=J;clear J M A;go_wp2_with fail;refine(K.o _ _ B.o).mono ?_;rintro e o⟨b,rfl,H,l,N⟩;have E:Hid (Below w w o):=q0g B.o Zl N;obtain⟨c,rfl⟩:=j2f G.o g L.o H;have q1:(wbS b).size<=(wbS (b++c)).size:=by rw[q7t,q7t,List.length_append];omega
     have q2:(wbS (b++c)).extract 0 (wbS b).size=wbS b:=by
      apply ByteArray.ext;apply Array.ext';rw[q7t,Lib.extract_eq];simp[wbS]
     have q3:(wbS (b++c)).size<=1000000000000:=by rw[q7t];exact U
     have q4:((wbS b).toList==(wbS b).toList)=true:=by simp
     clear H N L B G U l K;generalize wbS (b++c)=X at *;generalize wbS b=Y at *;have q5:(Y.size:Int)<=(X.size:Int):=by omega
     go_wp2;go_ret;exact⟨rfl,by first|exact E.o|exact q3b E.o _⟩
    ·have g0:(0:Int)<(j:Int):=by omega
     have G:Hid (Cm s k (C-j) false):=by
      show Cm s k (C-j) false;simpa[V]using S
     clear S;by_cases Q:k<s.size
     ·have f:(k:Int)<(s.size:Int):=by omega
      by_cases ht:s[k]=10
      ·have r:((s[k].toNat:Nat):Int)=10:=by rw[ht];rfl
       have I:Hid (Cm s (k+1) (C-(j-1)) (decide (j-1=0))):=by
        have R:=v8w (d:=decide (j-1=0)) G.o Q ht;rw[show C-j+1=C-(j-1) by omega]at R;exact R
       clear ht G;go_wp2
       go_roundw
       case rel=>exact⟨by first|exact A.o|exact q3b A.o _,j-1,k+1,by go_num,by go_num,by omega,by omega,I.o⟩
       case measure=>simp[intOf];omega
      ·have r:((((s[k].toNat:Nat):Int))==10)=false:=by
        simp only[beq_eq_false_iff_ne,ne_eq];exact fun e=>ht (UInt8.toNat_inj.1 (by simpa using(by omega:s[k].toNat=10)))
       have I:Hid (Cm s (k+1) (C-j) (decide (j=0))):=by
        have R:=v8v G.o Q ht;rw[decide_eq_false V];exact R
       clear ht G;go_wp2
       go_roundw
       case rel=>exact⟨by first|exact A.o|exact q3b A.o _,j,k+1,rfl,by go_num,by omega,y,I.o⟩
       case measure=>simp[intOf];omega
     ·have f:¬(k:Int)<(s.size:Int):=by omega
      obtain rfl:k=s.size:=by omega
      have Z:s.extract 0 s.size=s:=by
       apply ByteArray.ext;simp
      clear G;go_wp2_with fail;refine(K.o _ _ (by first|exact A.o|exact q3b A.o _)).mono ?_;rintro e m⟨a,rfl,J,U,M⟩;have B:Hid (Below w w m):=q0g (by first|exact A.o|exact q3b A.o _) Zl M;have L:Hid (j0x s a):=J;clear J M A;go_wp2_with fail;refine(K.o _ _ B.o).mono ?_;rintro e o⟨b,rfl,H,l,N⟩;have E:Hid (Below w w o):=q0g B.o Zl N
      try rw[Z]at H
      obtain rfl:=v3y L.o H;have q4:((wbS a).toList==(wbS a).toList)=true:=by simp
      clear H N L B U l K;generalize wbS a=X at *;go_wp2;go_ret;exact⟨rfl,by first|exact E.o|exact q3b E.o _⟩
end Go.Proofs.YtelcnplcpboonaaGreatDoor
namespace Go.Proofs.YtelcnplcpboonaaGreatDoor
open Go.ChangeShapes Go.WideShapes Go.RowKit
set_option maxRecDepth 100000
theorem z2s{A tn:String}{d:DataW Unit}{rest:List (String × DataW Unit)}{W:World}{g:Nat}(hg:prog.globalNamed A=some g)(H:(prog.globals[g]?).map (·.type)=some 43)
  (h:laidMet prog ((A,.iface tn d)::rest) W):ErV g W:=by
 obtain⟨M,⟨L,N,K,B,p,q,E,G,D,C,_,_⟩,_⟩:=h;obtain rfl:=Option.some.inj (hg.symm.trans E);obtain rfl:=Option.some.inj (H.symm.trans G);have J:=Tryz.underlying43;have I:=World.var?_cell hg D 0;cases B with
 | zero=>simp[DataW.trod]at C
 | succ n=>
  unfold DataW.trod at C;rw[J]at C
  split at C
  all_goals (try (cases C;done))
  all_goals (try (rename_i e2;cases e2;done))
  all_goals (try (rename_i e1 e2;cases e1;done))
  rename_i u v _ e;refine⟨u,v,I.trans ?_⟩;rw[<-Array.getElem?_toList,e];rfl
theorem k3q{n:Int}(h:(Lit.int .i64 n).wf=true):n<=9223372036854775807:=by
 simp only[Lit.wf,Bool.and_eq_true,decide_eq_true_eq]at h;exact h.2
theorem y2r{W:World}(h:laidMetH prog v4o W):Rtb W:=by
 have h0:=(laidMetH_iff.1 h).1;refine⟨v4q h,k9u h,?_,?_⟩
 ·have h1 := h0.filter (fun x => x.1 == "strconv.ErrSyntax")
  have e : ((v4o.filter fun x => x.2.handleName?.isNone).filter fun x => x.1 == "strconv.ErrSyntax") = [("strconv.ErrSyntax", Rows.laid_strconv_ErrSyntax)] := by rfl
  rw[e]at h1;exact z2s (by kernel_rfl) (by kernel_rfl) h1
 ·have h1 := h0.filter (fun x => x.1 == "strconv.ErrRange")
  have e : ((v4o.filter fun x => x.2.handleName?.isNone).filter fun x => x.1 == "strconv.ErrRange") = [("strconv.ErrRange", Rows.laid_strconv_ErrRange)] := by rfl
  rw[e]at h1;exact z2s (by kernel_rfl) (by kernel_rfl) h1
end Go.Proofs.YtelcnplcpboonaaGreatDoor
