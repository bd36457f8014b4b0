import Derived.Test.YtfdppahhbpfnoaaGreatDoorPb00
import Derived.Deep.OwnRows
import Derived.Deep.AppendLies
import Derived.OwnWalk
import Derived.Lib.SmallJoins
import Derived.Laws.AppendOwn
import Derived.Laws.AppendOwnNone
open Go.Proofs.Tryz
namespace Go.Proofs.YtfdppahhbpfnoaaGreatDoor
open Go Go.RowKit
def z5g(B:Nat)(w:World)(a:Option Addr)(ws:List ByteArray):Prop:=
 ∀i(h:i<ws.length),∃b o,a=some ⟨b,o,none⟩/\b<B/\w.cell? ⟨b,o+i,none⟩=some (.string ws[i])
theorem z5g.W{B:Nat}{w w':World}{a:Option Addr}{ws:List ByteArray}(h:z5g B w a ws)(hb:Below B w w'):z5g B w' a ws:=by
 intro i D;obtain⟨b,o,e,A,C⟩:=h i D;exact⟨b,o,e,A,(hb.cell (p:=⟨b,_,none⟩) A).trans C⟩
theorem z5g.up{B B':Nat}{w:World}{a:Option Addr}{ws:List ByteArray}(h:z5g B w a ws)(hB:B<=B'):z5g B' w a ws:=by
 intro i C;obtain⟨b,o,e,D,A⟩:=h i C;exact⟨b,o,e,by omega,A⟩
theorem z5g.nil(B:Nat)(w:World)(a:Option Addr):z5g B w a []:=fun i hi=>by simp at hi
theorem z5g.take{B:Nat}{w:World}{a:Option Addr}{ws:List ByteArray}(h:z5g B w a ws)(k:Nat):z5g B w a (ws.take k):=by
 intro i E;have A:i<ws.length:=by simp at E;omega
 obtain⟨b,o,e,C,D⟩:=h i A;exact⟨b,o,e,C,by rw[List.getElem_take];exact D⟩
theorem z5g.drop{B:Nat}{w:World}{b o:Nat}{ws:List ByteArray}(h:z5g B w (some ⟨b,o,none⟩) ws)(k:Nat):z5g B w (some ⟨b,o+k,none⟩) (ws.drop k):=by
 intro i E;have A:k+i<ws.length:=by simp at E;omega
 obtain⟨G,H,e,C,D⟩:=h (k+i) A;simp only[Option.some.injEq,Addr.mk.injEq,and_true]at e;obtain⟨rfl,rfl⟩:=e;refine⟨b,o+k,rfl,C,?_⟩;rw[List.getElem_drop,Nat.add_assoc];exact D
theorem z5g.some{B:Nat}{w:World}{a:Option Addr}{ws:List ByteArray}(h:z5g B w a ws)(h0:0<ws.length):∃b o,a=some ⟨b,o,none⟩/\b<B:=by
 obtain⟨b,o,e,A,_⟩:=h 0 h0;exact⟨b,o,e,A⟩
abbrev Wds(w:World)(a:Option Addr)(ws:List ByteArray):Prop:=z5g w.heap.size w a ws
theorem Wds.W{w w':World}{a:Option Addr}{ws:List ByteArray}(h:Wds w a ws)(hb:Below w w w'):Wds w' a ws:=(z5g.W h hb).up hb.size
def q2q(B:Nat)(w:World)(a:Option Addr)(ws:List Int):Prop:=
 ∀i(h:i<ws.length),∃b o,a=some ⟨b,o,none⟩/\b<B/\w.cell? ⟨b,o+i,none⟩=some (.int .i64 ws[i])
theorem q2q.W{B:Nat}{w w':World}{a:Option Addr}{ws:List Int}(h:q2q B w a ws)(hb:Below B w w'):q2q B w' a ws:=by
 intro i D;obtain⟨b,o,e,A,C⟩:=h i D;exact⟨b,o,e,A,(hb.cell (p:=⟨b,_,none⟩) A).trans C⟩
theorem q2q.rest{B:Nat}{w:World}{b o:Nat}{x:Int}{ws:List Int}(h:q2q B w (some ⟨b,o,none⟩) (x::ws)):q2q B w (some ⟨b,o+1,none⟩) ws:=by
 intro i E;obtain⟨D,G,e,A,C⟩:=h (i+1) (by simp;omega);simp only[Option.some.injEq,Addr.mk.injEq,and_true]at e;obtain⟨rfl,rfl⟩:=e;refine⟨b,o+1,rfl,A,?_⟩;rw[show o+1+i=o+(i+1) by omega];exact C
theorem q2q.slid{B:Nat}{w:World}{b o cap:Nat}{x:Int}{ws:List Int}(h:q2q B w (some ⟨b,o,none⟩) (x::ws))(hc:ws.length+1<=cap):
  q2q B w (if cap=1 then some ⟨b,o,none⟩else some ⟨b,o+1,none⟩) ws:=by
 by_cases A:cap=1
 ·have:ws=[]:=List.eq_nil_of_length_eq_zero (by omega)
  subst this;exact fun i hi=>by simp at hi
 ·rw[if_neg A];exact h.rest
abbrev q7w(w:World)(a:Option Addr)(ws:List Int):Prop:=q2q w.heap.size w a ws
theorem q2q.up{B B':Nat}{w:World}{a:Option Addr}{ws:List Int}(h:q2q B w a ws)(hB:B<=B'):q2q B' w a ws:=by
 intro i C;obtain⟨b,o,e,D,A⟩:=h i C;exact⟨b,o,e,by omega,A⟩
theorem q7w.W{w w':World}{a:Option Addr}{ws:List Int}(h:q7w w a ws)(hb:Below w w w'):q7w w' a ws:=(q2q.W h hb).up hb.size
set_option maxRecDepth 100000
theorem y3s(a:Option Addr)(n c k:Nat)(hk:k<=c)(W:World):
  (Instr.slice 58 (.slice a n c) none (some (.int .i64 (k:Int))) none).run prog W=.ok (.slice a k c) W:=by
 rw[run_slice_h W 58 a n c Tryz.underlying58 .i64 (k:Int) (by omega) (by omega)];have A:(sizeOf (prog.elem 58)).run prog W=.ok 1 W:=by kernel_rfl
 rw[A];simp[Result.andThen,sliced,Addr.add]
theorem y3t{B:Nat}{w:World}{b o c k:Nat}{ws:List ByteArray}(h:z5g B w (some ⟨b,o,none⟩) ws)(hk:k<=ws.length)(hc:ws.length<=c):
  ∃A,(∀W:World,(Instr.slice 58 (.slice (some ⟨b,o,none⟩) ws.length c) (some (.int .i64 (k:Int))) none none).run prog W=.ok (.slice A (ws.drop k).length (c-k)) W)/\z5g B w A (ws.drop k):=by
 refine⟨if c=k then some ⟨b,o,none⟩else some ⟨b,o+k,none⟩,fun W=>?_,?_⟩
 ·rw[run_slice_l W 58 _ ws.length c Tryz.underlying58 .i64 (k:Int) (by omega) (by omega)];have D:(sizeOf (prog.elem 58)).run prog W=.ok 1 W:=by kernel_rfl
  rw[D]
  have C:(⟨b,o,none⟩:Addr).add k=⟨b,o+k,none⟩:=by
   unfold Addr.add
   split
   ·rename_i h;subst h;rfl
   ·rfl
  simp[Result.andThen,sliced,C]
 ·by_cases e:c=k
  ·have:ws.drop k=[]:=List.drop_eq_nil_of_le (by omega)
   rw[this];exact z5g.nil _ _ _
  ·rw[if_neg e];exact h.drop k
theorem y7s(b o n c i k:Nat)(hi:i<c)(hk:i+k<=c)(W:World):
  (Instr.slice 58 (.slice (some ⟨b,o,none⟩) n c) (some (.int .i64 (i:Int))) (some (.int .i64 ((i:Int)+(k:Int)))) none).run prog W=.ok (.slice (some ⟨b,o+i,none⟩) k (c-i)) W:=by
 rw[run_slice_lh W 58 _ n c Tryz.underlying58 .i64 .i64 (i:Int) ((i:Int)+(k:Int)) (by omega) (by omega) (by omega)];have E:(sizeOf (prog.elem 58)).run prog W=.ok 1 W:=by kernel_rfl
 rw[E]
 have D:(⟨b,o,none⟩:Addr).add i=⟨b,o+i,none⟩:=by
  unfold Addr.add
  split
  ·rename_i h;subst h;rfl
  ·rfl
 have A:((i:Int)+(k:Int)).toNat=i+k:=by omega
 have B:¬c=i:=by omega
 have C:i+k-i=k:=by omega
 simp[Result.andThen,sliced,D,A,B,C]
theorem z6b:(prog.info? 3).map (fun i=>(i.zero,i.size,i.bytes))=some (some (.int .i64 0),1,8):=by kernel_rfl
theorem z4p:(prog.info? 9).map (fun i=>(i.zero,i.size,i.bytes))=some (some (.string ⟨#[]⟩),1,16):=by kernel_rfl
def k0j(w:World)(b n:Nat):Prop:=∃cs T,w.heap[b]?=some (.cells cs T (0,0))/\cs.size=n
theorem k0j.lt{w:World}{b n:Nat}(h:k0j w b n):b<w.heap.size:=by
 obtain⟨B,T,h,_⟩:=h;rcases Nat.lt_or_ge b w.heap.size with A|A
 ·exact A
 ·simp[Array.getElem?_eq_none A]at h
theorem k0j.cell{w:World}{b n i:Nat}(h:k0j w b n)(hi:i<n):∃y,w.cell? ⟨b,i,none⟩=some y:=by
 obtain⟨A,T,h,B⟩:=h;refine⟨A[i],?_⟩;simp[World.cell?,h]
theorem k0j.frozen{w:World}{b n i:Nat}(h:k0j w b n):w.frozen? ⟨b,i,none⟩=false:=by
 obtain⟨A,T,h,B⟩:=h;simp[World.frozen?,h]
theorem k0j.kept{w w':World}{b n:Nat}(h:k0j w b n)(hb:w'.heap[b]?=w.heap[b]?):k0j w' b n:=by
 obtain⟨A,T,h,B⟩:=h;exact⟨A,T,hb.trans h,B⟩
theorem k0j.set{w:World}{b n c i:Nat}{v:Value}(h:k0j w b n):k0j (w.setCell ⟨c,i,none⟩ v) b n:=by
 by_cases e:c=b
 ·subst e;obtain⟨A,T,h,B⟩:=h;exact⟨A.setIfInBounds i v,T,by simp[World.setCell,Array.getElem?_modify,h],by simpa using B⟩
 ·exact h.kept (Below.heap_setCell _ _ _ _ (Ne.symm e))
theorem k2k{n j:Nat}(z:Value)(h:j<n):(madeCells #[z] n)[j]?=some z:=by
 simp[madeCells,h,Nat.mod_one]
def q2c(ks:List Nat):List Value:=ks.map fun(k:Nat)=>.int .i64 (k:Int)
theorem z2d(a b:List Nat):q2c (a++b)=q2c a++q2c b:=by simp[q2c]
def z3d(B:Nat)(v:Value)(ks:List Nat)(w:World):Prop:=w.ownsRow B 3 1 v ks.length (q2c ks)
theorem q3b{B:Nat}{w w':World}(h:Below B w w')(n:Nat):Below B w (w'.drewN n):=h.trans ⟨rfl,rfl,rfl,Nat.le_refl _,fun _ _=>rfl⟩
theorem j2v{B:Nat}{w w':World}{b1 o1 b2 o2:Nat}{v1 v2:Value}(h:Below B w w')(h1:B<=b1)(h2:B<=b2):Below B w ((w'.setCell ⟨b1,o1,none⟩ v1).setCell ⟨b2,o2,none⟩ v2):=
 (h.setCell (p:=⟨b1,o1,none⟩) h1 _).setCell (p:=⟨b2,o2,none⟩) h2 _
theorem j1b{B:Nat}{w:World}{A:Option Addr}{n c:Nat}{ks:List Nat}(h:z3d B (.slice A n c) ks w)(j:Nat)(hj:j<ks.length):∃g,A=some ⟨g,0,none⟩/\g<w.heap.size/\w.cell? ⟨g,j,none⟩=some (.int .i64 ((ks[j]:Nat):Int)):=by
 rcases h.2 with⟨E,K⟩|⟨g,c,H,E,_,G,I,_,J,C⟩
 ·omega
 ·simp only[Value.slice.injEq]at E;obtain⟨rfl,rfl,rfl⟩:=E;refine⟨g,rfl,(Array.getElem?_eq_some_iff.1 G).1,?_⟩;have D:(q2c ks)[j]?=some (.int .i64 ((ks[j]:Nat):Int)):=by simp[q2c,hj]
  rw[<-C]at D;rw[List.getElem?_take_of_lt (by omega)]at D;simp only[World.cell?,G];simpa using D
theorem q2s{w w':World}{B e A n:Nat}{v:Value}{xs:List Value}(h:w.ownsRow B e A v n xs)(hb:Below w w w'):w'.ownsRow B e A v n xs:=by
 refine⟨h.1,?_⟩;rcases h.2 with G|⟨g,c,D,rfl,H,E,C⟩
 ·exact .inl G
 ·exact .inr ⟨g,c,D,rfl,H,(hb.block g (Array.getElem?_eq_some_iff.1 E).1).trans E,C⟩
def strCells(xs:List ByteArray):List Value:=xs.map fun x=>.string x
theorem q2h(a b:List ByteArray):strCells (a++b)=strCells a++strCells b:=by simp[strCells]
def q2r(B:Nat)(v:Value)(xs:List ByteArray)(w:World):Prop:=w.ownsRow B 9 1 v xs.length (strCells xs)
theorem z0m{B:Nat}{w:World}{A:Option Addr}{n c:Nat}{xs:List ByteArray}(h:q2r B (.slice A n c) xs w):Wds w A xs:=by
 intro j I;rcases h.2 with⟨E,L⟩|⟨g,c,H,E,_,G,J,_,K,C⟩
 ·omega
 ·simp only[Value.slice.injEq]at E;obtain⟨rfl,rfl,rfl⟩:=E;refine⟨g,0,rfl,(Array.getElem?_eq_some_iff.1 G).1,?_⟩;have D:(strCells xs)[j]?=some (.string xs[j]):=by simp[strCells,I]
  rw[<-C]at D;rw[List.getElem?_take_of_lt (by omega)]at D;rw[Nat.zero_add];simp only[World.cell?,G];simpa using D
theorem j8o{w:World}{B e A n k:Nat}{v:Value}{xs:List Value}(h:w.ownsRow B e A v n xs)(hk:v.ownBlock=some k):∃cur,w.heap[k]?=some (.cells cur e (0,0)):=by
 rcases h.2 with⟨rfl,_⟩|⟨g,c,cur,rfl,_,C,_⟩
 ·simp[Value.ownBlock]at hk
 ·simp only[Value.ownBlock,Option.some.injEq]at hk;subst hk;exact⟨cur,C⟩
theorem z9s{w w':World}{B B' e e' A C n n':Nat}{v v':Value}{xs D:List Value}(h:w.ownsRow B e A v n xs)(h':w.ownsRow B' e' C v' n' D)(he:e≠e')(hg:w.grownBy w' v'.ownBlock):w'.ownsRow B e A v n xs:=by
 refine h.kept hg ?_;cases H:v.ownBlock with
 | none=>exact .inl rfl
 | some k=>
  refine .inr fun e0=>?_
  obtain⟨I,G⟩:=j8o h H;obtain⟨J,E⟩:=j8o h' e0.symm;rw[G]at E;cases E;exact he rfl
theorem v3t{s:ByteArray}(h1:1<=s.size)(h2:s.size<=20)(h:∀k(h:k<s.size),q5h s[k]=true):isW s=true:=by
 simp only[isW,h1,h2,decide_true,Bool.true_and,List.all_eq_true];intro b A;obtain⟨i,B,rfl⟩:=List.getElem_of_mem A;exact h i (by rw[<-q1a];exact B)
theorem y2a{s:ByteArray}{k:Nat}(h:k<s.size)(hb:q5h s[k]=false):isW s=false:=by
 cases e:isW s with
 | false=>rfl
 | true=>
  simp only[isW,Bool.and_eq_true,List.all_eq_true]at e
  have:=e.2 s[k] (by
   have:k<s.data.toList.length:=by rw[q1a];exact h
   exact List.getElem_mem this)
  rw[hb]at this;cases this
theorem k6s{b:UInt8}(h:q5h b=false):(b.toNat:Int)<32\/(¬(b.toNat:Int)<32/\126<(b.toNat:Int)):=by
 simp[q5h]at h;omega
theorem j1y{b:UInt8}(h:q5h b=true):¬(b.toNat:Int)<32/\¬126<(b.toNat:Int):=by
 simp[q5h]at h;omega
theorem j9k{s:ByteArray}(h:s.size≠0):¬s.toList=[]:=by
 rw[ByteArray.toList_eq];intro e
 have:=q1a s
 rw[e]at this;exact h this.symm
theorem g2a{op:Int}(h1:¬op<1)(h2:¬9<op):op=1\/op=2\/op=3\/op=4\/op=5\/op=6\/op=7\/op=8\/op=9:=by omega
theorem j4f{ds:List Nd}(h:400<ds.length):q2x ds=3:=by rw[q2x,if_pos h]
theorem j4g{ds:List Nd}{k:Nat}(hl:ds.length<=400)(hk:k<ds.length)(ha:∀x∈ds.take k,q0v x=0)(h:q0v ds[k]≠0):q2x ds=q0v ds[k]:=by
 have e:=k1h ds k hk ha h;rw[q2x,if_neg (by omega),if_neg (by rw[e];exact h),e]
theorem v2x{ds:List Nd}(hl:ds.length<=400)(ha:∀x∈ds,q0v x=0):q2x ds=if q1t ds 0 1=some ds.length then 0 else 2:=by
 rw[q2x,if_neg (by omega),if_pos (z1i ds ha)]
theorem v6b{ds:List Nd}{k:Nat}(h:¬k<ds.length)(ha:∀x∈ds.take k,q0v x=0):∀x∈ds,q0v x=0:=by
 rw[List.take_of_length_le (by omega)]at ha;exact ha
theorem j9y{ds:List Nd}{k:Nat}(h:k<ds.length)(ha:∀x∈ds.take k,q0v x=0)(h0:q0v ds[k]=0):∀x∈ds.take (k+1),q0v x=0:=by
 intro x A;rw[List.take_succ_eq_append_getElem h]at A;rcases List.mem_append.1 A with A|A
 ·exact ha x A
 ·simp at A;subst A;exact h0
set_option maxHeartbeats 4000000
theorem j0e(op:Int)(w:World):Calls prog 142 #[.int .i64 op] w fun e w'=>e=.returned (.int .i64 (pts op))/\w=w':=by
 by_cases A:op=6
 ·subst A;go_in;go_wp2;go_ret;exact⟨rfl,rfl⟩
 by_cases D:op=9
 ·subst D;go_in;go_wp2;go_ret;exact⟨rfl,rfl⟩
 by_cases B:op=7
 ·subst B;go_in;go_wp2;go_ret;exact⟨rfl,rfl⟩
 by_cases C:op=8
 ·subst C;go_in;go_wp2;go_ret;exact⟨rfl,rfl⟩
 have e:pts op=0:=by simp[pts,A,B,C,D]
 rw[e];have E:(op==6)=false:=by simp[A]
 have G:(op==7)=false:=by simp[B]
 have H:(op==8)=false:=by simp[C]
 have I:(op==9)=false:=by simp[D]
 clear e A B C D;go_in;go_wp2;go_ret;exact⟨rfl,rfl⟩
theorem z6c(s:ByteArray)(w:World):Calls prog 141 #[.string s] w fun e w'=>e=.returned (.bool (isW s))/\w=w':=by
 by_cases L:(s.size:Int)<1
 ·have e:isW s=false:=by simp[isW];omega
  rw[e];clear e;go_in;go_wp2;go_ret;exact⟨rfl,rfl⟩
 by_cases M:20<(s.size:Int)
 ·have e:isW s=false:=by simp[isW];omega
  rw[e];clear e;go_in;go_wp2;go_ret;exact⟨rfl,rfl⟩
 go_in;go_wp2
 go_loopw [14] (fun i wr=>wr=w/\∃k:Nat,k<=s.size/\i=.int .i64 k/\∀j(h:j<s.size),j<k->q5h s[j]=true) (fun i _=>s.size-(intOf i).toNat)
 case atStart=>exact⟨rfl,0,Nat.zero_le _,rfl,fun j _ K=>by omega⟩
 case round=>
  obtain⟨rfl,k,N,rfl,A⟩:=hrel;have H:Hid (∀j(h:j<s.size),j<k->q5h s[j]=true):=A;clear A;by_cases G:k<s.size
  ·cases B:q5h s[k]with
   | false=>
    have C:Hid (isW s=false):=y2a G B;have D:=k6s B;clear B;rcases D with D|⟨D,J⟩
    ·go_wp2;go_ret;exact⟨by rw[C.o];rfl,rfl⟩
    ·go_wp2;go_ret;exact⟨by rw[C.o];rfl,rfl⟩
   | true=>
    have I:Hid (q5h s[k]=true):=B;obtain⟨D,J⟩:=j1y B;clear B;go_wp2
    go_roundw
    case rel=>
     refine⟨by trivial,k+1,by omega,by go_num,?_⟩;intro j h K;by_cases E:j=k
     ·subst E;exact I.o
     ·exact H.o j h (by omega)
    case measure=>simp[intOf];omega
  ·have C:Hid (isW s=true):=v3t (by omega) (by omega) fun j h=>H.o j h (by omega)
   go_wp2;go_ret;exact⟨by rw[C.o];rfl,rfl⟩
theorem q9o(x:Nd)(w:World):Calls prog 87 #[g1y x] w fun e w'=>e=.returned (q1m (q0v x))/\Below w w w':=by
 obtain⟨G,C,n⟩:=x;by_cases D:G<1
 ·have e:q0v ⟨G,C,n⟩=1:=by simp[q0v,D]
  rw[e,z5x];clear e;go_in;go_wp2;go_ret;exact⟨rfl,Zb.alloc Zl _⟩
 by_cases E:9<G
 ·have e:q0v ⟨G,C,n⟩=1:=by simp[q0v,E]
  rw[e,z5x];clear e;go_in;go_wp2;go_ret;exact⟨rfl,Zb.alloc Zl _⟩
 rcases g2a D E with rfl|rfl|rfl|rfl|rfl|rfl|rfl|rfl|rfl
 case inl=>
  clear D E;by_cases B:n=0
  ·subst B;cases K:isW C with
   | false=>
    have e:q0v ⟨1,C,0⟩=5:=by simp[q0v,K]
    rw[e,v7n];clear e;go_in;go_wp2_with(go_at_call 141;refine(z6c _ _).mono ?_;rintro e w'⟨rfl,rfl⟩);go_ret;exact⟨rfl,Zb.alloc Zl _⟩
   | true=>
    have e:q0v ⟨1,C,0⟩=0:=by simp[q0v,K]
    rw[e,q0n];clear e;go_in;go_wp2_with(go_at_call 141;refine(z6c _ _).mono ?_;rintro e w'⟨rfl,rfl⟩);go_ret;exact⟨rfl,Zb.alloc Zl _⟩
  ·have e:q0v ⟨1,C,n⟩=2:=by simp[q0v,B]
   rw[e,k1e];have H:(n != 0)=true:=by simp[B]
   clear e B;go_in;go_wp2;go_ret;exact⟨rfl,Zb.alloc Zl _⟩
 case inr.inr.inr.inr.inr.inr.inl=>
  clear D E;by_cases A:C.size=0
  ·obtain rfl:=k3b A;by_cases B:n<0
   ·have e:q0v ⟨7,⟨#[]⟩,n⟩=1:=by simp[q0v,B,A]
    rw[e,z5x];clear e A;go_in;go_wp2;go_ret;exact⟨rfl,Zb.alloc Zl _⟩
   by_cases J:8<n
   ·have e:q0v ⟨7,⟨#[]⟩,n⟩=1:=by simp[q0v,J,A]
    rw[e,z5x];clear e A;go_in;go_wp2;go_ret;exact⟨rfl,Zb.alloc Zl _⟩
   have e:q0v ⟨7,⟨#[]⟩,n⟩=0:=by simp[q0v,B,J,A]
   rw[e,q0n];clear e A;go_in;go_wp2;go_ret;exact⟨rfl,Zb.alloc Zl _⟩
  ·have e:q0v ⟨7,C,n⟩=2:=by simp[q0v,A]
   rw[e,k1e];have I:=j9k A;clear e A;go_in;go_wp2;go_ret;exact⟨rfl,Zb.alloc Zl _⟩
 all_goals
  clear D E;by_cases A:C.size=0
  ·obtain rfl:=k3b A;by_cases B:n=0
   ·subst B;rw[show ∀k:Int,k=0->q1m k=.nilIface from fun k hk=>by rw[hk];rfl]
    ·clear A;go_in;go_wp2;go_ret;exact⟨rfl,Zb.alloc Zl _⟩
    ·simp[q0v,A]
   ·have H:(n != 0)=true:=by simp[B]
    rw[show ∀k:Int,k=2->q1m k=.iface 23 (.int .i64 2)from fun k hk=>by rw[hk];rfl]
    ·clear A B;go_in;go_wp2;go_ret;exact⟨rfl,Zb.alloc Zl _⟩
    ·simp[q0v,B]
  ·have I:=j9k A;rw[show ∀k:Int,k=2->q1m k=.iface 23 (.int .i64 2)from fun k hk=>by rw[hk];rfl]
   ·clear A;go_in;go_wp2;go_ret;exact⟨rfl,Zb.alloc Zl _⟩
   ·simp[q0v,A]
structure But(B b:Nat)(w w':World):Prop where
 os:w'.os=w.os
 tape:w'.tape=w.tape
 output:w'.output=w.output
 size:w.heap.size<=w'.heap.size
 block:∀k,k<B->k≠b->w'.heap[k]?=w.heap[k]?
section
variable {B b:Nat} {w w' a:World}
theorem But.refl(B b:Nat)(w:World):But B b w w:=⟨rfl,rfl,rfl,Nat.le_refl _,fun _ _ _=>rfl⟩
theorem But.trans{c:World}(h:But B b a w)(k:But B b w c):But B b a c:=
 ⟨k.os.trans h.os,k.tape.trans h.tape,k.output.trans h.output,Nat.le_trans h.size k.size,fun i hi hb=>(k.block i hi hb).trans (h.block i hi hb)⟩
theorem But.drew(h:But B b a w):But B b a w.drew:=⟨h.os,h.tape,h.output,h.size,h.block⟩
theorem But.of(h:Below B w w'):But B b w w':=⟨h.os,h.tape,h.output,h.size,fun k hk _=>h.block k hk⟩
theorem But.W(h:But B b w w')(hB:B<=b):Below B w w':=⟨h.os,h.tape,h.output,h.size,fun k hk=>h.block k hk (by omega)⟩
theorem But.mono{B':Nat}(h:But B b w w')(hB:B'<=B):But B' b w w':=⟨h.os,h.tape,h.output,h.size,fun k hk=>h.block k (by omega)⟩
theorem But.alloc(h:But B b a w)(hB:B<=w.heap.size)(o:Obj):But B b a (w.alloc o):=
 h.trans (.of ((Below.refl B w).alloc hB o))
theorem But.setCell(h:But B b a w){p:Addr}(hp:p.block=b\/B<=p.block)(u:Value):But B b a (w.setCell p u):=
 h.trans ⟨rfl,rfl,rfl,by simp[World.setCell],fun k hk hb=>Below.heap_setCell _ _ _ _ (by omega)⟩
theorem But.grown{row:Option Nat}(h:But B b a w)(hg:w.grownBy w' row)(hB:B<=w.heap.size)(hr:∀k,row=some k->B<=k):But B b a w':=
 h.trans ⟨hg.os,hg.tape,hg.output,hg.size,fun k hk _=>hg.block k (by omega) (fun e=>by have:=hr k e.symm;omega)⟩
theorem But.cell(h:But B b w w'){p:Addr}(hp:p.block<B)(hb:p.block≠b):w'.cell? p=w.cell? p:=World.cell?_of_block (w:=w) (h.block p.block hp hb)
end
theorem But.low{B b:Nat}{w w':World}(h:But B b w w'){B':Nat}(hB:B'<=B)(hb:B'<=b):Below B' w w':=(h.mono hB).W hb
theorem z7p(b o k:Nat):(⟨b,o,none⟩:Addr).add k=⟨b,o+k,none⟩:=by
 unfold Addr.add
 split
 ·rename_i h;subst h;rfl
 ·rfl
theorem k7c{w:World}{D:Array Oper}{rest:List Oper}{o:Oper}{a:Act}{Q:Exit->Act->World->Prop}(H:o.guard=none)(s x:Operand)
  (ho:o.op=.call {callee:=.builtin .append,args:=#[s,x],argTypes:=#[58,58]})
  (base:Nat) (v:Value) (xs:List ByteArray) (hs:a.eval s=v) (B:q2r base v xs w)
  (wa:Option Addr) (n:Nat) (ws:List ByteArray) (hn:ws.length=n) (wc:Nat) (hx:a.eval x=.slice wa n wc) (hW:Wds w wa ws) (J:wa=none->n=0/\wc=0)
  (m:Nat) (hm:xs.length+n=m) (hb:m<=1000000) (C:base<=w.heap.size)
  (h:∀A c w',q2r base (.slice A m c) (xs++ws) w'->w.grownBy w' v.ownBlock->wpList prog D Q rest (a.put o.dst (.slice A m c)) w'):wpList prog D Q (o::rest) a w:=by
 subst hn hm;obtain⟨V,U,O,P,R⟩:=info_parts z4p
 have S:∀E w',q2r base E (xs++ws) w'->w.grownBy w' v.ownBlock->wpList prog D Q rest (a.put o.dst E) w':=by
  intro E w' G M
  obtain⟨A,c,rfl⟩:∃A c,E=.slice A (xs.length+ws.length) c:=by
   rcases G.2 with⟨L,K⟩|⟨g,c,W,L,_⟩
   ·rw[List.length_append]at K;exact⟨none,0,by rw[L,K]⟩
   ·rw[List.length_append]at L;exact⟨_,c,L⟩
  exact h A c w' G M
 cases wa with
 | none=>
  obtain⟨K,rfl⟩:=J rfl;obtain rfl:ws=[]:=List.eq_nil_of_length_eq_zero K;refine wpList_append_own_none H s x 58 ho base 9 V 1 Tryz.underlying58 U v xs.length (strCells xs) hs B hx ?_;refine S v w ?_ ⟨rfl,rfl,rfl,Nat.le_refl _,fun _ _ _=>rfl⟩;rw[List.append_nil];exact B
 | some ad=>
  refine wpList_append_own w H s x 58 ho base 9 V _ 1 16 Tryz.underlying58 U O P R rfl (by decide) v xs.length (strCells xs) hs B ad ws.length wc (strCells ws) hx (by simp[strCells]) ?_ ?_ (by unfold maxLen;omega) (by omega) C ?_
  ·intro j u N;have I:j<ws.length:=by have:=(List.getElem?_eq_some_iff.1 N).1;simpa[strCells]using this
   obtain⟨b,o,e,_,c⟩:=hW j I;simp only[Option.some.injEq]at e;subst e;rw[z7p]
   have:u=.string ws[j]:=by simp[strCells,I]at N;exact N.symm
   rw[this];exact c
  ·intro u X;obtain⟨x,_,rfl⟩:=List.mem_map.1 X;rfl
  ·intro E w' G M _;rw[<-q2h]at G;refine S E w' ?_ M;show w'.ownsRow _ _ _ _ _ _;rw[List.length_append];exact G
def q2d(ks:List Int):List Value:=ks.map fun k=>.int .i64 k
theorem q8m(a b:List Int):q2d (a++b)=q2d a++q2d b:=by simp[q2d]
def z5i(B:Nat)(v:Value)(ks:List Int)(w:World):Prop:=w.ownsRow B 3 1 v ks.length (q2d ks)
theorem j0r{B:Nat}{w:World}{A:Option Addr}{n c:Nat}{xs:List Int}(h:z5i B (.slice A n c) xs w):q7w w A xs:=by
 intro j I;rcases h.2 with⟨E,L⟩|⟨g,c,H,E,_,G,J,_,K,C⟩
 ·omega
 ·simp only[Value.slice.injEq]at E;obtain⟨rfl,rfl,rfl⟩:=E;refine⟨g,0,rfl,(Array.getElem?_eq_some_iff.1 G).1,?_⟩;have D:(q2d xs)[j]?=some (.int .i64 xs[j]):=by simp[q2d,I]
  rw[<-C]at D;rw[List.getElem?_take_of_lt (by omega)]at D;rw[Nat.zero_add];simp only[World.cell?,G];simpa using D
theorem v1w{w:World}{D:Array Oper}{rest:List Oper}{o:Oper}{a:Act}{Q:Exit->Act->World->Prop}(H:o.guard=none)(s x:Operand)
  (ho:o.op=.call {callee:=.builtin .append,args:=#[s,x],argTypes:=#[45,45]})
  (base:Nat) (v:Value) (xs:List Int) (hs:a.eval s=v) (B:z5i base v xs w)
  (wa:Option Addr) (n:Nat) (ws:List Int) (hn:ws.length=n) (wc:Nat) (hx:a.eval x=.slice wa n wc) (hW:q7w w wa ws) (J:wa=none->n=0/\wc=0)
  (m:Nat) (hm:xs.length+n=m) (hb:m<=1000000) (C:base<=w.heap.size)
  (h:∀A c w',z5i base (.slice A m c) (xs++ws) w'->w.grownBy w' v.ownBlock->wpList prog D Q rest (a.put o.dst (.slice A m c)) w'):wpList prog D Q (o::rest) a w:=by
 subst hn hm;obtain⟨V,U,O,P,R⟩:=info_parts z6b
 have S:∀E w',z5i base E (xs++ws) w'->w.grownBy w' v.ownBlock->wpList prog D Q rest (a.put o.dst E) w':=by
  intro E w' G M
  obtain⟨A,c,rfl⟩:∃A c,E=.slice A (xs.length+ws.length) c:=by
   rcases G.2 with⟨L,K⟩|⟨g,c,W,L,_⟩
   ·rw[List.length_append]at K;exact⟨none,0,by rw[L,K]⟩
   ·rw[List.length_append]at L;exact⟨_,c,L⟩
  exact h A c w' G M
 cases wa with
 | none=>
  obtain⟨K,rfl⟩:=J rfl;obtain rfl:ws=[]:=List.eq_nil_of_length_eq_zero K;refine wpList_append_own_none H s x 45 ho base 3 V 1 Tryz.underlying45 U v xs.length (q2d xs) hs B hx ?_;refine S v w ?_ ⟨rfl,rfl,rfl,Nat.le_refl _,fun _ _ _=>rfl⟩;rw[List.append_nil];exact B
 | some ad=>
  refine wpList_append_own w H s x 45 ho base 3 V _ 1 8 Tryz.underlying45 U O P R rfl (by decide) v xs.length (q2d xs) hs B ad ws.length wc (q2d ws) hx (by simp[q2d]) ?_ ?_ (by unfold maxLen;omega) (by omega) C ?_
  ·intro j u N;have I:j<ws.length:=by have:=(List.getElem?_eq_some_iff.1 N).1;simpa[q2d]using this
   obtain⟨b,o,e,_,c⟩:=hW j I;simp only[Option.some.injEq]at e;subst e;rw[z7p]
   have:u=.int .i64 ws[j]:=by simp[q2d,I]at N;exact N.symm
   rw[this];exact c
  ·intro u X;obtain⟨x,_,rfl⟩:=List.mem_map.1 X;rfl
  ·intro E w' G M _;rw[<-q8m]at G;refine S E w' ?_ M;show w'.ownsRow _ _ _ _ _ _;rw[List.length_append];exact G
def q1h(ds:List Nd):List Value:=ds.flatMap fun x=>[.int .i64 x.op,.string x.tx,.int .i64 x.n]
theorem q9e:∀ds:List Nd,(q1h ds).length=ds.length*3
 | []=>rfl
 | x::r=>by
  have:=q9e r
  unfold q1h at this⊢;rw[List.flatMap_cons,List.length_append,this,List.length_cons];simp;omega
theorem k5y(a b:List Nd):q1h (a++b)=q1h a++q1h b:=by simp[q1h,List.flatMap_append]
theorem z1r:∀(ds:List Nd)(i:Nat)(h:i<ds.length),(q1h ds)[i*3]?=some (.int .i64 ds[i].op)/\(q1h ds)[i*3+1]?=some (.string ds[i].tx)/\(q1h ds)[i*3+2]?=some (.int .i64 ds[i].n)
 | x::r,0,_=>by simp[q1h]
 | x::r,i+1,h=>by
  have h1:=z1r r i (by simpa using h);have e:q1h (x::r)=.int .i64 x.op::.string x.tx::.int .i64 x.n::q1h r:=by simp[q1h]
  rw[e,show(i+1)*3=i*3+1+1+1 by omega];exact h1
theorem k6a(ds:List Nd):∀u∈q1h ds,u.oneCell'=true:=by
 intro u B;obtain⟨x,_,A⟩:=List.mem_flatMap.1 B;simp at A;rcases A with rfl|rfl|rfl<;>rfl
theorem k5z(ds:List Nd)(j:Nat)(u:Value)(h:(q1h ds)[j]?=some u):∃i,∃hi:i<ds.length,(j=i*3/\u=.int .i64 ds[i].op)\/(j=i*3+1/\u=.string ds[i].tx)\/(j=i*3+2/\u=.int .i64 ds[i].n):=by
 have E:j<ds.length*3:=by rw[<-q9e];exact(List.getElem?_eq_some_iff.1 h).1
 have hi:j / 3<ds.length:=by omega
 obtain⟨A,B,C⟩:=z1r ds (j / 3) hi;refine⟨j / 3,hi,?_⟩;have D:j=j / 3*3\/j=j / 3*3+1\/j=j / 3*3+2:=by omega
 rcases D with e|e|e
 ·rw[<-e,h]at A;exact .inl ⟨e,Option.some.inj A⟩
 ·rw[<-e,h]at B;exact .inr (.inl ⟨e,Option.some.inj B⟩)
 ·rw[<-e,h]at C;exact .inr (.inr ⟨e,Option.some.inj C⟩)
theorem v8i:(prog.info? 107).map (fun i=>(i.zero,i.size,i.bytes))=some (some (.agg #[.int .i64 0,.string ⟨#[]⟩,.int .i64 0]),3,32):=by kernel_rfl
theorem k8x{B:Nat}{w:World}{a:Option Addr}{n cap:Nat}{ds:List Nd}(h:w.ownsRow B 107 3 (.slice a n cap) ds.length (q1h ds)):n=ds.length/\ds.length<=cap/\q2e w a ds:=by
 rcases h.2 with⟨D,H⟩|⟨g,c,M,D,_,L,K,_,P,C⟩
 ·simp only[Value.slice.injEq]at D;obtain⟨rfl,rfl,rfl⟩:=D;refine⟨H.symm,by omega,fun i hi=>?_⟩;omega
 ·simp only[Value.slice.injEq]at D;obtain⟨rfl,rfl,rfl⟩:=D;refine⟨rfl,K,fun i hi=>?_⟩
  have J:g<w.heap.size:=by
   rcases Nat.lt_or_ge g w.heap.size with G|G
   ·exact G
   ·simp[Array.getElem?_eq_none G]at L
  have A:∀k u,(q1h ds)[k]?=some u->w.cell? ⟨g,k,none⟩=some u:=by
   intro k u E;rw[<-C]at E
   have I:k<ds.length*3:=by
    have:=(List.getElem?_eq_some_iff.1 E).1
    simp at this;omega
   rw[List.getElem?_take_of_lt I]at E;simp only[World.cell?,L];simpa using E
  obtain⟨H,N,O⟩:=z1r ds i hi;refine⟨g,0,rfl,J,?_,?_,?_⟩
  ·rw[Nat.zero_add];exact A _ _ H
  ·rw[Nat.zero_add];exact A _ _ N
  ·rw[Nat.zero_add];exact A _ _ O
theorem j7t{w:World}{b o:Nat}{ds:List Nd}(h:q2e w (some ⟨b,o,none⟩) ds):∀j u,(q1h ds)[j]?=some u->w.cell? ((⟨b,o,none⟩:Addr).add j)=some u:=by
 intro j u H;obtain⟨i,G,E⟩:=k5z ds j u H;obtain⟨I,J,e,_,A,B,C⟩:=h i G;simp only[Option.some.injEq,Addr.mk.injEq,and_true]at e;obtain⟨rfl,rfl⟩:=e
 have D:∀k,(⟨b,o,none⟩:Addr).add k=⟨b,o+k,none⟩:=by
  intro k;unfold Addr.add
  split
  ·rename_i h;subst h;rfl
  ·rfl
 rw[D];rcases E with⟨rfl,rfl⟩|⟨rfl,rfl⟩|⟨rfl,rfl⟩
 ·exact A
 ·rw[show o+(i*3+1)=o+i*3+1 by omega];exact B
 ·rw[show o+(i*3+2)=o+i*3+2 by omega];exact C
def q5j(B:Nat)(v:Value)(xs:List Nd)(w:World):Prop:=w.ownsRow B 107 3 v xs.length (q1h xs)
theorem q5j.nods{B:Nat}{w:World}{A:Option Addr}{n c:Nat}{xs:List Nd}(h:q5j B (.slice A n c) xs w):q2e w A xs:=(k8x h).2.2
theorem q5j.none{B:Nat}{w:World}{A:Option Addr}{n c:Nat}{xs:List Nd}(h:q5j B (.slice A n c) xs w):n=xs.length/\(A=none->n=0/\c=0):=by
 rcases h.2 with⟨C,E⟩|⟨g,G,D,C,_⟩
 ·simp only[Value.slice.injEq]at C;obtain⟨rfl,rfl,rfl⟩:=C;exact⟨E.symm,fun _=>⟨rfl,rfl⟩⟩
 ·simp only[Value.slice.injEq]at C;obtain⟨rfl,rfl,rfl⟩:=C;exact⟨rfl,fun e=>by cases e⟩
theorem z7q{w:World}{E:Array Oper}{rest:List Oper}{o:Oper}{a:Act}{Q:Exit->Act->World->Prop}(I:o.guard=none)(s x:Operand)
  (ho:o.op=.call {callee:=.builtin .append,args:=#[s,x],argTypes:=#[49,49]})
  (base:Nat) (v:Value) (xs:List Nd) (hs:a.eval s=v) (B:q5j base v xs w)
  (wa:Option Addr) (n:Nat) (ws:List Nd) (hn:ws.length=n) (wc:Nat) (hx:a.eval x=.slice wa n wc) (hW:q2e w wa ws) (J:wa=none->n=0/\wc=0)
  (m:Nat) (hm:xs.length+n=m) (hb:m<=1000000) (D:base<=w.heap.size)
  (h:∀A c w',q5j base (.slice A m c) (xs++ws) w'->w.grownBy w' v.ownBlock->wpList prog E Q rest (a.put o.dst (.slice A m c)) w'):wpList prog E Q (o::rest) a w:=by
 subst hn hm;obtain⟨U,S,N,O,P⟩:=info_parts v8i
 have R:∀G w',q5j base G (xs++ws) w'->w.grownBy w' v.ownBlock->wpList prog E Q rest (a.put o.dst G) w':=by
  intro G w' H L
  obtain⟨A,c,rfl⟩:∃A c,G=.slice A (xs.length+ws.length) c:=by
   rcases H.2 with⟨K,C⟩|⟨g,c,V,K,_⟩
   ·rw[List.length_append]at C;exact⟨.none,0,by rw[K,C]⟩
   ·rw[List.length_append]at K;exact⟨_,c,K⟩
  exact h A c w' H L
 cases wa with
 | none=>
  obtain⟨C,rfl⟩:=J rfl;obtain rfl:ws=[]:=List.eq_nil_of_length_eq_zero C;refine wpList_append_own_none I s x 49 ho base 107 U 3 Tryz.underlying49 S v xs.length (q1h xs) hs B hx ?_;refine R v w ?_ ⟨rfl,rfl,rfl,Nat.le_refl _,fun _ _ _=>rfl⟩;rw[List.append_nil];exact B
 | some ad=>
  have M:ws=[]\/∃b o,ad=⟨b,o,Option.none⟩:=by
   rcases Nat.eq_zero_or_pos ws.length with C|C
   ·exact .inl (List.eq_nil_of_length_eq_zero C)
   ·obtain⟨b,o,e,_⟩:=hW 0 C;exact .inr ⟨b,o,by simpa using e⟩
  refine wpList_append_own w I s x 49 ho base 107 U _ 3 32 Tryz.underlying49 S N O P rfl (by decide) v xs.length (q1h xs) hs B ad ws.length wc (q1h ws) hx (q9e ws) ?_ (k6a ws) (by unfold maxLen;omega) (by omega) D ?_
  ·rcases M with rfl|⟨b,o,rfl⟩
   ·intro j u W;simp[q1h]at W
   ·exact j7t hW
  ·intro G w' H L _;rw[<-k5y]at H;refine R G w' ?_ L;show w'.ownsRow _ _ _ _ _ _;rw[List.length_append];exact H
theorem q5j.down{B B':Nat}{v:Value}{xs:List Nd}{w:World}(h:q5j B v xs w)(hB:B'<=B):q5j B' v xs w:=by
 refine⟨h.1,?_⟩;rcases h.2 with D|⟨g,c,C,E,G,A⟩
 ·exact .inl D
 ·exact .inr ⟨g,c,C,E,by omega,A⟩
theorem q5j.kept{B:Nat}{v:Value}{xs:List Nd}{w w':World}(h:q5j B v xs w)(hk:∀g,B<=g->g<w.heap.size->w'.heap[g]?=w.heap[g]?):q5j B v xs w':=by
 refine⟨h.1,?_⟩;rcases h.2 with G|⟨g,c,C,H,D,E,A⟩
 ·exact .inl G
 ·exact .inr ⟨g,c,C,H,D,(hk g D (Array.getElem?_eq_some_iff.1 E).1).trans E,A⟩
theorem q5j.one(w:World)(x:Nd):q5j w.heap.size (.slice (some ⟨w.heap.size,0,Option.none⟩) 1 1) [x] (w.alloc (.cells #[.int .i64 x.op,.string x.tx,.int .i64 x.n] 107)):=by
 have A:(w.alloc (.cells #[.int .i64 x.op,.string x.tx,.int .i64 x.n] 107)).heap[w.heap.size]?=some (.cells #[.int .i64 x.op,.string x.tx,.int .i64 x.n] 107 (0,0)):=by
  show(w.heap.push _)[w.heap.size]?=_
  simp
 exact⟨rfl,.inr ⟨w.heap.size,1,_,rfl,Nat.le_refl _,A,Nat.le_refl _,by unfold maxLen;decide,rfl,rfl⟩⟩
theorem z5v(ds:List Nd)(a:Option Addr)(cap i0:Nat)(w:World)(hN:q2e w a ds)(hl:ds.length<=400)(hi:i0<=ds.length):
  Calls prog 88 #[.slice a ds.length cap,.int .i64 i0] w fun e w'=>((∃j:Nat,q1t ds i0 1=some j/\e=.returned (.tuple #[.int .i64 j,.bool true]))\/(q1t ds i0 1=none/\e=.returned (.tuple #[.int .i64 ds.length,.bool false])))/\w=w':=by
 have I:Hid (q2e w a ds):=hN;clear hN;go_in;go_wp2
 go_loopw [1,6] (fun i m wr=>wr=w/\∃k q:Nat,k<=ds.length/\q<=k+1/\i=.int .i64 k/\m=.int .i64 q/\q1t ds i0 1=q1t ds k q) (fun i _ _=>ds.length-(intOf i).toNat)
 case atStart=>exact⟨rfl,i0,1,hi,by omega,rfl,rfl,rfl⟩
 case round=>
  obtain⟨rfl,k,q,P,R,rfl,rfl,H⟩:=hrel;have D:Hid (q1t ds i0 1=q1t ds k q):=H;clear H;by_cases G:q=0
  ·subst G;have A:Hid (q1t ds i0 1=some k):=D.o.trans (j0i _ _);go_wp2;go_ret2;exact⟨.inl ⟨k,A.o,rfl⟩,rfl⟩
  ·obtain⟨C,rfl⟩:∃C,q=C+1:=⟨q-1,by omega⟩;by_cases B:k<ds.length
   ·obtain⟨b,o,M,O,N,K,L⟩:=I.o k B;have J:Hid (q1t ds i0 1=q1t ds (k+1) (pts ds[k].op+C)):=D.o.trans (j0g _ _ _ B);have Q:=v9a ds[k].op;subst M;clear K L G;go_wp2_with(go_at_call 142;refine(j0e _ _).mono ?_;rintro e w'⟨rfl,rfl⟩)
    go_roundw
    case rel=>
     exact⟨by trivial,k+1,pts ds[k].op+C,by omega,by omega,by go_num,by go_num,J.o⟩
    case measure=>simp[intOf];omega
   ·have E:k=ds.length:=by omega
    subst E;have A:Hid (q1t ds i0 1=none):=D.o.trans (j4k _ _ _ (by omega));go_wp2;go_ret2;exact⟨.inr ⟨A.o,rfl⟩,rfl⟩
theorem z3o{ds:List Nd}{i0 j:Nat}(a:Option Addr)(cap:Nat)(w:World)(hN:q2e w a ds)(hl:ds.length<=400)(hi:i0<=ds.length)(h:q1t ds i0 1=some j):
  Calls prog 88 #[.slice a ds.length cap,.int .i64 i0] w fun e w'=>e=.returned (.tuple #[.int .i64 j,.bool true])/\w=w':=
 (z5v ds a cap i0 w hN hl hi).mono fun e w'⟨h1,h2⟩=>⟨by
  rcases h1 with⟨j',e1,e2⟩|⟨e1,_⟩
  ·rw[h]at e1;cases e1;exact e2
  ·rw[h]at e1;(cases e1),h2⟩
theorem k4n{ds:List Nd}{i0:Nat}(a:Option Addr)(cap:Nat)(w:World)(hN:q2e w a ds)(hl:ds.length<=400)(hi:i0<=ds.length)(h:q1t ds i0 1=none):
  Calls prog 88 #[.slice a ds.length cap,.int .i64 i0] w fun e w'=>e=.returned (.tuple #[.int .i64 ds.length,.bool false])/\w=w':=
 (z5v ds a cap i0 w hN hl hi).mono fun e w'⟨h1,h2⟩=>⟨by
  rcases h1 with⟨j',e1,e2⟩|⟨_,e2⟩
  ·rw[h]at e1;cases e1
  ·exact e2,h2⟩
theorem q2u(ds:List Nd)(a:Option Addr)(cap:Nat)(w:World)(hN:q2e w a ds):
  Calls prog 48 #[.slice a ds.length cap] w fun e w'=>e=.returned (q1m (q2x ds))/\Below w w w':=by
 have Q:Hid (q2e w a ds):=hN;clear hN;by_cases Y:400<(ds.length:Int)
 ·rw[j4f (by omega),k7r];go_in;go_wp2;go_ret;exact⟨rfl,Below.refl _ _⟩
 ·have I:ds.length<=400:=by omega
  go_in;go_wp2
  go_loopw [14] (fun i wr=>Below w w wr/\∃k:Nat,k<=ds.length/\i=.int .i64 k/\∀x∈ds.take k,q0v x=0) (fun i _=>ds.length-(intOf i).toNat)
  case atStart=>exact⟨Below.refl _ _,0,Nat.zero_le _,rfl,by simp⟩
  case round=>
   obtain⟨H,k,c,rfl,C⟩:=hrel;have N:Hid (∀x∈ds.take k,q0v x=0):=C;have J:Hid (q2e wr a ds):=Q.o.W H;clear C;by_cases B:k<ds.length
   ·obtain⟨b,o,R,Z,U,V,X⟩:=J.o k B;subst R;by_cases K:q0v ds[k]=0
    ·have G:Hid (q0v ds[k]=0):=K;clear K;go_wp2_with fail;refine(q9o ds[k] _).mono ?_;rintro e M⟨rfl,A⟩;rw[G.o,q0n];have E:=k0t H Zl A;clear A;go_wp2
     go_roundw
     case rel=>exact⟨E,k+1,by omega,by go_num,j9y B N.o G.o⟩
     case measure=>simp[intOf];omega
    ·have G:Hid (q0v ds[k]≠0):=K;clear K;go_wp2_with fail;refine(q9o ds[k] _).mono ?_;rintro e M⟨rfl,A⟩;rw[q0k G.o];have E:=k0t H Zl A;clear A;go_wp2;go_ret;refine⟨?_,E⟩;rw[j4g I B N.o G.o,q0k G.o];rfl
   ·have O:Hid (q2x ds=if q1t ds 0 1=some ds.length then 0 else 2):=v2x I (v6b B N.o);cases L:q1t ds 0 1 with
    | none=>
     have D:Hid (q1t ds 0 1=none):=L;clear L;go_wp2_with fail;refine(k4n a cap _ J.o I (Nat.zero_le _) D.o).mono ?_;rintro e M⟨rfl,rfl⟩;go_wp2;go_ret;refine⟨?_,H⟩;rw[O.o,D.o,if_neg (by simp),k1e];rfl
    | some j=>
     have D:Hid (q1t ds 0 1=some j):=L;clear L;by_cases P:j=ds.length
     ·subst P;go_wp2_with fail;refine(z3o a cap _ J.o I (Nat.zero_le _) D.o).mono ?_;rintro e M⟨rfl,rfl⟩;go_wp2;go_ret;refine⟨?_,H⟩;rw[O.o,D.o,if_pos rfl,q0n];rfl
     ·have S:((j:Int) != (ds.length:Int))=true:=by simp;omega
      go_wp2_with fail;refine(z3o a cap _ J.o I (Nat.zero_le _) D.o).mono ?_;rintro e M⟨rfl,rfl⟩;go_wp2;go_ret;refine⟨?_,H⟩;rw[O.o,D.o,if_neg (by simp[P]),k1e];rfl
end Go.Proofs.YtfdppahhbpfnoaaGreatDoor
