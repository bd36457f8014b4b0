import Derived.Test.YtelcnplcpboonaaGreatDoorPb07
import Derived.Lib.IndexBytes
import Derived.Lib.Split
import Derived.Test.YtelcnplcpboonaaGreatDoorPb04
import Derived.Deep.DeepCutAuto
import Derived.BigQuiet
open Go.Proofs.Tryz
namespace Go.Proofs.YtelcnplcpboonaaGreatDoor
open Go Go.RowKit
theorem v6s{s:ByteArray}:btL s=[108,101,116]↔s=⟨#[108,101,116]⟩:=by
 constructor
 ·intro h;apply ByteArray.ext;apply Array.ext';exact h
 ·intro h;rw[h]
theorem j5w{s:ByteArray}(h1:1<=s.size)(h2:s.size<=8)(h3:¬s=⟨#[108,101,116]⟩)(h:∀k(h:k<s.size),q3g s[k]=true):q1f s=true:=by
 have A:btL s≠[108,101,116]:=fun e=>h3 (v6s.1 e)
 simp only[q1f,h1,h2,A,decide_true,Bool.true_and,List.all_eq_true,ne_eq,not_false_eq_true];intro b B;obtain⟨i,C,rfl⟩:=List.getElem_of_mem B;exact h i (by rw[<-q0b];exact C)
theorem j5x{s:ByteArray}{k:Nat}(h:k<s.size)(hb:q3g s[k]=false):q1f s=false:=by
 cases e:q1f s with
 | false=>rfl
 | true=>
  simp only[q1f,Bool.and_eq_true,List.all_eq_true]at e;have A:k<(btL s).length:=by rw[q0b];exact h
  have:=e.2 s[k] (List.getElem_mem A)
  rw[hb]at this;cases this
theorem k3d{s:ByteArray}(h:s.size<1):q1f s=false:=by
 have:decide (1<=s.size)=false:=decide_eq_false (by omega)
 simp[q1f,this]
theorem k8w{s:ByteArray}(h:8<s.size):q1f s=false:=by
 have:decide (s.size<=8)=false:=decide_eq_false (by omega)
 simp[q1f,this]
theorem z1i(s:ByteArray):wbS (btL s)=s:=by
 obtain⟨d⟩:=s;simp[wbS,btL]
theorem j2s{l:List UInt8}(h:Lib.indexByte l 32=-1):∀b∈l,b≠32:=by
 intro b A e;subst e;obtain⟨k,B⟩:=List.getElem?_of_mem A;exact Lib.indexByte_none h k B
theorem k4z{l:List UInt8}{i:Nat}(h:Lib.indexByte l 32=i):i<l.length/\l=l.take i++32::l.drop (i+1)/\∀b∈l.take i,b≠32:=by
 obtain⟨C,D⟩:=Lib.indexByte_some h;obtain⟨B,E⟩:=List.getElem?_eq_some_iff.1 C;refine⟨B,?_,?_⟩
 ·have:=(List.take_append_drop i l).symm
  rw[List.drop_eq_getElem_cons B,E]at this;exact this
 ·intro b G e;subst e;obtain⟨k,A⟩:=List.getElem?_of_mem G;rw[List.getElem?_take]at A
  split at A
  ·rename_i hki;exact D k hki A
  ·cases A
def spK:Nat->ByteArray->List ByteArray
 | 0,s=>[s]
 | k+1,s=>if Lib.indexByte s.data.toList 32=-1 then [s]else s.extract 0 (Lib.indexByte s.data.toList 32).toNat::spK k (s.extract ((Lib.indexByte s.data.toList 32).toNat+1) s.size)
theorem z7v(s:ByteArray):spK 0 s=[s]:=rfl
theorem q9j(k:Nat){s:ByteArray}(h:Lib.indexByte s.data.toList 32=-1):spK k s=[s]:=by
 cases k with
 | zero=>rfl
 | succ k=>rw[spK,if_pos h]
theorem z3q(k:Nat){s:ByteArray}{i:Nat}(h:Lib.indexByte s.data.toList 32=i):spK (k+1) s=s.extract 0 i::spK k (s.extract (i+1) s.size):=by
 rw[spK,if_neg (by omega),h];rfl
theorem y8n(s:ByteArray)(i:Nat):btL (s.extract 0 i)=(btL s).take i:=by
 rw[k4b,List.drop_zero,Nat.sub_zero];rfl
theorem v8r(s:ByteArray)(i:Nat):btL (s.extract i s.size)=(btL s).drop i:=Lib.extract_to_end s i
theorem q6t(s:ByteArray):Lib.indexByte s.data.toList 32=-1\/∃i:Nat,Lib.indexByte s.data.toList 32=i/\i<s.size:=by
 have A:=Lib.indexByte_ge s.data.toList 32;by_cases h:Lib.indexByte s.data.toList 32=-1
 ·exact .inl h
 ·refine .inr ⟨(Lib.indexByte s.data.toList 32).toNat,by omega,?_⟩
  have:=(k4z (l:=btL s) (i:=(Lib.indexByte s.data.toList 32).toNat) (by show Lib.indexByte s.data.toList 32=_;omega)).1
  rw[q0b]at this;exact this
theorem z7x{s:ByteArray}{i:Nat}(h:Lib.indexByte s.data.toList 32=i):q4y (btL s)=btL (s.extract 0 i)::q4y (btL (s.extract (i+1) s.size)):=by
 obtain⟨_,A,B⟩:=k4z (l:=btL s) h;rw[y8n,v8r]
 conv=>lhs;rw[A]
 rw[v4h _ _ B]
theorem k3x{s:ByteArray}(h:Lib.indexByte s.data.toList 32=-1):q4y (btL s)=[btL s]:=v4i _ (j2s (l:=btL s) h)
theorem v4j{s:ByteArray}{i:Nat}(h:i<s.size):(s.extract (i+1) s.size).size=s.size-(i+1):=by
 rw[ByteArray.size_extract];omega
theorem j7o:∀(k:Nat)(s:ByteArray),s.size<=k->(spK k s).map btL=q4y (btL s)
 | 0,s,h=>by
  have e:btL s=[]:=List.eq_nil_of_length_eq_zero (by rw[q0b];omega);rw[z7v,List.map_cons,List.map_nil,e];rfl
 | k+1,s,h=>by
  rcases q6t s with h1|⟨i,h1,h2⟩
  ·rw[q9j _ h1,k3x h1];rfl
  ·rw[z3q k h1,z7x h1,List.map_cons,j7o k _ (by rw[v4j h2];omega)]
theorem j7q:∀(k:Nat)(s:ByteArray),(spK k s).length<=k->(spK k s).map btL=q4y (btL s)
 | 0,s,h=>by rw[z7v]at h;simp at h
 | k+1,s,h=>by
  rcases q6t s with h1|⟨i,h1,h2⟩
  ·rw[q9j _ h1,k3x h1];rfl
  ·rw[z3q k h1]at h⊢;rw[List.length_cons]at h;rw[z7x h1,List.map_cons,j7q k _ (by omega)]
theorem v7l:∀(k:Nat)(s:ByteArray),(spK k s).length<=(q4y (btL s)).length
 | 0,s=>by
  rw[z7v]
  have:=q6s (btL s)
  cases h:q4y (btL s)with
  | nil=>exact absurd h this
  | cons a b=>simp
 | k+1,s=>by
  rcases q6t s with h1|⟨i,h1,h2⟩
  ·rw[q9j _ h1,k3x h1];simp
  ·rw[z3q k h1,z7x h1,List.length_cons,List.length_cons]
   have:=v7l k (s.extract (i+1) s.size)
   omega
theorem j1f{l:List ByteArray}{m:List (List UInt8)}(h:l.map btL=m):l=m.map wbS:=by
 subst h;rw[List.map_map]
 have:(wbS∘btL)=id:=by funext s;exact z1i s
 rw[this,List.map_id]
theorem j7p(s:ByteArray)(k:Nat)(hk:k=min 60 s.size):q1h (spK k s)=q1h ((q4y (btL s)).map wbS):=by
 by_cases h:s.size<=60
 ·rw[j1f (j7o k s (by omega))]
 ·have A:k=60:=by omega
  subst A;by_cases B:(spK 60 s).length<=60
  ·rw[j1f (j7q 60 s B)]
  ·have C:=v7l 60 s;rw[q8c (by omega),q8c (by rw[List.length_map];omega)]
theorem v3f{s:ByteArray}(h:0<s.size)(k:Nat)(hk:k=min 60 s.size):q1h (spK k s)=q3k s:=by
 rw[j7p s k hk,q3k,q0i,if_neg];intro e
 have:=congrArg List.length e
 rw[q0b,List.length_nil]at this;omega
theorem j6d{s:ByteArray}(h:s.size=0):q3k s=0:=by
 have e:btL s=[]:=List.eq_nil_of_length_eq_zero (by rw[q0b];exact h);rw[q3k,q0i,if_pos e];rfl
def Ln(B b:Nat)(l:List UInt8)(k:Bool)(w:World):Prop:=IsX 375 B b (Lib.byteCells l) [.bool k] w
theorem v6u:q9v 375 3:=by unfold q9v;kernel_rfl
theorem Ln.cell{B b:Nat}{l:List UInt8}{k:Bool}{w:World}(h:Ln B b l k w):w.cell? ⟨b,2,none⟩=some (.bool k):=IsX.cellR h 0
theorem Ln.frozen{B b:Nat}{l:List UInt8}{k:Bool}{w:World}(h:Ln B b l k w):w.frozen? ⟨b,2,none⟩=false:=IsX.frozen h 2
theorem Ln.stored{B b:Nat}{l:List UInt8}{k:Bool}{w:World}(h:Ln B b l k w)(k':Bool):Ln B b l k' (w.setCell ⟨b,2,none⟩ (.bool k')):=IsX.stored h 0 (.bool k')
theorem y8v{B b:Nat}{l:List UInt8}{k:Bool}{w:World}(h:Ln B b l k w)(hB:B<=w.heap.size)(c:UInt8)(z:Int)(hz:z=(c.toNat:Int))(hl:l.length<=1000000):
  Calls prog 132 #[.pointer (some ⟨b,0,none⟩),.int .u8 z] w fun e w'=>e=.returned .nilIface/\Ln B b (l++[c]) k w'/\q0j B b w w'/\Lib.OthersKept 5 (some b) w w':=by
 subst hz;refine(k1k 375 B b _ [.bool k] _ w v6u (by decide) h (by rw[Lib.byteCells_length];omega) hB).mono ?_;rintro e w'⟨rfl,A,C,D⟩;refine⟨rfl,?_,C,D⟩;rw[Ln,Lib.byteCells_append];exact A
theorem g0e{B b:Nat}{l:List UInt8}{k:Bool}{w:World}(h:Ln B b l k w)(hB:B<=w.heap.size)(s:ByteArray)(hl:l.length+s.size<=2000000):
  Calls prog 10 #[.pointer (some ⟨b,0,none⟩),.string s] w fun e w'=>(∃z,e=.returned (.tuple #[.int .i64 z,.nilIface]))/\Ln B b (l++s.data.toList) k w'/\q0j B b w w'/\Lib.OthersKept 5 (some b) w w':=by
 refine(q6e 375 B b _ [.bool k] s w v6u (by decide) h (by rw[Lib.byteCells_length];omega) hB).mono ?_;rintro e w'⟨rfl,A,C,D⟩;refine⟨⟨_,rfl⟩,?_,C,D⟩;rw[Ln,Lib.byteCells_append];exact A
def y3o(B b s:Nat)(r:List Nd)(l:List UInt8)(k:Bool)(w:World)(e:Ending)(w':World):Prop:=
 (∃a' cap',e=.returned (.slice a' r.length cap')/\q0w s w' a' r/\r.length<=cap')/\Ln B b l k w'/\q0j B b w w'/\Lib.OthersKept 5 (some b) w w'
def z8k(A:List Nd)(tA:List UInt8)(kA:Bool):Prop:=∀(B b s:Nat)(ds r:List Nd)(a:Option Addr)(cap:Nat)(l:List UInt8)(k:Bool)(w:World),ds=A++r->q0w s w a ds->s<B->s≠b->ds.length<=cap->Ln B b l k w->B<=w.heap.size->l.length+20*ds.length<=1000000->
  Calls prog 287 #[.pointer (some ⟨b,0,none⟩),.slice a ds.length cap] w (y3o B b s r (l++tA) (k||kA) w)
def k1s(B b s:Nat)(n0:Nat)(x:Nd)(r:List Nd)(l:List UInt8)(k:Bool)(w:World)(t p q:Value)(wx:World):Prop:=
 t=.pointer (some ⟨b,0,none⟩)/\p=.pointer (some ⟨n0,0,none⟩)/\(∃a' cap',q=.slice a' r.length cap'/\q0w s wx a' r/\r.length<=cap')/\wx.cell? ⟨n0,0,none⟩=some (.int .i64 x.op)/\wx.cell? ⟨n0,1,none⟩=some (.string x.tx)/\wx.cell? ⟨n0,2,none⟩=some (.int .i64 x.n)/\Ln B b l k wx/\q0j B b w wx/\Lib.OthersKept 5 (some b) w wx
theorem q0j.weak{B B' b x:Nat}{w w':World}(h:q0j B' x w w')(hB:B<=B')(hx:B<=x):q0j B b w w':=⟨h.os,h.tape,h.output,h.size,fun k hk _=>h.block k (by omega) (by omega)⟩
theorem v2g{e:TypeId}{b x:Nat}{w w3 w4:World}(h:Lib.OthersKept e (some b) w w3)(h':Lib.OthersKept e (some x) w3 w4)(hx:w.heap.size<=x):Lib.OthersKept e (some b) w w4:=by
 intro k o A C B;have D:k<w.heap.size:=(Array.getElem?_eq_some_iff.1 A).1;exact h' k o (h k o A C B) (fun e=>by cases e;omega) B
theorem y6q(s:List UInt8):(tkW s).length<=q0m s:=by
 unfold tkW;refine Nat.le_trans (q9o _) ?_;rw[List.length_take];omega
theorem z7i:∀(n:Nat)(s:List UInt8)(i:Nat),s.length<=n->((lxW s i).map fun x=>x.2.length).sum<=s.length
 | 0,s,i,h=>by
  have:s=[]:=List.eq_nil_of_length_eq_zero (by omega)
  subst this;rw[lxW,q7q];simp
 | n+1,s,i,h=>by
  cases s with
  | nil=>rw[lxW,q7q];simp
  | cons c r=>
   cases hs:spB c with
   | true=>
    have ih:=z7i n r (i+1) (by simp at h;omega);rw[lxW,z7h r i hs];rw[lxW]at ih;simp only[List.length_cons];omega
   | false=>
    cases ho:q4o (c::r)with
    | false=>rw[lxW,z9w i hs ho];simp
    | true=>
     have hp:=q3n c r;have hle:=q7k (c::r);have ih:=z7i n ((c::r).drop (q0m (c::r))) (i+q0m (c::r)) (by simp only[List.length_drop];omega);have hw:=y6q (c::r);rw[List.length_drop]at ih;rw[lxW,z3h i hs ho];simp only[List.map_cons,List.sum_cons];omega
theorem j8u(s:List UInt8):((q2x s).map List.length).sum<=s.length:=by
 have h:=z7i s.length s 0 Zl;rw[q2x,List.map_map];exact h
def szW(W:List Wd):Nat:=(W.map fun x=>x.length+1).sum
theorem k3y(a b:List Wd):szW (a++b)=szW a+szW b:=by simp[szW]
theorem q1o(x:Wd)(b:List Wd):szW (x::b)=x.length+1+szW b:=by simp[szW]
theorem z8d:∀W:List Wd,W.length<=szW W
 | []=>Nat.zero_le _
 | x::r=>by have:=z8d r;rw[q1o,List.length_cons];omega
theorem v9s:∀W:List Wd,(jb W).length<=szW W
 | []=>Nat.zero_le _
 | x::r=>by
  have:=v9s r
  rw[q1o];cases r with
  | nil=>simp[jb];omega
  | cons y r=>
   have e:jb (x::y::r)=x++32::jb (y::r):=by simp[jb]
   rw[e,List.length_append,List.length_cons];omega
theorem z2u:∀(l cur:Wd),szW (Lib.fieldsGo cur l)<=2*(cur.length+l.length)
 | [],cur=>by
  cases cur with
  | nil=>simp[Lib.fieldsGo,szW]
  | cons a z=>simp[Lib.fieldsGo,szW];omega
 | c::l,cur=>by
  cases hs:Lib.isSp c with
  | true=>
   have ih:=z2u l [];cases cur with
   | nil=>
    rw[Lib.fieldsGo_sp _ _ hs];simp only[List.length_nil,List.length_cons]at ih⊢;omega
   | cons a z=>
    rw[Lib.fieldsGo_end _ _ _ hs (by simp),q1o];simp only[List.length_nil,List.length_cons]at ih⊢;omega
  | false=>
   have ih:=z2u l (cur++[c]);rw[Lib.fieldsGo_more _ _ _ hs];simp only[List.length_append,List.length_cons,List.length_nil]at ih⊢;omega
theorem y4q(w:Wd):szW (q8f w)<=2*w.length:=by
 have:=z2u (w.drop 1) []
 rw[List.length_drop]at this;simp only[List.length_nil]at this;show szW (Lib.fieldsGo [] (w.drop 1))<=_;omega
theorem j3v:∀nts:List Wd,szW (nts.flatMap q8f)<=2*(nts.map List.length).sum
 | []=>Nat.zero_le _
 | x::r=>by
  have h1:=j3v r;have h2:=y4q x;rw[List.flatMap_cons,k3y,List.map_cons,List.sum_cons];omega
theorem v4m(ws:List Wd)(p k:Nat):(((ws.drop p).take k).map List.length).sum<=(ws.map List.length).sum:=by
 have e:ws=ws.take p++((ws.drop p).take k++(ws.drop p).drop k):=by rw[List.take_append_drop,List.take_append_drop]
 have h:=congrArg (fun l=>(l.map List.length).sum) e;simp only[List.map_append,List.sum_append]at h;omega
set_option maxRecDepth 100000
set_option maxHeartbeats 4000000
theorem y0l(tx:ByteArray)(n:Int)(ht:tx.size<=20):z8k (⟨1,tx,n⟩::[]) (tx.data.toList) (false):=by
 intro B b s ds N a V l k w g L I J f d E hl;generalize M:[]++N=r;have u:Hid ([]++N=r):=M;have v:Hid (r.length=([]:List Nd).length+N.length):=(show _=_ by rw[<-M,List.length_append]);obtain rfl:ds=⟨1,tx,n⟩::r:=by rw[g,<-M];rfl
 clear g M;obtain⟨m,ea,c1,c2,c3⟩:=L 0 (by simp);subst ea;simp only[List.length_cons]at f hl⊢;have S:Hid (q0w s w (some ⟨s,m+3,none⟩) r):=L.rest
 have D:Hid (V=1->q0w s w (some ⟨s,m,none⟩) r):=fun h=>by
  have c:=L.slid f;rw[if_pos h]at c;exact c
 have x:Hid (Ln B b l k w):=d;simp only[Nat.zero_mul,Nat.add_zero,List.getElem_cons_zero]at c1 c2 c3;have Aa:s<w.heap.size:=by omega
 have Ab:(1:Int)<=(r.length:Int)+1:=by omega
 have K:Hid (∀O:Obj,q0j B b w (w.alloc O).drew):=fun O=>q0j.drew ((q0j.refl B b w).alloc E O)
 have o:Hid (∀O:Obj,Lib.OthersKept 5 (some b) w (w.alloc O).drew):=fun O=>((Lib.OthersKept.refl _ _ w).alloc O).drew
 have A:Hid (s<B/\s≠b):=⟨I,J⟩;clear L d I J;go_in
 go_upto_region 1 with fail
 go_cut [0,1,5,6] (fun t _ p q wx=>k1s B b s w.heap.size ⟨1,tx,n⟩ r l k w t p q wx)
 case first=>
  go_region
  all_goals (go_wp2_with fail)
  all_goals
   go_meet
   refine⟨rfl,rfl,⟨_,_,rfl,?_,by omega⟩,by simp[go_sem],by simp[go_sem],by simp[go_sem],IsX.drew (IsX.alloc x.o _),K.o _,o.o _⟩
   first
    | exact S.o.kept ((K.o _).block s A.o.1 A.o.2)
    | exact(D.o (by assumption)).kept ((K.o _).block s A.o.1 A.o.2)
    | exact(D.o rfl).kept ((K.o _).block s A.o.1 A.o.2)
 case rest=>
  obtain⟨rfl,rfl,⟨y,Z,rfl,i,X⟩,e1,e2,e3,j,C,H⟩:=hcut;dsimp only at e1 e2 e3;have R:Hid (q0w s wc y r):=i;have U:Hid (Ln B b l k wc):=j;have P:Hid (q0j B b w wc):=C;have Q:Hid (Lib.OthersKept 5 (some b) w wc):=H;have W:B<=wc.heap.size:=Nat.le_trans E C.size;clear i j C H;go_wp2_with fail
  go_region_with (go_at_call 10;refine(g0e (w:=wc.drew) U.o W tx (by omega)).mono ?_;rintro e w2⟨⟨z,rfl⟩,h2,G,Y⟩)
  all_goals
   go_wp2;go_ret;obtain rfl:N=r:=u.o;rw[Bool.or_false];exact⟨⟨_,_,rfl,q0w.kept (w:=wc.drew) R.o (G.block s A.o.1 A.o.2),X⟩,h2,P.o.drew.trans G,Q.o.drew.trans Y⟩
theorem y0m(tx:ByteArray)(n:Int):z8k (⟨2,tx,n⟩::[]) ([32]) (false):=by
 intro B b s ds N a V l k w g L I J f d E hl;generalize M:[]++N=r;have u:Hid ([]++N=r):=M;have v:Hid (r.length=([]:List Nd).length+N.length):=(show _=_ by rw[<-M,List.length_append]);obtain rfl:ds=⟨2,tx,n⟩::r:=by rw[g,<-M];rfl
 clear g M;obtain⟨m,ea,z,c2,c3⟩:=L 0 (by simp);subst ea;simp only[List.length_cons]at f hl⊢;have S:Hid (q0w s w (some ⟨s,m+3,none⟩) r):=L.rest
 have D:Hid (V=1->q0w s w (some ⟨s,m,none⟩) r):=fun h=>by
  have c:=L.slid f;rw[if_pos h]at c;exact c
 have x:Hid (Ln B b l k w):=d;simp only[Nat.zero_mul,Nat.add_zero,List.getElem_cons_zero]at z c2 c3;have Aa:s<w.heap.size:=by omega
 have Ab:(1:Int)<=(r.length:Int)+1:=by omega
 have K:Hid (∀O:Obj,q0j B b w (w.alloc O).drew):=fun O=>q0j.drew ((q0j.refl B b w).alloc E O)
 have o:Hid (∀O:Obj,Lib.OthersKept 5 (some b) w (w.alloc O).drew):=fun O=>((Lib.OthersKept.refl _ _ w).alloc O).drew
 have A:Hid (s<B/\s≠b):=⟨I,J⟩;clear L d I J;go_in
 go_upto_region 1 with fail
 go_cut [0,1,5,6] (fun t _ p q wx=>k1s B b s w.heap.size ⟨2,tx,n⟩ r l k w t p q wx)
 case first=>
  go_region
  all_goals (go_wp2_with fail)
  all_goals
   go_meet
   refine⟨rfl,rfl,⟨_,_,rfl,?_,by omega⟩,by simp[go_sem],by simp[go_sem],by simp[go_sem],IsX.drew (IsX.alloc x.o _),K.o _,o.o _⟩
   first
    | exact S.o.kept ((K.o _).block s A.o.1 A.o.2)
    | exact(D.o (by assumption)).kept ((K.o _).block s A.o.1 A.o.2)
    | exact(D.o rfl).kept ((K.o _).block s A.o.1 A.o.2)
 case rest=>
  obtain⟨rfl,rfl,⟨y,Z,rfl,i,X⟩,e1,e2,e3,j,C,H⟩:=hcut;dsimp only at e1 e2 e3;have R:Hid (q0w s wc y r):=i;have U:Hid (Ln B b l k wc):=j;have P:Hid (q0j B b w wc):=C;have Q:Hid (Lib.OthersKept 5 (some b) w wc):=H;have W:B<=wc.heap.size:=Nat.le_trans E C.size;clear i j C H;go_wp2_with fail;refine(y8v U.o W 32 32 rfl (by omega)).mono ?_;rintro e w2⟨rfl,h2,G,Y⟩;go_wp2;go_ret;obtain rfl:N=r:=u.o;rw[Bool.or_false];exact⟨⟨_,_,rfl,R.o.kept (G.block s A.o.1 A.o.2),X⟩,h2,P.o.trans G,Q.o.trans Y⟩
theorem y0p(tx:ByteArray)(n:Int)(A C:List Nd)(tA tC:List UInt8)(kA kC:Bool)(hA:z8k A tA kA)(hC:z8k C tC kC):z8k (⟨9,tx,n⟩::(A++C)) (tA) (kA):=by
 intro B b s ds H a u l k w hd X S U hc hW M hl;generalize Y:(A++C)++H=r;have j:Hid ((A++C)++H=r):=Y;have o:Hid (r.length=((A++C):List Nd).length+H.length):=(show _=_ by rw[<-Y,List.length_append]);obtain rfl:ds=⟨9,tx,n⟩::r:=by rw[hd,<-Y];rfl
 clear hd Y;obtain⟨o0,ea,c1,c2,c3⟩:=X 0 (by simp);subst ea;simp only[List.length_cons]at hc hl⊢;have i:Hid (q0w s w (some ⟨s,o0+3,none⟩) r):=X.rest
 have J:Hid (u=1->q0w s w (some ⟨s,o0,none⟩) r):=fun h=>by
  have h1:=X.slid hc;rw[if_pos h]at h1;exact h1
 have HW:Hid (Ln B b l k w):=hW;simp only[Nat.zero_mul,Nat.add_zero,List.getElem_cons_zero]at c1 c2 c3;have Ae:s<w.heap.size:=by omega
 have Ag:(1:Int)<=(r.length:Int)+1:=by omega
 have W:Hid (∀O:Obj,q0j B b w (w.alloc O).drew):=fun O=>q0j.drew ((q0j.refl B b w).alloc M O)
 have HK:Hid (∀O:Obj,Lib.OthersKept 5 (some b) w (w.alloc O).drew):=fun O=>((Lib.OthersKept.refl _ _ w).alloc O).drew
 have D:Hid (s<B/\s≠b):=⟨S,U⟩;clear X hW S U;go_in
 go_upto_region 1 with fail
 go_cut [0,1,5,6] (fun t _ p q wx=>k1s B b s w.heap.size ⟨9,tx,n⟩ r l k w t p q wx)
 case first=>
  go_region
  all_goals (go_wp2_with fail)
  all_goals
   go_meet
   refine⟨rfl,rfl,⟨_,_,rfl,?_,by omega⟩,by simp[go_sem],by simp[go_sem],by simp[go_sem],IsX.drew (IsX.alloc HW.o _),W.o _,HK.o _⟩
   first
    | exact i.o.kept ((W.o _).block s D.o.1 D.o.2)
    | exact(J.o (by assumption)).kept ((W.o _).block s D.o.1 D.o.2)
    | exact(J.o rfl).kept ((W.o _).block s D.o.1 D.o.2)
 case rest=>
  obtain⟨rfl,rfl,⟨a',Aa,rfl,hn,v⟩,e1,e2,e3,hw,E,R⟩:=hcut;dsimp only at e1 e2 e3;have g:Hid (q0w s wc a' r):=hn;have K:Hid (Ln B b l k wc):=hw;have I:Hid (q0j B b w wc):=E;have d:Hid (Lib.OthersKept 5 (some b) w wc):=R;have L:B<=wc.heap.size:=Nat.le_trans M E.size;clear hn hw E R;rw[List.append_assoc]at j;generalize G:C++H=rc at j;have m:Hid (C++H=rc):=G;have f:Hid (rc.length=C.length+H.length):=(show _=_ by rw[<-G,List.length_append]);have Z:Hid ((A++C).length=A.length+C.length):=(show _=_ from List.length_append);clear G;have HA:Hid (z8k A tA kA):=hA;have HC:Hid (z8k C tC kC):=hC;clear hA hC;go_wp2_with fail;refine(HA.o B b s r rc _ _ l k _ j.o.symm (g.o.kept (Below.heap_alloc _ _ _ (by have:=D.o;omega))) D.o.1 D.o.2 v (IsX.alloc K.o _) (by simp;omega) (by omega)).mono ?_;rintro e w3⟨⟨a3,Ab,rfl,n3,x⟩,h3,N,Q⟩;have Af:b<wc.heap.size:=IsX.lt K.o;have hx:=Q wc.heap.size _ (heap_alloc_new wc _) (by simp;omega) (by intro c fz h;cases h);have V:=N.size;have Ad:wc.heap.size+1<=w3.heap.size:=by simpa using V
  have HX:Hid (w3.heap[wc.heap.size]?=_):=hx;clear V hx;go_wp2_with fail;refine(HC.o w3.heap.size wc.heap.size s rc H _ _ [] false _ m.o.symm n3 (by have:=D.o;omega) (by have:=D.o;omega) x (IsX.unused _ _ _ _ _ HX.o) Zl (by have q1:=o.o;have q2:=f.o;have q3:=Z.o;simp;omega)).mono ?_;rintro e w4⟨⟨a4,Ac,rfl,n4,y⟩,h4,P,z⟩;go_wp2;go_ret;refine⟨⟨_,_,rfl,n4,y⟩,IsX.far h3 P (by omega) HX.o (by decide),(I.o.trans (((q0j.refl _ _ _).alloc L _).trans N)).trans (P.weak (by omega) L),?_⟩;exact v2g (d.o.trans (((Lib.OthersKept.refl _ _ _).alloc _).trans Q)) z I.o.size
def OAt(T:TypeId)(B b:Nat)(pre:List Value)(p:Value)(bs R:List Value)(w:World):Prop:=
 ∃v,w.heap[b]?=some (.cells (pre++p::v::R).toArray T (0,0))/\w.ownsRowF B 5 1 v bs.length bs/\v.ownBlock≠some b/\(bs=[]->v=.slice none 0 0)
def IsO(T:TypeId)(B b:Nat)(pre bs R:List Value)(w:World):Prop:=
 OAt T B b pre (.pointer none) bs R w\/OAt T B b pre (.pointer (some ⟨b,pre.length,none⟩)) bs R w
section
variable {T:TypeId} {B b:Nat} {p v:Value} {pre bs R:List Value} {w:World}
theorem v3j(hb:w.heap[b]?=some (.cells (pre++p::v::R).toArray T (0,0)))(i:Nat):w.cell? ⟨b,i,none⟩=(pre++p::v::R)[i]?:=by
 simp[World.cell?,hb]
theorem j6k(hb:w.heap[b]?=some (.cells (pre++p::v::R).toArray T (0,0))):w.cell? ⟨b,pre.length,none⟩=some p:=by
 rw[v3j hb,List.getElem?_append_right Zl,Nat.sub_self];rfl
theorem k6b(hb:w.heap[b]?=some (.cells (pre++p::v::R).toArray T (0,0))):w.cell? ⟨b,pre.length+1,none⟩=some v:=by
 rw[v3j hb,List.getElem?_append_right (Nat.le_add_right _ _),Nat.add_sub_cancel_left];rfl
theorem olt(hb:w.heap[b]?=some (.cells (pre++p::v::R).toArray T (0,0))):b<w.heap.size:=by
 rcases Nat.lt_or_ge b w.heap.size with A|A
 ·exact A
 ·simp[Array.getElem?_eq_none A]at hb
theorem OAt.cell0(h:OAt T B b pre p bs R w):w.cell? ⟨b,pre.length,none⟩=some p:=by
 obtain⟨v,A,_⟩:=h;exact j6k A
theorem OAt.cellP(h:OAt T B b pre p bs R w)(i:Nat)(hi:i<pre.length):w.cell? ⟨b,i,none⟩=pre[i]?:=by
 obtain⟨v,A,_⟩:=h;rw[v3j A,List.getElem?_append_left hi]
theorem OAt.cellR(h:OAt T B b pre p bs R w)(i:Nat):w.cell? ⟨b,pre.length+(i+2),none⟩=R[i]?:=by
 obtain⟨v,A,_⟩:=h;rw[v3j A,List.getElem?_append_right (Nat.le_add_right _ _),Nat.add_sub_cancel_left];rfl
theorem OAt.shape(h:OAt T B b pre p bs R w):w.shape? b=some (T,pre.length+(R.length+2)):=by
 obtain⟨v,A,_⟩:=h;simp[World.shape?,A]
theorem OAt.lt(h:OAt T B b pre p bs R w):b<w.heap.size:=by
 obtain⟨v,A,_⟩:=h;exact olt A
theorem y9d(hb:w.heap[b]?=some (.cells (pre++p::v::R).toArray T (0,0)))(i:Nat)(q:Value):(w.setCell ⟨b,i,none⟩ q).heap[b]?=some (.cells ((pre++p::v::R).set i q).toArray T (0,0)):=by
 simp[World.setCell,Array.getElem?_modify,hb]
theorem OAt.used(h:OAt T B b pre p bs R w)(q:Value):OAt T B b pre q bs R (w.setCell ⟨b,pre.length,none⟩ q):=by
 obtain⟨v,E,C,A,D⟩:=h;refine⟨v,?_,?_,A,D⟩
 ·rw[y9d E,List.set_append_right _ _ Zl,Nat.sub_self];rfl
 ·exact C.kept (row:=some b) ⟨rfl,rfl,rfl,by simp[World.setCell],fun k _ hk=>Below.heap_setCell _ _ _ _ (fun e=>hk (by simp[e]))⟩ (Or.inr A)
theorem OAt.stored(h:OAt T B b pre p bs R w)(i:Nat)(q:Value):OAt T B b pre p bs (R.set i q) (w.setCell ⟨b,pre.length+(i+2),none⟩ q):=by
 obtain⟨v,E,C,A,D⟩:=h;refine⟨v,?_,?_,A,D⟩
 ·rw[y9d E,List.set_append_right _ _ (Nat.le_add_right _ _),Nat.add_sub_cancel_left];rfl
 ·exact C.kept (row:=some b) ⟨rfl,rfl,rfl,by simp[World.setCell],fun k _ hk=>Below.heap_setCell _ _ _ _ (fun e=>hk (by simp[e]))⟩ (Or.inr A)
theorem OAt.frozen(h:OAt T B b pre p bs R w)(i:Nat):w.frozen? ⟨b,i,none⟩=false:=by
 obtain⟨v,A,_⟩:=h;simp[World.frozen?,A]
theorem OAt.put{v':Value}{bs':List Value}(hb:w.heap[b]?=some (.cells (pre++p::v::R).toArray T (0,0)))(A:w.ownsRowF B 5 1 v' bs'.length bs')(D:T≠5)(h0:bs'=[]->v'=.slice none 0 0):
  OAt T B b pre p bs' R (w.setCell ⟨b,pre.length+1,none⟩ v'):=by
 have C:=Lib.ownBlock_neF A hb D;refine⟨v',?_,?_,C,h0⟩
 ·rw[y9d hb,List.set_append_right _ _ (Nat.le_add_right _ _),Nat.add_sub_cancel_left];rfl
 ·exact A.kept (row:=some b) ⟨rfl,rfl,rfl,by simp[World.setCell],fun k _ hk=>Below.heap_setCell _ _ _ _ (fun e=>hk (by simp[e]))⟩ (Or.inr C)
theorem OAt.alloc(h:OAt T B b pre p bs R w)(o:Obj):OAt T B b pre p bs R (w.alloc o):=by
 have C:=h.lt;obtain⟨v,G,A,D,E⟩:=h;exact⟨v,(Lib.alloc_old w o b C).trans G,A.kept (World.grownBy_alloc w o none) (by cases H:v.ownBlock<;>simp),D,E⟩
theorem OAt.W{w':World}(h:OAt T B b pre p bs R w)(hx:Below w w w'):OAt T B b pre p bs R w':=by
 have C:=h.lt;obtain⟨v,G,A,D,E⟩:=h;exact⟨v,(hx.block b C).trans G,A.kept (row:=none) ⟨hx.os,hx.tape,hx.output,hx.size,fun k hk _=>hx.block k hk⟩ (by cases H:v.ownBlock<;>simp),D,E⟩
theorem IsO.at(h:IsO T B b pre bs R w):∃p,OAt T B b pre p bs R w:=by
 rcases h with h|h
 ·exact⟨_,h⟩
 ·exact⟨_,h⟩
theorem IsO.lt(h:IsO T B b pre bs R w):b<w.heap.size:=h.at.elim fun _ h=>h.lt
theorem IsO.cellP(h:IsO T B b pre bs R w)(i:Nat)(hi:i<pre.length):w.cell? ⟨b,i,none⟩=pre[i]?:=h.at.elim fun _ h=>h.cellP i hi
theorem IsO.cellR(h:IsO T B b pre bs R w)(i:Nat):w.cell? ⟨b,pre.length+(i+2),none⟩=R[i]?:=h.at.elim fun _ h=>h.cellR i
theorem IsO.frozen(h:IsO T B b pre bs R w)(i:Nat):w.frozen? ⟨b,i,none⟩=false:=h.at.elim fun _ h=>h.frozen i
theorem IsO.alloc(h:IsO T B b pre bs R w)(o:Obj):IsO T B b pre bs R (w.alloc o):=h.imp (·.alloc o) (·.alloc o)
theorem IsO.W{w':World}(h:IsO T B b pre bs R w)(hx:Below w w w'):IsO T B b pre bs R w':=h.imp (·.W hx) (·.W hx)
theorem IsO.stored(h:IsO T B b pre bs R w)(i:Nat)(q:Value):IsO T B b pre bs (R.set i q) (w.setCell ⟨b,pre.length+(i+2),none⟩ q):=h.imp (·.stored i q) (·.stored i q)
theorem IsO.unused(T:TypeId)(B b:Nat)(w:World)(pre R:List Value)(h:w.heap[b]?=some (.cells (pre++.pointer none::.slice none 0 0::R).toArray T (0,0))):IsO T B b pre [] R w:=
 Or.inl ⟨.slice none 0 0,h,World.ownsRowF_nil _ _ _ _,by simp[Value.ownBlock],fun _=>rfl⟩
end
theorem k3k(b o:Nat)(w:World)(h0:w.cell? ⟨b,o,none⟩=some (.pointer (some ⟨b,o,none⟩))):
  Calls prog 24 #[.pointer (some ⟨b,o,none⟩)] w fun e w'=>e=.returned (.tuple #[])/\w'=w:=by
 obtain⟨j,A,_⟩:=Option.map_eq_some_iff.1 v5o;go_in;go_wp2;rw[Lib.run_neq_ptr_same w _ Tryz.underlying35 A];go_wp2
 go_end0
 exact⟨rfl,rfl⟩
theorem k0b(T n b o:Nat)(w:World)(hl:liesAt prog prog.depth T (n / prog.cellsOf T) o 38 1=true)(h0:w.cell? ⟨b,o,none⟩=some (.pointer none))(B:w.shape? b=some (T,n))(hn:o<n)(H:w.frozen? ⟨b,o,none⟩=false):
  Calls prog 24 #[.pointer (some ⟨b,o,none⟩)] w fun e w'=>e=.returned (.tuple #[])/\w'=w.setCell ⟨b,o,none⟩ (.pointer (some ⟨b,o,none⟩)):=by
 obtain⟨j,D,A⟩:=Option.map_eq_some_iff.1 v5o;have G:Hid (liesAt prog prog.depth T (n / prog.cellsOf T) o 38 1=true):=hl;have C:Hid (w.shape? b=some (T,n)):=B;have E:Hid (j.size≠0):=(show j.size≠0 by rw[A];decide);clear hl B A;go_in;go_wp2;rw[Lib.run_to_unsafe w ⟨b,o,none⟩ Tryz.underlying35 Tryz.underlying94 D E.o C.o hn];simp only[Result.andThen];rw[Oper.upon_value];go_wp2;rw[run_callFunc_extern func40 (by kernel_rfl) (by kernel_rfl) (by kernel_rfl) (e:=Extern.AbiNoEscape.same) (by kernel_rfl)];rw[Lib.run_noEscape];simp only[Result.andThen];rw[Oper.upon_value];go_wp2;rw[Lib.run_from_unsafe w ⟨b,o,none⟩ Tryz.underlying94 Tryz.underlying35 D C.o G.o];simp only[Result.andThen];rw[Oper.upon_value];go_wp2
 go_end0
 exact⟨rfl,rfl⟩
def j0v(T n o:Nat):Prop:=liesAt prog prog.depth T (n / prog.cellsOf T) o 38 1=true
theorem k9b(T B b o:Nat)(A bs R:List Value)(w:World)(ho:A.length=o)(hl:j0v T (o+(R.length+2)) o)(h:IsO T B b A bs R w):
  Calls prog 24 #[.pointer (some ⟨b,o,none⟩)] w fun e w'=>e=.returned (.tuple #[])/\(OAt T B b A (.pointer (some ⟨b,A.length,none⟩)) bs R w'/\q0j B b w w'/\Lib.OthersKept 5 (some b) w w'):=by
 subst ho;rcases h with h|h
 ·refine(k0b T (A.length+(R.length+2)) b A.length w hl h.cell0 h.shape (by omega) (h.frozen _)).mono ?_;rintro e w'⟨rfl,rfl⟩;exact⟨rfl,h.used _,(q0j.refl B b w).setCell (p:=⟨b,A.length,none⟩) (.inl rfl) _,(Lib.OthersKept.refl _ _ w).setCell ⟨b,A.length,none⟩ rfl _⟩
 ·refine(k3k b A.length w h.cell0).mono ?_;rintro e w'⟨rfl,rfl⟩;exact⟨rfl,h,q0j.refl B b _,Lib.OthersKept.refl _ _ _⟩
theorem k3r(T B b o:Nat)(A bs R:List Value)(s:ByteArray)(w:World)(ho:A.length=o)(hl:j0v T (o+(R.length+2)) o)(hT:T≠5)(h:IsO T B b A bs R w)(f:bs.length+s.size<=140737488355328)(u:B<=w.heap.size):
  Calls prog 10 #[.pointer (some ⟨b,o,none⟩),.string s] w fun e w'=>e=.returned (.tuple #[.int .i64 s.size,.nilIface])/\(IsO T B b A (bs++Lib.strCells s) R w'/\q0j B b w w'/\Lib.OthersKept 5 (some b) w w'):=by
 obtain⟨y,x,Y,Z,a⟩:=info_parts j9h;have m:Hid (j0v T (o+(R.length+2)) o):=hl;have n:Hid (T≠5):=hT;have M:Hid (A.length=o):=ho;have H:Hid (IsO T B b A bs R w):=h;clear hl hT h ho;go_in;go_wp2_with(go_at_call 24;refine(k9b T B b o A bs R _ M.o m.o H.o).mono ?_);rintro e P⟨rfl,S,L,U⟩;obtain⟨v,I,E,W,d⟩:=S;have l:Hid (bs=[]->v=.slice none 0 0):=d;have N:Hid (P.heap[b]?=some (.cells (A++.pointer (some ⟨b,A.length,none⟩)::v::R).toArray T (0,0))):=I;clear d;have z:P.cell? ⟨b,o,none⟩=some (.pointer (some ⟨b,o,none⟩)):=by have:=j6k I;rw[M.o]at this;exact this
 have c1:P.cell? ⟨b,o+1,none⟩=some v:=by have:=k6b I;rw[M.o]at this;exact this
 clear I;go_wp2_with(at_builtin;refine Lib.wpList_append_own_stringF _ rfl _ _ 36 9 rfl B 5 y Tryz.underlying36 Tryz.underlying9 x Y Z a _ _ _ rfl E s rfl ?c3 ?c4 ?c5 ?_)
 case c3=>unfold maxLen;omega
 case c4=>omega
 case c5=>have:=L.size;omega
 intro j O G C J;have q:Hid (j=.slice none 0 0↔v=.slice none 0 0/\s.size=0):=(show _↔_ by simpa using J);clear J;have V:b<P.heap.size:=olt N.o
 have D:O.heap[b]?=some (.cells (A++.pointer (some ⟨b,A.length,none⟩)::v::R).toArray T (0,0)):=by
  rw[C.block b V (fun e=>W e.symm)];exact N.o
 have Q:Hid (O.heap[b]?=some (.cells (A++.pointer (some ⟨b,A.length,none⟩)::v::R).toArray T (0,0))):=D;have d0:O.cell? ⟨b,o,none⟩=some (.pointer (some ⟨b,o,none⟩)):=by have:=j6k D;rw[M.o]at this;exact this
 have d1:O.cell? ⟨b,o+1,none⟩=some v:=by have:=k6b D;rw[M.o]at this;exact this
 have f1:O.frozen? ⟨b,o+1,none⟩=false:=Lib.frozen_of_heap D (o+1);clear D
 obtain⟨c,i,K,rfl⟩:∃c i K,j=.slice c i K:=by
  rcases G.2 with⟨X,_⟩|⟨g,K,r,fz,X,_⟩
  ·exact⟨_,_,_,X⟩
  ·exact⟨_,_,_,X⟩
 go_wp2;go_ret2;refine⟨rfl,.inr ?_,?_,(U.grown C (Lib.ownsRowF_kind E)).setCell ⟨b,o+1,none⟩ rfl _⟩
 ·rw[<-M.o];refine OAt.put Q.o (bs':=bs++Lib.strCells s) (by simpa[Lib.strCells_length]using G) n.o (fun h=>?_);obtain⟨S,t⟩:=List.append_eq_nil_iff.1 h;refine q.o.2 ⟨l.o S,?_⟩;rw[<-Lib.strCells_length,t];rfl
 ·exact(L.grown C (by have:=L.size;omega) (fun k hk=>(E.lt k hk).1)).setCell (p:=⟨b,o+1,none⟩) (.inl rfl) _
theorem j6m(T B b o:Nat)(E:List Value)(l:List UInt8)(R:List Value)(w:World)(ho:E.length=o)(h:IsO T B b E (Lib.byteCells l) R w)(h0:l≠[]):
  Calls prog 12 #[.pointer (some ⟨b,o,none⟩)] w fun e w'=>e=.returned (.string ⟨l.toArray⟩)/\Below B w w':=by
 obtain⟨p,I⟩:=h.at;obtain⟨v,H,D,W,_⟩:=I;have M:l.length≠0:=by simpa using h0
 rw[Lib.byteCells_length]at D
 obtain⟨g,A,C,G,rfl,J,U,S,V,K,Q,N⟩:∃g A C G,v=.slice (some ⟨g,0,none⟩) l.length A/\B<=g/\w.heap[g]?=some (.cells C 5 G)/\G.2<=l.length*1/\l.length<=A/\A<=maxLen/\C.size=A*1/\C.toList.take (l.length*1)=Lib.byteCells l:=by
  rcases D.2 with⟨_,Z⟩|⟨g,A,C,G,X,r⟩
  ·exact absurd Z M
  ·exact⟨g,A,C,G,X,r⟩
 have a:w.drew.cell? ⟨b,o+1,none⟩=some (.slice (some ⟨g,0,none⟩) l.length A):=by
  have:w.drew.heap[b]?=some (.cells (E++p::.slice (some ⟨g,0,none⟩) l.length A::R).toArray T (0,0)):=H
  have:=k6b this
  rw[ho]at this;exact this
 have O:(Builtin.unsafeSliceData_ #[36] 68 #[.slice (some ⟨g,0,none⟩) l.length A]).run prog w.drew=.ok (.pointer (some ⟨g,0,none⟩)) w.drew:=
  Lib.run_unsafeSliceData_row _ _ _ _ _ _ (by omega)
 have P:(Builtin.unsafeString_ #[68,3] 9 #[.pointer (some ⟨g,0,none⟩),.int .i64 l.length]).run prog w.drew=.ok (.string ⟨l.toArray⟩) (w.drew.freeze ⟨g,0,none⟩ l.length):=by
  refine Lib.run_unsafeString_row w.drew 68 3 9 5 Tryz.underlying68 j9i g C.size (by have L:w.drew.heap[g]?=some (.cells C 5 G):=U;simp[World.shape?,L]) l h0 (by omega) (by unfold maxLen at K;omega) ?_;intro j x Y
  have:=D.cells (g:=g) rfl j (.int .u8 x.toNat) (by simp[Lib.byteCells,Y])
  exact this
 clear H;go_in;go_wp2
 go_region
 all_goals (go_wp2;go_ret;exact⟨rfl,Lib.below_freeze (Below.drew (Below.refl B w)) (p:=⟨g,0,none⟩) J _⟩)
theorem j6l(T B b o:Nat)(A R:List Value)(w:World)(ho:A.length=o)(h:IsO T B b A [] R w):
  Calls prog 12 #[.pointer (some ⟨b,o,none⟩)] w fun e w'=>e=.returned (.string ⟨#[]⟩)/\Below B w w':=by
 obtain⟨p,E⟩:=h.at;obtain⟨v,C,D,G,H⟩:=E;obtain rfl:=H rfl;clear D G H;have J:∀(W:World)(q:Option Addr),(Builtin.unsafeString_ #[68,3] 9 #[.pointer q,.int .i64 0]).run prog W=.ok (.string .empty) W:=fun W q=>Lib.run_unsafeString_none W _ _ _ q
 have K:w.drew.cell? ⟨b,o+1,none⟩=some (.slice none 0 0):=by
  have:w.drew.heap[b]?=some (.cells (A++p::.slice none 0 0::R).toArray T (0,0)):=C
  have:=k6b this
  rw[ho]at this;exact this
 have I:(Builtin.unsafeSliceData_ #[36] 68 #[.slice none 0 0]).run prog w.drew=.ok (.pointer none) w.drew:=rfl;clear C;go_in;go_wp2
 go_region
 all_goals (go_wp2;go_ret;exact⟨rfl,Below.drew (Below.refl B w)⟩)
theorem v3o(T B b o:Nat)(A:List Value)(l:List UInt8)(R:List Value)(w:World)(ho:A.length=o)(h:IsO T B b A (Lib.byteCells l) R w):
  Calls prog 12 #[.pointer (some ⟨b,o,none⟩)] w fun e w'=>e=.returned (.string ⟨l.toArray⟩)/\Below B w w':=by
 by_cases C:l=[]
 ·subst C;exact j6l T B b o A R w ho h
 ·exact j6m T B b o A l R w ho h C
theorem y0o(tx:ByteArray)(n:Int)(A C:List Nd)(tA tC:List UInt8)(kA kC:Bool)(hA:z8k A tA kA)(hC:z8k C tC kC)(Ae:tA.length<=20*A.length):z8k (⟨6,tx,n⟩::(A++C)) (tA++tC) (kA||kC):=by
 intro B b s ds H a j l k w hd S P Q hc hW K hl;generalize U:(A++C)++H=r;have d:Hid ((A++C)++H=r):=U;have g:Hid (r.length=((A++C):List Nd).length+H.length):=(show _=_ by rw[<-U,List.length_append]);obtain rfl:ds=⟨6,tx,n⟩::r:=by rw[hd,<-U];rfl
 clear hd U;obtain⟨o0,ea,c1,c2,c3⟩:=S 0 (by simp);subst ea;simp only[List.length_cons]at hc hl⊢;have c:Hid (q0w s w (some ⟨s,o0+3,none⟩) r):=S.rest
 have I:Hid (j=1->q0w s w (some ⟨s,o0,none⟩) r):=fun h=>by
  have h1:=S.slid hc;rw[if_pos h]at h1;exact h1
 have HW:Hid (Ln B b l k w):=hW;simp only[Nat.zero_mul,Nat.add_zero,List.getElem_cons_zero]at c1 c2 c3;have Ac:s<w.heap.size:=by omega
 have Ad:(1:Int)<=(r.length:Int)+1:=by omega
 have R:Hid (∀O:Obj,q0j B b w (w.alloc O).drew):=fun O=>q0j.drew ((q0j.refl B b w).alloc K O)
 have HK:Hid (∀O:Obj,Lib.OthersKept 5 (some b) w (w.alloc O).drew):=fun O=>((Lib.OthersKept.refl _ _ w).alloc O).drew
 have D:Hid (s<B/\s≠b):=⟨P,Q⟩;clear S hW P Q;go_in
 go_upto_region 1 with fail
 go_cut [0,1,5,6] (fun t _ p q wx=>k1s B b s w.heap.size ⟨6,tx,n⟩ r l k w t p q wx)
 case first=>
  go_region
  all_goals (go_wp2_with fail)
  all_goals
   go_meet
   refine⟨rfl,rfl,⟨_,_,rfl,?_,by omega⟩,by simp[go_sem],by simp[go_sem],by simp[go_sem],IsX.drew (IsX.alloc HW.o _),R.o _,HK.o _⟩
   first
    | exact c.o.kept ((R.o _).block s D.o.1 D.o.2)
    | exact(I.o (by assumption)).kept ((R.o _).block s D.o.1 D.o.2)
    | exact(I.o rfl).kept ((R.o _).block s D.o.1 D.o.2)
 case rest=>
  obtain⟨rfl,rfl,⟨a',z,rfl,hn,o⟩,e1,e2,e3,hw,E,N⟩:=hcut;dsimp only at e1 e2 e3;have Z:Hid (q0w s wc a' r):=hn;have i:Hid (Ln B b l k wc):=hw;have W:Hid (q0j B b w wc):=E;have X:Hid (Lib.OthersKept 5 (some b) w wc):=N;have J:B<=wc.heap.size:=Nat.le_trans K E.size;clear hn hw E N;rw[List.append_assoc]at d;generalize G:C++H=rc at d;have f:Hid (C++H=rc):=G;have Y:Hid (rc.length=C.length+H.length):=(show _=_ by rw[<-G,List.length_append]);have V:Hid ((A++C).length=A.length+C.length):=(show _=_ from List.length_append);clear G;have HA:Hid (z8k A tA kA):=hA;have HC:Hid (z8k C tC kC):=hC;clear hA hC;go_wp2_with fail;refine(HA.o B b s r rc _ _ l k _ d.o.symm Z.o D.o.1 D.o.2 o i.o J (by omega)).mono ?_;rintro e w3⟨⟨a3,Aa,rfl,n3,u⟩,h3,M,x⟩;have L:B<=w3.heap.size:=Nat.le_trans J M.size;go_wp2_with fail;refine(HC.o B b s rc H _ _ _ _ _ f.o.symm n3 D.o.1 D.o.2 u h3 L (by have q1:=g.o;have q2:=Y.o;have q3:=V.o;simp;omega)).mono ?_;rintro e w4⟨⟨a4,Ab,rfl,n4,v⟩,h4,m,y⟩;go_wp2;go_ret;rw[<-Bool.or_assoc,<-List.append_assoc];exact⟨⟨_,_,rfl,n4,v⟩,h4,W.o.trans (M.trans m),X.o.trans (x.trans y)⟩
end Go.Proofs.YtelcnplcpboonaaGreatDoor
