/- Texts as one: OpenT, OpenW, TwP, TopP, PgB, AppP, AppS, SyZ, SyK, SyL, RdA, RdB, RdL, RdT, RdS, RdN, RdR, RdP, SyW, SynF. -/
import Derived.Test.YthjapabokcajhaaGreatDoorRows
import Derived.Test.YthjapabokcajhaaGreatDoorPf07
import Derived.Deep.Slices
import Derived.Carry
import Derived.RowKit
import Derived.SizedLaws
import Derived.Test.YthjapabokcajhaaGreatDoorPf05
import Derived.Test.YthjapabokcajhaaGreatDoorPf06
import Derived.Test.YthjapabokcajhaaGreatDoorPf03
import Derived.Test.YthjapabokcajhaaGreatDoorPf39
import Derived.Test.YthjapabokcajhaaGreatDoorPf31
import Derived.Test.YthjapabokcajhaaGreatDoorPf40
import Derived.Test.YthjapabokcajhaaGreatDoorPf36
import Derived.Deep.RegionLaw
import Derived.RegionDies
import Derived.Recover
import Derived.Test.YthjapabokcajhaaGreatDoorPf37
import Derived.Test.YthjapabokcajhaaGreatDoorPf02
import Derived.BigQuiet
import Derived.Deep.QuietTactic
import Derived.Test.YthjapabokcajhaaGreatDoorPf32
import Derived.Laws.Strings2
import Derived.Test.YthjapabokcajhaaGreatDoorPf33
import Derived.Test.YthjapabokcajhaaGreatDoorPf41
namespace Go.Proofs.YthjapabokcajhaaGreatDoor
open Go Go.ChangeShapes Go.WideShapes Go.RowKit
theorem z8l:laidOutB Tryz.prog=true:=by kernel_rfl
theorem k2o:Tryz.prog.cellsOf 47=3:=by kernel_rfl
theorem j5c:Tryz.prog.cellsOf 3=1:=by kernel_rfl
theorem j5d:Tryz.prog.cellsOf 9=1:=by kernel_rfl
theorem k1s(b o n:Nat):(⟨b,o,none⟩:Addr).add n=⟨b,o+n,none⟩:=by
 unfold Addr.add
 split
 ·rename_i h;subst h;rfl
 ·rfl
theorem j3y{α:Type}{l:List α}(h:l.length=3):∃a b c,l=[a,b,c]:=by
 match l,h with
 | [a,b,c],_=>exact⟨a,b,c,rfl⟩
theorem z3s{H:Type}{d:DataW H}{l:List (DataW H)}(h:d∈l):Rows.uptoBulk d<=Rows.uptoBulkAll l:=by
 induction l with
 | nil=>cases h
 | cons x r ih=>
  simp only[Rows.uptoBulkAll];cases List.mem_cons.1 h with
  | inl e=>subst e;omega
  | inr e=>have:=ih e;omega
theorem k0a{H:Type}{d:DataW H}{l s:List (DataW H)}(h:d∈l):Rows.uptoBulk d<=Rows.uptoBulk (.slice l s):=by
 have:=z3s h
 simp only[Rows.uptoBulk];omega
section
variable {H:Type} {enc:TypeId × Value→H} {W:World}
theorem q7l{P:Program}{e:TypeId}:∀{l:List (DataW H)}{d:DataW H},d∈l->∀n∈d.weights P e,n∈DataW.weightsAll P e l
 | d'::r,d,hd,n,hn=>by
  simp only[DataW.weightsAll,List.mem_append];rcases List.mem_cons.1 hd with rfl|h
  ·exact Or.inl hn
  ·exact Or.inr (q7l h n hn)
theorem z7b{fuel:Nat}{a0:Option Addr}{l0 c0:Nat}{d:DataW H}{p:List MemPlace}(hf:DataW.trod enc Tryz.prog W 0 (fun _=>true) true fuel 22 [.slice a0 l0 c0]=some (d,p)):
  ∃ds:List Td,l0=ds.length/\ds.length<=c0/\Tds W a0 ds/\∀x∈ds,x.tx.size<=Rows.uptoBulk d/\x.tx.size∈d.weights Tryz.prog 22:=by
 rcases Deep.open_slice Tryz.underlying22 hf with⟨h1,_⟩|⟨a,len,cap,m,n,D,Pl,h1,_,hl,_,hm,hd,hx⟩
 ·simp only[List.cons.injEq,and_true,Value.slice.injEq]at h1;obtain⟨rfl,rfl,rfl⟩:=h1;exact⟨[],rfl,Nat.le_refl _,fun i hi=>by simp at hi,fun x hx=>by cases hx⟩
 ·simp only[List.cons.injEq,and_true,Value.slice.injEq]at h1;obtain⟨rfl,rfl,rfl⟩:=h1;have hlm:l0<=m:=by rw[hm];simp only[if_true];exact hl
  have each:∀i,i<l0->∃x:Td,W.cell? ((a.add (i*3)).add 0)=some (.int .i64 x.op)/\W.cell? ((a.add (i*3)).add 1)=some (.string x.tx)/\W.cell? ((a.add (i*3)).add 2)=some (.int .i64 x.n)/\x.tx.size<=Rows.uptoBulk (D i)/\x.tx.size∈(D i).weights Tryz.prog 47:=by
   intro i hi;obtain⟨cs',g1,g2⟩:=hx i (by omega);rw[k2o]at g1;obtain⟨_,hlen,hcell⟩:=World.cells?_some g1;obtain⟨xs,k,_,hxd,_,hxl,hfl⟩:=DataW.trod_struct Tryz.underlying47 g2;have hfl0:=hfl 0 _ rfl;have hfl1:=hfl 1 _ rfl;have hfl2:=hfl 2 _ rfl;obtain⟨y0,y1,y2,rfl⟩:=j3y hxl;obtain⟨v0,v1,v2,rfl⟩:=j3y hlen;clear hxl hlen;simp[j5c,j5d]at hfl0 hfl1 hfl2;obtain⟨z0,e0,_,_⟩:=DataW.trod_int Tryz.underlying3 hfl0;obtain⟨s1,e1,e1d,_⟩:=DataW.trod_string Tryz.underlying9 hfl1;obtain⟨z2,e2,_,_⟩:=DataW.trod_int Tryz.underlying3 hfl2;simp only[List.cons.injEq,and_true]at e0 e1 e2;subst e0 e1 e2;refine⟨⟨z0,s1,z2⟩,hcell 0 (by omega),hcell 1 (by omega),hcell 2 (by omega),?_⟩;have hD:D i=.agg ([y0,y1,y2].map (·.1)):=(Prod.mk.inj hxd).1;rw[hD,e1d];have e:s1.data.toList.length=s1.size:=by rw[Array.length_toList];rfl
   refine⟨?_,?_⟩
   ·simp only[List.map_cons,List.map_nil,Rows.uptoBulk,Rows.uptoBulkAll];omega
   ·simp only[DataW.weights,Tryz.underlying47];refine DataW.weights_mem_each (j:=1) (t:=9) rfl rfl _ ?_;rw[<-e];exact List.mem_singleton.2 rfl
  have inh:Inhabited Td:=⟨⟨0,⟨#[]⟩,0⟩⟩;obtain⟨q,hq⟩:=Deep.choose_lt each;refine⟨(List.range l0).map q,by simp,by simpa using hl,?_,?_⟩
  ·intro i hi;have hi':i<l0:=by simpa using hi
   obtain⟨c0,c1,c2,_,_⟩:=hq i hi';obtain⟨c00,_,_,_,_⟩:=hq 0 (by omega)
   have hs:a.spot=none:=by
    have:=World.cell?_spot c00
    simpa[Addr.add]using this
   obtain⟨b,o,sp⟩:=a;simp only at hs;subst hs;simp only[k1s,Nat.add_zero]at c0 c1 c2
   have hb:b<W.heap.size:=by
    rcases Nat.lt_or_ge b W.heap.size with h'|h'
    ·exact h'
    ·simp[World.cell?,Array.getElem?_eq_none h']at c0
   refine⟨b,o,rfl,hb,?_,?_,?_⟩
   ·simpa using c0
   ·simpa using c1
   ·simpa using c2
  ·intro x hx;obtain⟨i,hi,rfl⟩:=List.mem_map.1 hx;have hi':=List.mem_range.1 hi;obtain⟨_,_,_,h4,h6⟩:=hq i hi';have hd':d=_:=(Prod.mk.inj hd).1
   have h5:Rows.uptoBulk (D i)<=Rows.uptoBulk d:=by
    rw[hd'];exact k0a (List.mem_map.2 ⟨i,hi,rfl⟩)
   refine⟨by omega,?_⟩;rw[hd'];simp only[DataW.weights,Tryz.underlying22];exact List.mem_cons_of_mem _ (List.mem_append_left _ (q7l (List.mem_map.2 ⟨i,hi,rfl⟩) _ h6))
theorem z7a{fuel:Nat}{a0:Option Addr}{l0 c0:Nat}{d:DataW H}{p:List MemPlace}(hf:DataW.trod enc Tryz.prog W 0 (fun _=>true) true fuel 22 [.slice a0 l0 c0]=some (d,p)):
  ∃ds:List Td,l0=ds.length/\ds.length<=c0/\Tds W a0 ds/\∀x∈ds,x.tx.size<=Rows.uptoBulk d:=by
 obtain⟨ds,h1,h2,h3,h4⟩:=z7b hf;exact⟨ds,h1,h2,h3,fun x hx=>(h4 x hx).1⟩
theorem k0u{a0:Option Addr}{l0 c0:Nat}{d:DataW H}{p:List MemPlace}(h:DataW.Trod enc Tryz.prog W 0 (fun _=>true) true 22 (.slice a0 l0 c0) d p):
  ∃ds:List Td,l0=ds.length/\ds.length<=c0/\Tds W a0 ds/\∀x∈ds,x.tx.size<=Rows.uptoBulk d:=by
 obtain⟨fuel,hf⟩:=h;exact z7a hf
end
end Go.Proofs.YthjapabokcajhaaGreatDoor
namespace Go.Proofs.YthjapabokcajhaaGreatDoor
open Go Go.ChangeShapes Go.WideShapes Go.RowKit
theorem k9i:Tryz.prog.cellsOf 3=1:=by kernel_rfl
theorem k8s(b o n:Nat):(⟨b,o,none⟩:Addr).add n=⟨b,o+n,none⟩:=by
 unfold Addr.add
 split
 ·rename_i h;subst h;rfl
 ·rfl
section
variable {H:Type} {enc:TypeId × Value→H} {W:World}
theorem k6k{a0:Option Addr}{l0 c0:Nat}{d:DataW H}{p:List MemPlace}(h:DataW.Trod enc Tryz.prog W 0 (fun _=>true) true 45 (.slice a0 l0 c0) d p):
  ∃ws:List Int,l0=ws.length/\ws.length<=c0/\c0<=maxLen/\q8j W a0 ws:=by
 obtain⟨fuel,hf⟩:=h;have hf:DataW.trod enc Tryz.prog W 0 (fun _=>true) true fuel 45 [.slice a0 l0 c0]=some (d,p):=hf;rcases Deep.open_slice Tryz.underlying45 hf with⟨h1,_⟩|⟨a,len,cap,m,n,D,Pl,h1,_,hl,hcm,hm,_,hx⟩
 ·simp only[List.cons.injEq,and_true,Value.slice.injEq]at h1;obtain⟨rfl,rfl,rfl⟩:=h1;exact⟨[],rfl,Nat.le_refl _,Nat.zero_le _,fun i hi=>by simp at hi⟩
 ·simp only[List.cons.injEq,and_true,Value.slice.injEq]at h1;obtain⟨rfl,rfl,rfl⟩:=h1;have hlm:l0<=m:=by rw[hm];simp only[if_true];exact hl
  have each:∀i,i<l0->∃x:Int,W.cell? (a.add i)=some (.int .i64 x):=by
   intro i hi;obtain⟨cs',g1,g2⟩:=hx i (by omega);rw[k9i]at g1;obtain⟨_,hlen,hcell⟩:=World.cells?_some g1
   obtain⟨z,rfl⟩:∃z,cs'=[z]:=by
    match cs',hlen with
    | [z],_=>exact⟨z,rfl⟩
   obtain⟨y,e0,_,_⟩:=DataW.trod_int Tryz.underlying3 g2;simp only[List.cons.injEq,and_true]at e0;subst e0;have hc:=hcell 0 (by omega);have ha:(a.add (i*1)).add 0=a.add i:=by rw[Nat.mul_one];simp[Addr.add]
   rw[ha]at hc;exact⟨y,hc⟩
  obtain⟨q,hq⟩:=Deep.choose_lt each;refine⟨(List.range l0).map q,by simp,by simpa using hl,hcm,?_⟩;intro i hi;have hi':i<l0:=by simpa using hi
  have c0:=hq i hi';have c00:=hq 0 (by omega)
  have hs:a.spot=none:=by
   have:=World.cell?_spot c00
   simpa[Addr.add]using this
  obtain⟨b,o,sp⟩:=a;simp only at hs;subst hs;simp only[k8s]at c0
  have hb:b<W.heap.size:=by
   rcases Nat.lt_or_ge b W.heap.size with h'|h'
   ·exact h'
   ·simp[World.cell?,Array.getElem?_eq_none h']at c0
  exact⟨b,o,rfl,hb,by simpa using c0⟩
end
end Go.Proofs.YthjapabokcajhaaGreatDoor
namespace Go.Proofs.YthjapabokcajhaaGreatDoor
open Go
def j3x(ts:List Tn):Nat:=(ts.map fun t=>t.tk.length+2).sum
theorem q5c(t:Tn)(r:List Tn):j3x (t::r)=t.tk.length+2+j3x r:=by simp[j3x]
theorem z1y(l:Nat)(t:Tn):(brk l t).length<=t.tk.length+2:=by
 unfold brk
 split
 ·simp
 ·omega
theorem k2r:∀ts:List Tn,(cmk ts).length<=j3x ts
 | []=>Nat.zero_le _
 | t::r=>by
  have ih:=k2r r;rw[k9l,q5c,List.length_append];cases r with
  | nil=>simp[cmt];omega
  | cons u z=>
   simp only[cmt,List.length_cons];omega
theorem k7t(f:Tn->Tn->List Wd)(hf:∀a b,(f a b).length<=a.tk.length+b.tk.length+5):∀ts:List Tn,(two2 f ts).length<=j3x ts+1
 | []=>by simp[two2]
 | [_]=>by simp[two2]
 | [a,b]=>by
  have:=hf a b
  rw[q5c,q5c]
  show(f a b).length<=_
  omega
 | _::_::_::_=>by simp[two2]
theorem v0k(x:Td)(ts:List Tn):(z5t x ts).length<=3+j3x ts:=by
 have hc:=k2r ts;unfold z5t
 split
 ·simp;omega
 ·split
  ·simp;omega
  ·split
   ·simp;omega
   ·split
    ·simp;omega
    ·split
     ·have:=k7t (fun a b=>brk 0 a++[43]::brk 1 b) (fun a b=>by
       have h1:=z1y 0 a;have h2:=z1y 1 b
       simp;omega) ts
      omega
     ·have:=k7t (fun a b=>brk 1 a++[42]::brk 2 b) (fun a b=>by
       have h1:=z1y 1 a;have h2:=z1y 2 b
       simp;omega) ts
      omega
theorem z7i:∀F:Fo,j3x F.trs<=5*F.nodes.length
 | .nil=>by simp[Fo.trs,j3x]
 | .cons x k n=>by
  have h1:=z7i k;have h2:=z7i n;have h3:=v0k x k.trs;rw[Fo.trs,q5c,Fo.nodes];simp only[q3d,List.length_cons,List.length_append];omega
theorem v0i{t:List Td}(h:q0b t=0)(h9:opT t≠9):(j7s t).length<=205:=by
 have h40:=(q1z h).1;obtain⟨x,y,k,rfl,hok,_,hk,hx⟩:=q4j h h9;rw[(z7g hok hk).2];have h1:=z7i (.cons y k .nil);rw[Fo.trs,q5c]at h1;simp only[List.length_cons]at h40
 have h2:(hdK (Fo.cons y k .nil).trs).length<=200:=by
  show(q3d y k.trs).tk.length<=200
  omega
 unfold stK
 split
 ·simp only[List.length_cons,List.length_append,List.length_nil];omega
 ·split
  ·simp only[List.length_cons,List.length_append,List.length_nil];omega
  ·simp
theorem j1j{t:List Td}(h:q0b t=0)(h9:opT t≠9){u:List Int}{r:List UInt8}(hs:(q0i t).show u=.ok r):r.length<=20000:=by
 have h1:=j8q h h9 (z9d hs);have h2:=v0i h h9;have h3:90*(j7s t).length<=90*205:=Nat.mul_le_mul_left _ h2;omega
end Go.Proofs.YthjapabokcajhaaGreatDoor
namespace Go.Proofs.YthjapabokcajhaaGreatDoor
open Go Go.RowKit
theorem k2a{t:List Td}(h:q4v t=0)(n:Nat)(hn:n<=100)(A:Option Addr)(c:Nat)(w:World)(hc:(q3g t).length<=c)(hN:q1u w A (q3g t)):
  Calls Tryz.prog 71 #[.slice A (q3g t).length c,.int .i64 (n:Int)] w fun e w'=>(∃s wa wl wc,∃q1 q2:Int,e=.returned (.tuple #[.string (wbS s),.slice wa wl wc,.agg #[.int .i64 q1,.int .i64 q2],.nilIface])/\dcL n t=s++[10]/\s.length<=20000)/\Below w.heap.size w w':=by
 obtain⟨h0,h9,hd,hl⟩:=z8m h;obtain⟨e1,e2⟩:=k1t (wd:=n) (q5q h0 h9).w hd (by rw[hd];exact hl) hn;have hb:(q0i t).best n=some (bs n 0 [(0,q0i t)]):=by rw[q6n,q2e]
 obtain⟨_,b2,_⟩:=q5f hb
 have e3:bT (q3g t) (n:Int)=wbS ((q0i t).txt (bs n 0 [(0,q0i t)]).2):=by
  rw[bT,if_pos e1,e2,z2o h,b2];rfl
 refine(k1v (q3g t) (n:Int) A c hc w hN).mono ?_;rintro e w'⟨⟨wa,wc,rfl,_⟩,hbl⟩;refine⟨⟨_,wa,_,wc,_,_,by rw[e3,e1,q0u],rfl,?_⟩,hbl⟩;exact j1j h0 h9 b2
theorem k3o{tx:ByteArray}(h:q1s tx=0)(n:Nat)(h1:10<=n)(h2:n<=100)(A:Option Addr)(c:Nat)(w:World)(hc:(q0f (btL tx)).length<=c)(hW:Wds w A ((q0f (btL tx)).map wbS)):
  Calls Tryz.prog 69 #[.slice A (q0f (btL tx)).length c,.int .i64 ((n:Int)-2)] w fun e w'=>(∃L c,e=.returned (.tuple #[.slice L (q2b (n-2) ((q0f (btL tx)).map wbS)).length c,.nilIface])/\q6l w.heap.size (.slice L (q2b (n-2) ((q0f (btL tx)).map wbS)).length c) (q2b (n-2) ((q0f (btL tx)).map wbS)) w')/\Below w.heap.size w w':=by
 have e:((n:Int)-2)=((n-2:Nat):Int):=by omega
 have e0:q4c ((q0f (btL tx)).map wbS) ((n-2:Nat):Int)=0:=by
  have hf:q0t ((q0f (btL tx)).map wbS)=0:=h;rw[q4c,if_neg (by simp[hf]),if_neg (by omega)]
 have h3:=j2g ((q0f (btL tx)).map wbS) A c (n-2) w (by rw[List.length_map];exact hc) hW e0;rw[List.length_map]at h3;rw[e];exact h3
theorem k6d:∀(ls:List ByteArray),ls≠[]->[35,32]++Lib.join (ls.map fun x=>x.data.toList) [10,35,32]++[10]=ls.flatMap ntF
 | [],h=>absurd rfl h
 | [l],_=>by simp[Lib.join_one,ntF,btL]
 | l::u::r,_=>by
  have ih:=k6d (u::r) (by simp);rw[List.flatMap_cons,<-ih];simp[Lib.join_cons,Lib.joinTail,ntF,btL]
theorem z8s{tx:ByteArray}(n:Nat)(h0:q0f (btL tx)≠[]):ntL n tx=[35,32]++Lib.join ((q2b (n-2) ((q0f (btL tx)).map wbS)).map fun x=>x.data.toList) [10,35,32]++[10]:=by
 have hne:q2b (n-2) ((q0f (btL tx)).map wbS)≠[]:=by
  rw[q3p _ (by simpa using h0)];simp
 rw[k6d _ hne,ntL,if_neg h0];rfl
end Go.Proofs.YthjapabokcajhaaGreatDoor
