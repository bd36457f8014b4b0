import Derived.Test.YtelcnplcpboonaaGreatDoorPb10
import Derived.Test.YtelcnplcpboonaaGreatDoorPb02
import Derived.Test.YtelcnplcpboonaaGreatDoorPb08
import Derived.Maps.OwnSet
import Derived.DeepKeys4
import Derived.Test.YtelcnplcpboonaaGreatDoorRows
import Derived.ChangeSame
import Derived.ChangeVars
import Derived.JoinedOf
import Derived.RowKit
import Derived.LaidLaws
import Derived.LaidHandle
import Derived.Stop.Joined
import Derived.Deep.Slices
import Derived.Carry
import Derived.SizedLaws
open Go.Proofs.Tryz
namespace Go.Proofs.YtelcnplcpboonaaGreatDoor
open Go Go.RowKit
set_option maxRecDepth 100000
set_option maxHeartbeats 8000000
theorem k5q(k:Nat){o:Int}(hk:k=0/\o=3\/k=1/\o=5)(tx:ByteArray)(n:Int):z8k (⟨o,tx,n⟩::[]) ([]) (false):=by
 have g:Tag k:=.mk;rcases hk with⟨rfl,rfl⟩|⟨rfl,rfl⟩
 all_goals
  intro B b s ds M a U l k w c K H I Z Y E hl;generalize L:[]++M=r;have j:Hid ([]++M=r):=L;have m:Hid (r.length=([]:List Nd).length+M.length):=(show _=_ by rw[<-L,List.length_append]);obtain rfl:ds=⟨↑(sel g (3:Int) 5),tx,n⟩::r:=by rw[c,<-L];rfl
  clear c L;obtain⟨f,ea,x,y,z⟩:=K 0 (by simp);subst ea;simp only[List.length_cons]at Z hl⊢;have R:Hid (q0w s w (some ⟨s,f+3,none⟩) r):=K.rest
  have D:Hid (U=1->q0w s w (some ⟨s,f,none⟩) r):=fun h=>by
   have X:=K.slid Z;rw[if_pos h]at X;exact X
  have u:Hid (Ln B b l k w):=Y;simp only[Nat.zero_mul,Nat.add_zero,List.getElem_cons_zero]at x y z;have Ab:s<w.heap.size:=by omega
  have Ac:(1:Int)<=(r.length:Int)+1:=by omega
  have J:Hid (∀O:Obj,q0j B b w (w.alloc O).drew):=fun O=>q0j.drew ((q0j.refl B b w).alloc E O)
  have i:Hid (∀O:Obj,Lib.OthersKept 5 (some b) w (w.alloc O).drew):=fun O=>((Lib.OthersKept.refl _ _ w).alloc O).drew
  have C:Hid (s<B/\s≠b):=⟨H,I⟩;clear K Y H I;go_in
  go_upto_region 1 with fail
  go_cut [0,1,5,6] (fun t _ p q wx=>k1s B b s w.heap.size ⟨↑(sel g (3:Int) 5),tx,n⟩ r l k w t p q wx)
  case first=>
   go_region
   all_goals (go_wp2_with fail)
   all_goals
    go_meet
    refine⟨rfl,rfl,⟨_,_,rfl,?_,by omega⟩,by simp[go_sem],by simp[go_sem],by simp[go_sem],IsX.drew (IsX.alloc u.o _),J.o _,i.o _⟩
    first
     | exact R.o.kept ((J.o _).block s C.o.1 C.o.2)
     | exact(D.o (by assumption)).kept ((J.o _).block s C.o.1 C.o.2)
     | exact(D.o rfl).kept ((J.o _).block s C.o.1 C.o.2)
  case rest=>
   obtain⟨rfl,rfl,⟨v,W,rfl,d,V⟩,e1,e2,e3,e,A,G⟩:=hcut;dsimp only at e1 e2 e3;have Q:Hid (q0w s wc v r):=d;have S:Hid (Ln B b l k wc):=e;have N:Hid (q0j B b w wc):=A;have P:Hid (Lib.OthersKept 5 (some b) w wc):=G;have Aa:B<=wc.heap.size:=Nat.le_trans E A.size;clear d e A G;go_wp2;go_ret;obtain rfl:M=r:=j.o;rw[Bool.or_false,List.append_nil];exact⟨⟨_,_,rfl,Q.o,V⟩,S.o,N.o,P.o⟩
theorem y0n(tx:ByteArray)(n:Int):z8k (⟨4,tx,n⟩::[]) ([]) (true):=by
 intro B b s y N a U l k w c L I J Z Y G hl;generalize M:[]++N=r;have i:Hid ([]++N=r):=M;have j:Hid (r.length=([]:List Nd).length+N.length):=(show _=_ by rw[<-M,List.length_append]);obtain rfl:y=⟨4,tx,n⟩::r:=by rw[c,<-M];rfl
 clear c M;obtain⟨f,ea,u,v,x⟩:=L 0 (by simp);subst ea;simp only[List.length_cons]at Z hl⊢;have S:Hid (q0w s w (some ⟨s,f+3,none⟩) r):=L.rest
 have E:Hid (U=1->q0w s w (some ⟨s,f,none⟩) r):=fun h=>by
  have X:=L.slid Z;rw[if_pos h]at X;exact X
 have m:Hid (Ln B b l k w):=Y;simp only[Nat.zero_mul,Nat.add_zero,List.getElem_cons_zero]at u v x;have Ab:s<w.heap.size:=by omega
 have Ac:(1:Int)<=(r.length:Int)+1:=by omega
 have K:Hid (∀O:Obj,q0j B b w (w.alloc O).drew):=fun O=>q0j.drew ((q0j.refl B b w).alloc G O)
 have g:Hid (∀O:Obj,Lib.OthersKept 5 (some b) w (w.alloc O).drew):=fun O=>((Lib.OthersKept.refl _ _ w).alloc O).drew
 have A:Hid (s<B/\s≠b):=⟨I,J⟩;clear L Y I J;go_in
 go_upto_region 1 with fail
 go_cut [0,1,5,6] (fun t _ p q wx=>k1s B b s w.heap.size ⟨4,tx,n⟩ r l k w t p q wx)
 case first=>
  go_region
  all_goals (go_wp2_with fail)
  all_goals
   go_meet
   refine⟨rfl,rfl,⟨_,_,rfl,?_,by omega⟩,by simp[go_sem],by simp[go_sem],by simp[go_sem],IsX.drew (IsX.alloc m.o _),K.o _,g.o _⟩
   first
    | exact S.o.kept ((K.o _).block s A.o.1 A.o.2)
    | exact(E.o (by assumption)).kept ((K.o _).block s A.o.1 A.o.2)
    | exact(E.o rfl).kept ((K.o _).block s A.o.1 A.o.2)
 case rest=>
  obtain⟨rfl,rfl,⟨o,W,rfl,d,V⟩,z,e2,e3,e,D,H⟩:=hcut;dsimp only at z e2 e3;have R:Hid (q0w s wc o r):=d;have C:Hid (Ln B b l k wc):=e;have P:Hid (q0j B b w wc):=D;have Q:Hid (Lib.OthersKept 5 (some b) w wc):=H;have Aa:B<=wc.heap.size:=Nat.le_trans G D.size;clear d e D H;have g1:=C.o.cell;have g2:=C.o.frozen;go_wp2;go_ret;obtain rfl:N=r:=i.o;rw[Bool.or_true,List.append_nil];refine⟨⟨_,_,rfl,R.o.kept (Below.heap_setCell _ _ _ _ A.o.2),V⟩,C.o.stored true,P.o.setCell (.inl rfl) _,Q.o.setCell _ rfl _⟩
theorem k5r(k:Nat){o:Int}(hk:k=0/\o=7\/k=1/\o=8)(tx:ByteArray)(n:Int)(A:List Nd)(tA:List UInt8)(kA:Bool)(hA:z8k A tA kA):z8k (⟨o,tx,n⟩::A) (tA) (kA):=by
 have y:Tag k:=.mk;rcases hk with⟨rfl,rfl⟩|⟨rfl,rfl⟩
 all_goals
  intro B b s ds N a V l k w m L I J j i G hl;generalize M:A++N=r;have HR:Hid (A++N=r):=M;have Aa:Hid (r.length=(A:List Nd).length+N.length):=(show _=_ by rw[<-M,List.length_append]);obtain rfl:ds=⟨↑(sel y (7:Int) 8),tx,n⟩::r:=by rw[m,<-M];rfl
  clear m M;obtain⟨x,ea,c1,c2,c3⟩:=L 0 (by simp);subst ea;simp only[List.length_cons]at j hl⊢;have S:Hid (q0w s w (some ⟨s,x+3,none⟩) r):=L.rest
  have E:Hid (V=1->q0w s w (some ⟨s,x,none⟩) r):=fun h=>by
   have g:=L.slid j;rw[if_pos h]at g;exact g
  have HW:Hid (Ln B b l k w):=i;simp only[Nat.zero_mul,Nat.add_zero,List.getElem_cons_zero]at c1 c2 c3;have Ab:s<w.heap.size:=by omega
  have Ac:(1:Int)<=(r.length:Int)+1:=by omega
  have K:Hid (∀O:Obj,q0j B b w (w.alloc O).drew):=fun O=>q0j.drew ((q0j.refl B b w).alloc G O)
  have HK:Hid (∀O:Obj,Lib.OthersKept 5 (some b) w (w.alloc O).drew):=fun O=>((Lib.OthersKept.refl _ _ w).alloc O).drew
  have C:Hid (s<B/\s≠b):=⟨I,J⟩;clear L i I J;go_in
  go_upto_region 1 with fail
  go_cut [0,1,5,6] (fun t _ p q wx=>k1s B b s w.heap.size ⟨↑(sel y (7:Int) 8),tx,n⟩ r l k w t p q wx)
  case first=>
   go_region
   all_goals (go_wp2_with fail)
   all_goals
    go_meet
    refine⟨rfl,rfl,⟨_,_,rfl,?_,by omega⟩,by simp[go_sem],by simp[go_sem],by simp[go_sem],IsX.drew (IsX.alloc HW.o _),K.o _,HK.o _⟩
    first
     | exact S.o.kept ((K.o _).block s C.o.1 C.o.2)
     | exact(E.o (by assumption)).kept ((K.o _).block s C.o.1 C.o.2)
     | exact(E.o rfl).kept ((K.o _).block s C.o.1 C.o.2)
  case rest=>
   obtain⟨rfl,rfl,⟨a',d,rfl,u,Y⟩,e1,e2,e3,v,D,H⟩:=hcut;dsimp only at e1 e2 e3;have R:Hid (q0w s wc a' r):=u;have U:Hid (Ln B b l k wc):=v;have P:Hid (q0j B b w wc):=D;have Q:Hid (Lib.OthersKept 5 (some b) w wc):=H;have W:B<=wc.heap.size:=Nat.le_trans G D.size;clear u v D H;have z:Hid (z8k A tA kA):=hA;clear hA;go_wp2_with fail;refine(z.o B b s r N _ _ l k _ HR.o.symm R.o C.o.1 C.o.2 Y U.o W (by omega)).mono ?_;rintro e w3⟨⟨a3,f,rfl,n3,Z⟩,h3,X,c⟩;go_wp2;go_ret;exact⟨⟨_,_,rfl,n3,Z⟩,h3,P.o.trans X,Q.o.trans c⟩
end Go.Proofs.YtelcnplcpboonaaGreatDoor
namespace Go.Proofs.YtelcnplcpboonaaGreatDoor
open Go Go.RowKit Go.Maps
theorem v2z:laidOutB prog=true:=by kernel_rfl
theorem g0f:(280:TypeId)<prog.types.size:=of_decide_eq_true (by kernel_rfl)
theorem mkt:prog.keyTypeAt 3 280=true:=by kernel_rfl
theorem y3i:Keyed prog 280:=Keyed.of_law (deep_law_laid v2z (m:=3) (by omega) g0f mkt (by rw[Tryz.underlying280]))
theorem y9a:prog.keyType 280=true:=by kernel_rfl
theorem v6w:prog.cellsOf 280=2:=by kernel_rfl
theorem y0z:prog.cellsOf 3=1:=by kernel_rfl
theorem y8z:∃d,prog.types.size=d+1:=⟨412-1,by kernel_rfl⟩
theorem y5k(w:World):(zeroValue 282).run prog w=.ok (.agg #[.int .i64 0,.int .i64 0,.int .i64 0,.int .i64 0,.int .i64 0]) w:=by kernel_rfl
theorem y9w{n:Nat}(h:n<=1000000):(Lit.int .i64 (n:Int)).wf=true:=WalkArith.wf_i64 (by omega)
theorem y8y{p c:Nat}(hp:p<=1000000)(hc:c<=1000000):∃kl,keyOf prog 280 (.agg #[.int .i64 (p:Int),.int .i64 (c:Int)])=some kl:=by
 obtain⟨d,C⟩:=y8z;have A:=y9w hp;have B:=y9w hc
 have D:(Value.agg #[.int .i64 (p:Int),.int .i64 (c:Int)]).formed prog 280=true:=by
  simp[Value.formed,Tryz.underlying280,v6w]
 refine⟨.string (keyBytes [.int .i64 p,.int .i64 c]),?_⟩;unfold keyOf;rw[Tryz.underlying280];simp only[y9a,D,Bool.and_self,if_true,C];simp[Program.keyLits,Tryz.underlying280,Tryz.underlying3,v6w,y0z,Value.cells,A,B]
def cvV(k:Cv):Value:=.agg #[.int .i64 k.o,.int .i64 k.l,.int .i64 k.ch,.int .i64 k.np,.int .i64 k.nc]
def zCv:Cv:=⟨0,0,0,0,0⟩
def cvR(v:Value):Option (DataW Value × List MemPlace):=some (.held v,[])
def y7u(S:Nat->Nat->Bool):Nat:=(List.range 40501).countP fun k=>S (k / 101) (k % 101)
theorem v8y(S:Nat->Nat->Bool):y7u S<=40501:=by
 have:=List.countP_le_length (p:=fun k=>S (k / 101) (k % 101)) (l:=List.range 40501)
 rw[List.length_range]at this;exact this
def z8l(S:Nat->Nat->Bool)(p c:Nat):Nat->Nat->Bool:=fun p' c'=>S p' c'||(decide (p'=p)&&decide (c'=c))
theorem z5b{f g:Nat->Bool}(k:Nat):∀(l:List Nat),k∈l->(∀x,f x=true->g x=true)->f k=false->g k=true->l.countP f+1<=l.countP g
 | [],h,_,_,_=>by simp at h
 | a::l,h,h1,h2,h3=>by
  have hm:l.countP f<=l.countP g:=List.countP_mono_left fun x _=>h1 x
  rw[List.countP_cons,List.countP_cons];by_cases e:a=k
  ·subst e;rw[h2,h3];simp;omega
  ·have h4:=z5b k l (by rcases List.mem_cons.1 h with h|h;exact absurd h.symm e;exact h) h1 h2 h3;cases hf:f a with
   | true=>rw[h1 a hf];omega
   | false=>simp only[Bool.false_eq_true,if_false,Nat.add_zero];exact Nat.le_trans h4 (Nat.le_add_right _ _)
theorem v1b{S:Nat->Nat->Bool}{p c:Nat}(hp:p<=400)(hc:c<=100)(h:S p c=false):y7u S+1<=y7u (z8l S p c):=by
 have A:(p*101+c) / 101=p:=by omega
 have B:(p*101+c) % 101=c:=by omega
 refine z5b (p*101+c) _ (List.mem_range.2 (by omega)) (fun x hx=>?_) ?_ ?_
 ·simp only[z8l,hx,Bool.true_or]
 ·rw[A,B];exact h
 ·simp[z8l,A,B]
def Mem(w:World)(b:Nat)(C:Nat->Nat->Cv)(S:Nat->Nat->Bool):Prop:=
 ∃D n,w.ownsMap prog 280 cvR b n D/\n<=y7u S/\∀p c:Nat,p<=400->c<=100->∀kl,keyOf prog 280 (.agg #[.int .i64 (p:Int),.int .i64 (c:Int)])=some kl->
  Maps.has D kl=S p c/\D.atKey kl (.held (cvV zCv))=.held (cvV (if S p c=true then C p c else zCv))
section
variable {w w':World} {b:Nat} {C:Nat→Nat→Cv} {S:Nat→Nat→Bool} {p c:Nat}
theorem Mem.lt(h:Mem w b C S):b<w.heap.size:=by
 obtain⟨D,n,h,_⟩:=h;exact h.lt
theorem Mem.kept(h:Mem w b C S)(hb:w'.heap[b]?=w.heap[b]?):Mem w' b C S:=by
 obtain⟨D,n,⟨B,A,E,G⟩,H⟩:=h;exact⟨D,n,⟨B,A,hb.trans E,G⟩,H⟩
theorem Mem.look(h:Mem w b C S)(hp:p<=400)(hc:c<=100):(Instr.lookup 276 (.map (some b)) (.agg #[.int .i64 (p:Int),.int .i64 (c:Int)]) false).run prog w=.ok (cvV (if S p c=true then C p c else zCv)) w:=by
 obtain⟨D,n,h,_,G⟩:=h;obtain⟨H,E⟩:=y8y (p:=p) (c:=c) (by omega) (by omega);obtain⟨v,I,A,B⟩:=h.lookup y3i Tryz.underlying276 (y5k w) (zd:=.held (cvV zCv)) (zp:=[]) rfl E;rw[(G p c hp hc H E).2]at B;simp only[cvR,Option.some.injEq,Prod.mk.injEq,DataW.held.injEq]at B;rw[A,B.1]
theorem Mem.look_ok(h:Mem w b C S)(hp:p<=400)(hc:c<=100):(Instr.lookup 276 (.map (some b)) (.agg #[.int .i64 (p:Int),.int .i64 (c:Int)]) true).run prog w=.ok (.tuple #[cvV (if S p c=true then C p c else zCv),.bool (S p c)]) w:=by
 obtain⟨D,n,h,_,G⟩:=h;obtain⟨H,B⟩:=y8y (p:=p) (c:=c) (by omega) (by omega);obtain⟨v,I,A,E⟩:=h.look_ok y3i Tryz.underlying276 (y5k w) (zd:=.held (cvV zCv)) (zp:=[]) rfl B;rw[(G p c hp hc H B).2]at E;simp only[cvR,Option.some.injEq,Prod.mk.injEq,DataW.held.injEq]at E;rw[A,E.1,(G p c hp hc H B).1]
theorem Mem.store(h:Mem w b C S)(hp:p<=400)(hc:c<=100)(hs:S p c=false):
  ∃w',(Instr.mapUpdate 276 (.map (some b)) (.agg #[.int .i64 (p:Int),.int .i64 (c:Int)]) (cvV (C p c))).run prog w=.ok () w'/\Mem w' b C (z8l S p c)/\w.grownBy w' (some b):=by
 obtain⟨D,n,h,N,L⟩:=h;obtain⟨K,A⟩:=y8y (p:=p) (c:=c) (by omega) (by omega);obtain⟨O,E,B,M⟩:=h.update y3i Tryz.underlying276 (by have:=v8y S;unfold maxLen;omega) A (d:=.held (cvV (C p c))) (ps:=[]) (val:=cvV (C p c)) rfl;refine⟨O,E,⟨_,_,B,Nat.le_trans (Nat.add_le_add_right N 1) (v1b hp hc hs),fun p' c' hp' hc' kl' hk'=>?_⟩,M⟩;by_cases e:p'=p/\c'=c
 ·obtain⟨rfl,rfl⟩:=e;have I:kl'=K:=by rw[A]at hk';exact(Option.some.inj hk').symm
  subst I;have H:z8l S p' c' p' c'=true:=by simp[z8l]
  rw[H,if_pos rfl];exact⟨has_put_same h.isMap (y3i.key A) _,atKey_put_same h.isMap (y3i.key A) _ _⟩
 ·have ne:kl'≠K:=by
   intro I;subst I
   have:=y3i.inj hk' A
   simp at this;omega
  have H:z8l S p c p' c'=S p' c':=by
   simp only[z8l];by_cases J:p'=p
   ·have G:¬c'=c:=fun G=>e ⟨J,G⟩
    simp[G]
   ·simp[J]
  rw[H,has_put_other ne,atKey_put_other ne];exact L p' c' hp' hc' kl' hk'
end
theorem Mem.made(w:World)(C:Nat->Nat->Cv):Mem (w.alloc (.map #[] 0)) w.heap.size C (fun _ _=>false):=
 ⟨.map [],0,World.ownsMap_made _ _ _ _,Nat.zero_le _,fun _ _ _ _ _ _=>⟨rfl,rfl⟩⟩
end Go.Proofs.YtelcnplcpboonaaGreatDoor
namespace Go.Proofs.YtelcnplcpboonaaGreatDoor
open Go Go.RowKit
set_option maxRecDepth 100000
set_option maxHeartbeats 1000000
def Hnd(w:World):Prop:=w.cell? ⟨1,0,none⟩=some (.iface 233 (.agg #[.pointer (some ⟨12,43,none⟩)]))
theorem Hnd.lt{w:World}(h:Hnd w):1<w.heap.size:=by
 unfold Hnd at h;rcases Nat.lt_or_ge 1 w.heap.size with A|A
 ·exact A
 ·simp[World.cell?,Array.getElem?_eq_none A]at h
theorem Hnd.W{w w':World}(h:Hnd w)(hb:Below w w w'):Hnd w':=((q0t hb).1 _ _ h.lt).trans h
theorem Hnd.alloc{w:World}(h:Hnd w)(o:Obj):Hnd (w.alloc o):=h.W (Zb.alloc Zl _)
theorem v4z(w:World):Calls prog 79 #[.nilIface] w fun e w'=>e=.returned (.int .i64 0)/\Below w w w':=by
 go_in;go_wp2;go_ret;exact⟨rfl,Below.refl _ _⟩
theorem v4y(n:Int)(w:World)(hg:Hnd w):Calls prog 79 #[.iface 50 (.int .i64 n)] w fun e w'=>e=.returned (.int .i64 n)/\Below w w w':=by
 have A:Hid (Hnd w):=hg;have B:=hg.lt;clear hg;go_in;go_wp2_with fail;refine(y3t n ⟨w,0,none⟩ (.int .i64 0) _ (A.o.alloc _) (by simp[go_sem]) (by simp[go_sem])).mono ?_;rintro e C⟨rfl,rfl⟩;go_wp2;go_ret;refine⟨rfl,?_⟩
 repeat (first|exact Below.refl _ _|refine Below.setCell ?_ (by simp) _|refine Below.alloc ?_ (by simp;try omega) _)
theorem v4x(n:Int)(w:World)(hg:Hnd w):Calls prog 79 #[q0s n] w fun e w'=>e=.returned (.int .i64 n)/\Below w w w':=by
 by_cases h:n=0
 ·subst h;exact v4z w
 ·have e:q0s n=.iface 50 (.int .i64 n):=by simp[q0s,h]
  rw[e];exact v4y n w hg
theorem v5b{x:Td}(h:q0l x=0):x.tx.size<=1300:=by
 unfold q0l at h
 split at h
 ·cases h
 ·split at h
  ·cases h
  ·split at h
   ·cases h
   ·rename_i h3
    split at h
    ·exact z7o h
    ·rename_i h4
     split at h
     ·cases h
     ·rename_i h5;cases B:q2c x.op with
      | false=>
       have:¬0<x.tx.size:=fun h6=>h3 (.inr ⟨B,h6⟩)
       omega
      | true=>
       cases A:q1f x.tx with
       | false=>exact absurd ⟨B,A⟩ h5
       | true=>
        have:=q4a A
        rw[q0b]at this;omega
theorem j6y{ps:List (List Td)}(h:(q0o ps).2=0):∀t∈ps,∀x∈t,x.tx.size<=1300:=by
 intro t B x C;have A:=z3m ps 0 (z0u h).2 t B;exact v5b ((q4d A).2.1 x C)
end Go.Proofs.YtelcnplcpboonaaGreatDoor
namespace Go.Proofs.YtelcnplcpboonaaGreatDoor
open Go.ChangeShapes Go.WideShapes Go.RowKit
theorem Tryz.own:ownKnob prog.godebug=none:=by kernel_rfl
theorem Tryz.et : prog.globalNamed "errors.errorType" = some 1 := by kernel_rfl
theorem Tryz.rt : (prog.cutTypes.find? (·.1 == "internal/reflectlite.rtype")).map (·.2) = some 233 := by kernel_rfl
theorem Tryz.oneRow:((List.range 412).filter fun t=>prog.rowNamed t [101,114,114,111,114])=[43]:=by kernel_rfl
theorem Tryz.size:prog.types.size=412:=by kernel_rfl
abbrev v9y : List (String × DataW Unit) := [("errors.errorType", Rows.laid_errors_errorType)]
theorem z4n{W:World}(h:laidMetH prog v9y W):Hnd W:=by
 have J:laidMet prog [] W/\handlesMet prog v9y W:=h;obtain⟨A,u,L,D,E,G,H,B⟩:=J.2 _ (List.mem_singleton.2 rfl);have I:A=[101,114,114,111,114]:=(Option.some.inj D).symm;subst I;obtain rfl:=Option.some.inj (Tryz.rt.symm.trans E);have C:L∈(List.range 412).filter fun t=>prog.rowNamed t [101,114,114,111,114]:=List.mem_filter.2 ⟨List.mem_range.2 (by rw[<-Tryz.size];exact G),H⟩
 rw[Tryz.oneRow]at C;obtain rfl:=List.mem_singleton.1 C;have K:typeHandle prog 43=.pointer (some ⟨12,43,none⟩):=by kernel_rfl
 rw[K]at B
 have:=World.var?_cell Tryz.et B 0
 simpa[Hnd]using this
def z9m(P:Program)(os:Os):World:=
 let w0:=World.holding P os ⟨#[],#[],[]⟩
 {w0 with heap:=w0.heap.modify 1 fun
   | .cells _ t frozen=>.cells #[.iface 233 (.agg #[.pointer (some ⟨12,43,none⟩)])] t frozen
   | o=>o}
end Go.Proofs.YtelcnplcpboonaaGreatDoor
namespace Go.Proofs.YtelcnplcpboonaaGreatDoor
open Go Go.RowKit
structure Ex(S:Nat->Prop)(w w':World):Prop where
 os:w'.os=w.os
 tape:w'.tape=w.tape
 output:w'.output=w.output
 size:w.heap.size<=w'.heap.size
 block:∀k,k<w.heap.size->¬S k->w'.heap[k]?=w.heap[k]?
section
variable {S R:Nat→Prop} {a w w':World}
theorem Ex.refl(S:Nat->Prop)(w:World):Ex S w w:=⟨rfl,rfl,rfl,Nat.le_refl _,fun _ _ _=>rfl⟩
theorem Ex.trans(h:Ex S a w)(k:Ex S w w'):Ex S a w':=⟨k.os.trans h.os,k.tape.trans h.tape,k.output.trans h.output,Nat.le_trans h.size k.size,fun i hi hs=>(k.block i (Nat.lt_of_lt_of_le hi h.size) hs).trans (h.block i hi hs)⟩
theorem Ex.mono(h:Ex S w w')(hs:∀k,S k->R k):Ex R w w':=⟨h.os,h.tape,h.output,h.size,fun k hk hn=>h.block k hk fun e=>hn (hs k e)⟩
theorem Ex.of(h:Below w w w'):Ex S w w':=⟨h.os,h.tape,h.output,h.size,fun k hk _=>h.block k hk⟩
theorem Ex.at{p:Addr}(hp:S p.block)(v:Value):Ex S w (w.setCell p v):=⟨rfl,rfl,rfl,by simp[World.setCell],fun k _ hk=>Below.heap_setCell _ _ _ _ (by rintro rfl;exact hk hp)⟩
theorem Ex.W{B:Nat}(h:Ex S w w')(hs:∀k,S k->B<=k)(hB:B<=w.heap.size):Below B w w':=⟨h.os,h.tape,h.output,h.size,fun k hk=>h.block k (by omega) fun e=>by have:=hs k e;omega⟩
theorem Ex.cell(h:Ex S w w'){p:Addr}{v:Value}(hc:w.cell? p=some v)(hs:¬S p.block):w'.cell? p=some v:=(World.cell?_of_block (w:=w) (h.block p.block (World.block_lt_of_cell? _ _ hc) hs)).trans hc
theorem Ex.fresh(h:Ex S a w)(k:Ex R w w')(hR:∀i,R i->a.heap.size<=i):Ex S a w':=⟨k.os.trans h.os,k.tape.trans h.tape,k.output.trans h.output,Nat.le_trans h.size k.size,fun i hi hs=>(k.block i (Nat.lt_of_lt_of_le hi h.size) fun e=>by have:=hR i e;omega).trans (h.block i hi hs)⟩
theorem Ex.put(l:Nat)(o:Obj)(hs:S l):Ex S w (w.putObj l o):=⟨rfl,rfl,rfl,by simp,fun k _ hk=>World.putObj_heap_other (by rintro rfl;exact hk hs)⟩
end
def Two(B k:Nat):Prop:=k=B\/k=B+1
def j9v(w:World)(k:Nat):Prop:=∀o,w.heap[k]?=some o->(∃x,o=.loop x)\/∃x,o=.deferred x
variable {F:Fence} {n:Nat} {P:Program}
theorem z5y{α:Type}{g:Operand}{ps:Array Tmp}{C H:Code}{Q:Exit->Act->World->Prop}{a:Act}{w:World}
  (Am:F.round=none) (h1:1<=n) {gf:Nat} {lb:Array Value} (hg:a.eval g=.func (.func gf) #[] lb) (Ae:F.fn gf) (eg:∀args w,(callFunc gf args).run P w=.ok (.enter gf args) w)
  {enc:α->Array Value} {T:List α->Prop} {N:List α->α->Prop}
  (Ac:∀(l:Nat)(J:List α->World->Prop)(W:World),Below w w W->(∀s A k,J s A->J s (A.drewN k))->
   (∀pre x A,J pre A->N pre x->YieldAt F (n-1-1) P l (enc x) A fun e A'=>e=.returned (.bool true)/\J (pre++[x]) A')->J [] W->
   CallsIn F (n-1) P gf (#[.func (.yield l) #[] #[]]++lb) W fun e A'=>(∃v,e=.returned v)/\∃xs,T xs/\J xs A')
  (Al:∀x,(enc x).size=ps.size) (I:List α->World->Prop) (h0:I [] w)
  (hI:∀s A A',I s A->Ex (Two w.heap.size) A A'->(∀k,Two w.heap.size k->j9v A k)->I s A') (a₁:α->Act)
  (V:∀(l:Nat)(x:α)(W:World)(K:Act->World->Prop),K (a₁ x) W->
   C.wpIn (F.inRound l) (n-1-1) P (Exit.then K (fun _ _ _=>False)) {tmps:=(ps.zip (enc x)).foldl (fun t(p,v)=>t.setIfInBounds p v) a.tmps,defers:=[]} W)
  (X:∀(l:Nat)(pre:List α)(x:α)(W:World),I pre W->N pre x->w.heap.size+1<W.heap.size->(∀k,Two w.heap.size k->j9v W k)->
   H.wpIn (F.inRound l) (n-1-1) P (fun e _ W'=>e=.normal/\(∀k,Two w.heap.size k->W'.heap[k]?=W.heap[k]?)/\I (pre++[x]) W') (a₁ x) W)
  (Y:∀(D:Nat)(xs:List α)(W:World),w.heap.size<=D->T xs->I xs W->W.heap[D]?=some (.deferred (some []))->Q .normal {a with defers:={target:=.collected D,args:=#[]}::a.defers} W):
  (Code.rangeFunc g ps C H).wpIn F n P Q a w:=by
 obtain⟨B,hB⟩:∃B,B=w.heap.size:=⟨_,rfl⟩;rw[<-hB]at hI X Y;refine wpIn_rangeFunc fun fn hfn=>?_
 rw[Am];obtain⟨Z,G⟩:∃Z:LoopState->Obj,Z=fun L=>.loop {state:=L,pending:=none,fn,tmps:=a.tmps,params:=ps,assign:=C,body:=H,defers:=B}:=⟨_,rfl⟩
 obtain⟨r,m⟩:∃r:Obj,r=.deferred (some []):=⟨_,rfl⟩
 obtain⟨c,E⟩:∃c:LoopState->World->Prop,c=fun L A=>A.heap[B]?=some r/\A.heap[B+1]?=some (Z L):=⟨_,rfl⟩
 have M:∀L A,c L A->∀k,Two B k->j9v A k:=by
  intro L A h k hk o u;rw[E]at h;rcases hk with rfl|rfl
  ·rw[h.1,m]at u;cases u;exact .inr ⟨_,rfl⟩
  ·rw[h.2,G]at u;cases u;exact .inl ⟨_,rfl⟩
 have size:∀L A,c L A->B+1<A.heap.size:=by
  intro L A h;rw[E]at h;exact(Array.getElem?_eq_some_iff.1 h.2).1
 have b:∀L f A s,c L A->I s A->c f (A.putObj (B+1) (Z f))/\I s (A.putObj (B+1) (Z f)):=by
  intro L f A s h hs;refine⟨?_,hI s _ _ hs (.put _ _ (.inr rfl)) (M L A h)⟩;have hz:=size L A h;rw[E]at h⊢;exact⟨(World.putObj_heap_other (by omega)).trans h.1,World.putObj_heap_same hz⟩
 have hw:(w.alloc r).heap.size=B+1:=by rw[World.size_alloc,hB]
 obtain⟨d,j⟩:∃d,d=(w.alloc r).alloc (Z .ready):=⟨_,rfl⟩
 have Ah:c .ready d:=by
  rw[E,j];refine⟨?_,?_⟩
  ·exact(Below.heap_alloc _ _ _ (by rw[hw];omega)).trans (by rw[hB];exact World.alloc_heap_new w _)
  ·have:=World.alloc_heap_new (w.alloc r) (Z .ready)
   rwa[hw]at this
 have z:Below w w d:=by
  rw[j];exact((Below.refl _ w).alloc Zl _).alloc (by rw[hw];omega) _
 have Af:I [] d:=hI _ _ _ h0 (.of z) (by
  intro k hk o u
  have:=(Array.getElem?_eq_some_iff.1 u).1
  rcases hk with rfl|rfl<;>omega)
 refine⟨B+1,[{target:=.collected B,args:=#[]}],d,{target:=.fn (.func gf) lb,args:=#[.func (.yield (B+1)) #[] #[]]},d,gf,#[.func (.yield (B+1)) #[] #[]]++lb,d,?_,?_,?_,?_,fun _=>h1,?_⟩
 ·rw[j,m,G,hB];exact run_enterLoop_outer _ _ _ _ _
 ·simp only[resolve,hg];simp[go_sem]
 ·intro f' Aa;simp[Target.leads]at Aa;subst Aa;exact Ae
 ·simp[invoke,go_sem,eg]
 refine(Ac (B+1) (fun s A=>I s A/\c .ready A) d z ?_ ?_ ⟨Af,Ah⟩).mono ?_
 ·rintro s A k⟨y,O⟩;refine⟨hI s _ _ y ⟨rfl,rfl,rfl,Nat.le_refl _,fun _ _ _=>rfl⟩ (M _ _ O),?_⟩;rw[E]at O⊢;exact O
 ·rintro pre x A⟨y,O⟩Ak;have hA:A.heap[B+1]?=some (Z .ready):=by rw[E]at O;exact O.2
  have hy:=run_yield (P:=P) (args:=enc x) (by rw[hA,G]) (Al x);refine⟨fn,_,C,H,hy,roundIn_of_wpIn hfn (V _ x A _ ?_)⟩;have Ai:=run_beginRound (P:=P) (w:=A) (by rw[hA,G]) rfl;obtain⟨S,Ag⟩:=b .ready .busy A pre O y;refine⟨_,Ai,?_⟩;rw[show(Obj.loop {state:=.busy,pending:=none,fn,tmps:=a.tmps,params:=ps,assign:=C,body:=H,defers:=B})=Z .busy by rw[G]];refine wpIn_mono (X _ pre x _ Ag Ak (size _ _ S) (M _ _ S)) ?_;rintro e a3 W3⟨rfl,Ab,Aj⟩
  have i:c .busy W3:=by
   rw[E]at S⊢;exact⟨(Ab _ (.inl rfl)).trans S.1,(Ab _ (.inr rfl)).trans S.2⟩
  have Ad:W3.heap[B+1]?=some (Z .busy):=by rw[E]at i;exact i.2
  have q:=run_endRound (P:=P) (w:=W3) none (by rw[Ad,G]);obtain⟨U,R⟩:=b .busy .ready W3 _ i Aj;refine⟨_,_,q,rfl,?_⟩;rw[G]at U R;exact⟨R,U⟩
 ·rintro e W2⟨⟨v,rfl⟩,xs,hT,y,O⟩;have hA:W2.heap[B+1]?=some (Z .ready):=by rw[E]at O;exact O.2
  have q:=run_endLoop (P:=P) (w:=W2) (by rw[hA,G]) (by simp);obtain⟨U,R⟩:=b .ready .exhausted W2 _ O y;refine⟨none,_,q,Y B xs _ (by omega) hT (by rw[G]at R;exact R) ?_⟩;rw[G,E,m]at U;exact U.1
end Go.Proofs.YtelcnplcpboonaaGreatDoor
