import Derived.Test.YtelcnplcpboonaaGreatDoorPb00
import Derived.OwnWalkIn
import Derived.TacticsInMore
import Derived.Lib.Bytealg
import Derived.Lib.IndexBytes
import Derived.Shelf.RegionOpen
import Derived.LaidEql
import Derived.Stop.Asserts
import Derived.RowKitTokens
import Derived.RangeFuncNested
import Derived.RangeFuncBound
import Derived.RangeFuncCalls
import Derived.RangeFuncLeaves
import Derived.Shelf.Abstract
import Derived.LoopNIn
import Derived.LoopIn
open Go.Proofs.Tryz
namespace Go.Proofs.YtelcnplcpboonaaGreatDoor
open Go
inductive Tag (k:Nat):Type
 | mk
inductive Sel {α:Type} (k:Nat) (a b:α):Type
 | mk
def sel{α:Type}{k:Nat}(_:Tag k)(a b:α):Sel k a b:=.mk
def z1p{k:Nat}(_:Tag k)(a b:Nat):Sel k a b:=.mk
instance{α:Type}(a b:α)(s:Sel 0 a b):CoeDep (Sel 0 a b) s α:=⟨a⟩
instance{α:Type}(a b:α)(s:Sel 1 a b):CoeDep (Sel 1 a b) s α:=⟨b⟩
inductive y3r (o:Int):Type
 | mk
instance(o:Int)(t:y3r o):CoeDep (y3r o) t Int:=⟨o⟩
end Go.Proofs.YtelcnplcpboonaaGreatDoor
namespace Go.Proofs.YtelcnplcpboonaaGreatDoor
open Go Go.RowKit Go.Lib Go.Shelf
set_option maxRecDepth 100000
set_option maxHeartbeats 1000000
theorem q5r(s:ByteArray)(c:Int)(w:World):
  Calls prog 74 #[.string s,.int .u8 c] w fun e w'=>e=.returned (.int .i64 (Lib.indexByte s.data.toList c.toNat.toUInt8))/\w'=w:=by
 go_in;go_wp2;rw[run_callFunc_extern func103 (by kernel_rfl) (by kernel_rfl) (by kernel_rfl) (e:=Extern.BytealgIndexByte.indexByte) (by kernel_rfl),Lib.run_indexByteString];simp only[Result.andThen];rw[Oper.upon_value];go_wp2;go_ret;exact⟨rfl,rfl⟩
theorem q8v(s:ByteArray)(w:World):
  Calls prog 56 #[.string s,.string ⟨#[10]⟩] w fun e w'=>e=.returned (.int .i64 (Lib.indexByte s.data.toList 10))/\w'=w:=by
 go_in;go_wp2_with(go_at_call 74;refine(q5r _ _ _).mono ?_;rintro e w'⟨rfl,rfl⟩)
 ·have h:([10]==s.toList)=true:=by assumption
  go_ret;refine⟨?_,rfl⟩;have e:s.data.toList=[10]:=by rw[<-Lib.toList_data];exact(beq_iff_eq.1 h).symm
  rw[e];simp[Lib.indexByte]
 ·go_ret;exact⟨rfl,rfl⟩
theorem z5c(s:ByteArray)(w:World)(h:Lib.indexByte s.data.toList 10=-1):
  Calls prog 39 #[.string s,.string ⟨#[10]⟩] w fun e w'=>e=.returned (.tuple #[.string s,.string ⟨#[]⟩,.bool false])/\∃n,w'=w.drewN n:=by
 go_in;go_wp2_with(go_at_call 56;refine(q8v _ _).mono ?_;rintro e w'⟨rfl,rfl⟩;rw[h]);go_ret3;exact⟨rfl,0,rfl⟩
theorem z8z(s:ByteArray)(w:World)(i:Nat)(h:Lib.indexByte s.data.toList 10=i)(hi:i+1<=s.size)(hb:s.size<=100000000):
  Calls prog 39 #[.string s,.string ⟨#[10]⟩] w fun e w'=>e=.returned (.tuple #[.string (s.extract 0 i),.string (s.extract (i+1) s.size),.bool true])/\∃n,w'=w.drewN n:=by
 have A:(0:Int)<=↑i:=by omega
 have B:(↑i:Int)<=↑s.size:=by omega
 have C:(0:Int)<=↑i+1:=by omega
 have D:(↑i+1:Int)<=↑s.size:=by omega
 have E:(↑i:Int)<=100000000:=by omega
 go_in;go_wp2_with(go_at_call 56;refine(q8v _ _).mono ?_;rintro e w'⟨rfl,rfl⟩;rw[h])
 go_region
 go_wp2;go_ret3;exact⟨rfl,1,rfl⟩
end Go.Proofs.YtelcnplcpboonaaGreatDoor
namespace Go.Proofs.YtelcnplcpboonaaGreatDoor
open Go Go.RowKit Go.Extern.Stop Go.Stop Go.Extern
set_option maxRecDepth 100000
set_option maxHeartbeats 4000000
theorem Tryz.valueOfP(t:Addr)(w:World):(ReflectliteValue.unpack (.iface 166 (.pointer (some t)))).run prog w
  =.ok (.agg #[.pointer (some ⟨12,166,none⟩),.pointer (some ⟨w,0,none⟩),.int .u64 150]) (w.alloc (.cells #[.pointer (some t)] 166)):=by kernel_rfl
theorem Tryz.typeP (a : Addr) (w : World) : (ReflectliteValue.methodAny (ReflectliteValue.valueError "reflectlite.Value.Type" 0) (fun t _ _ _ => ReflectliteType.toType t) #[.agg #[.pointer (some ⟨12, 166, none⟩), .pointer (some a), .int .u64 150]]).run prog w
  =.ok (.iface 233 (.agg #[.pointer (some ⟨12,166,none⟩)])) w:=by kernel_rfl
theorem Tryz.methodKind (h : Value) (w : World) : (Go.method 512 233 (.agg #[h]) "Kind").run prog w = .ok (311, h) w := by kernel_rfl
theorem Tryz.kindP(w:World):((ReflectliteType.abiMethod fun t=>(fun a:Nat=>Value.int IntKind.u8 (a:Int)) <$> Rtype.kind t) #[.pointer (some ⟨12,166,none⟩)]).run prog w=.ok (.int .u8 22) w:=by kernel_rfl
theorem Tryz.kindE(w:World):((ReflectliteType.abiMethod fun t=>(fun a:Nat=>Value.int IntKind.u8 (a:Int)) <$> Rtype.kind t) #[.pointer (some ⟨12,50,none⟩)]).run prog w=.ok (.int .u8 2) w:=by kernel_rfl
theorem j7h(z:Sem Value)(f:TypeId->Addr->Nat->Nat->Sem Value)(v:Value):
  ∃K:Option (TypeId × Addr × Nat)->Sem Value,ReflectliteValue.method z f #[v]=(ReflectliteValue.parts v >>=K)/\∀t a fl,K (some (t,a,fl))=f t a fl (fl % 32):=⟨_,rfl,fun _ _ _=>rfl⟩
theorem q9g{P:Program}{z:Sem Value}{f:TypeId->Addr->Nat->Nat->Sem Value}{v:Value}{W:World}{t:TypeId}{a:Addr}{fl:Nat}
  (h:(ReflectliteValue.parts v).run P W=.ok (some (t,a,fl)) W):(ReflectliteValue.method z f #[v]).run P W=(f t a fl (fl % 32)).run P W:=by
 obtain⟨K,e,A⟩:=j7h z f v;rw[e];simp[Sem.run_bind,h,Result.andThen,A]
theorem y6m(v x:Value):
  ∃K:Option (TypeId × Addr × Nat)->Option (TypeId × Addr × Nat)->Sem Value,ReflectliteValue.set #[v,x]=(ReflectliteValue.parts v >>=fun p=>ReflectliteValue.parts x >>=fun q=>K p q)/\
   ∀(P:Program)(W W1:World)(dst src:TypeId)(a b:Addr)(fl g:Nat)(val:Value),(fl / ReflectliteValue.flagAddr % 2==0)=false->(loadVar src b).run P W=.ok val W->(Rtype.directlyAssignable dst src).run P W=.ok true W->
    (storeVar dst a val).run P W=.ok () W1->(K (some (dst,a,fl)) (some (src,b,g))).run P W=.ok (.tuple #[]) W1:=by
 refine⟨_,rfl,?_⟩;intro P W W1 dst src a b fl g val A B C D;simp[A,B,C,D,Sem.run_bind,Result.andThen]
theorem Tryz.partsP(a:Addr)(w:World):(ReflectliteValue.parts (.agg #[.pointer (some ⟨12,166,none⟩),.pointer (some a),.int .u64 150])).run prog w=.ok (some (166,a,150)) w:=by kernel_rfl
theorem Tryz.isNilP(a p:Addr)(W:World)(ha:W.cell? a=some (.pointer (some p))):
  (ReflectliteValue.method (ReflectliteValue.valueError "reflectlite.Value.IsNil" 0) ReflectliteValue.isNil #[.agg #[.pointer (some ⟨12, 166, none⟩), .pointer (some a), .int .u64 150]]).run prog W = .ok (.bool false) W := by
 rw[q9g (Tryz.partsP a W)];simp[ReflectliteValue.isNil,loadVar,isAgg,underlying,Tryz.underlying166,ha,Result.andThen]
theorem Tryz.methodElem (h : Value) (w : World) : (Go.method 512 233 (.agg #[h]) "Elem").run prog w = .ok (324, .agg #[h]) w := by kernel_rfl
theorem Tryz.methodImplements (h : Value) (w : World) : (Go.method 512 233 (.agg #[h]) "Implements").run prog w = .ok (325, .agg #[h]) w := by kernel_rfl
theorem Tryz.methodAssignableTo (h : Value) (w : World) : (Go.method 512 233 (.agg #[h]) "AssignableTo").run prog w = .ok (322, .agg #[h]) w := by kernel_rfl
theorem Tryz.elemP(w:World):(ReflectliteType.method ReflectliteType.elem #[.agg #[.pointer (some ⟨12,166,none⟩)]]).run prog w=.ok (.iface 233 (.agg #[.pointer (some ⟨12,50,none⟩)])) w:=by kernel_rfl
theorem Tryz.implementsE (w : World) : (ReflectliteType.relation "Implements" ReflectliteType.implements_ #[.agg #[.pointer (some ⟨12, 50, none⟩)], .iface 233 (.agg #[.pointer (some ⟨12, 43, none⟩)])]).run prog w = .ok (.bool true) w := by kernel_rfl
theorem Tryz.typeOfE(v:Value)(w:World):(ReflectliteType.typeOf #[.iface 50 v]).run prog w=.ok (.iface 233 (.agg #[.pointer (some ⟨12,50,none⟩)])) w:=by kernel_rfl
theorem Tryz.assignableE (w : World) : (ReflectliteType.relation "AssignableTo" ReflectliteType.assignableTo #[.agg #[.pointer (some ⟨12, 50, none⟩)], .iface 233 (.agg #[.pointer (some ⟨12, 50, none⟩)])]).run prog w = .ok (.bool true) w := by kernel_rfl
theorem Tryz.valueOfE(e:Int)(w:World):(ReflectliteValue.unpack (.iface 50 (.int .i64 e))).run prog w
  =.ok (.agg #[.pointer (some ⟨12,50,none⟩),.pointer (some ⟨w,0,none⟩),.int .u64 130]) (w.alloc (.cells #[.int .i64 e] 50)):=by kernel_rfl
theorem Tryz.elemOfP(w:World):(Rtype.elem? 166).run prog w=.ok (some 50) w:=by kernel_rfl
theorem Tryz.mkE(p:Addr)(w:World):(ReflectliteValue.mk 50 p ReflectliteValue.flagAddr).run prog w=.ok (.agg #[.pointer (some ⟨12,50,none⟩),.pointer (some p),.int .u64 386]) w:=by kernel_rfl
theorem Tryz.elemVP(a p:Addr)(W:World)(ha:W.cell? a=some (.pointer (some p))):
  (ReflectliteValue.method (ReflectliteValue.valueError "reflectlite.Value.Elem" 0) ReflectliteValue.elem #[.agg #[.pointer (some ⟨12, 166, none⟩), .pointer (some a), .int .u64 150]]).run prog W
   =.ok (.agg #[.pointer (some ⟨12,50,none⟩),.pointer (some p),.int .u64 386]) W:=by
 rw[q9g (Tryz.partsP a W)];simp[ReflectliteValue.elem,loadVar,isAgg,underlying,Tryz.underlying166,ha,Result.andThen,Tryz.elemOfP,Tryz.mkE]
theorem Tryz.partsEa(a:Addr)(w:World):(ReflectliteValue.parts (.agg #[.pointer (some ⟨12,50,none⟩),.pointer (some a),.int .u64 386])).run prog w=.ok (some (50,a,386)) w:=by kernel_rfl
theorem Tryz.partsE(a:Addr)(w:World):(ReflectliteValue.parts (.agg #[.pointer (some ⟨12,50,none⟩),.pointer (some a),.int .u64 130])).run prog w=.ok (some (50,a,130)) w:=by kernel_rfl
theorem Tryz.directE(w:World):(Rtype.directlyAssignable 50 50).run prog w=.ok true w:=by kernel_rfl
theorem Tryz.setE(ta b:Addr)(e:Int)(A:Value)(W:World)(hb:W.cell? b=some (.int .i64 e))(ht:W.cell? ta=some A)(hf:W.frozen? ta=false):
  (ReflectliteValue.set #[.agg #[.pointer (some ⟨12,50,none⟩),.pointer (some ta),.int .u64 386],.agg #[.pointer (some ⟨12,50,none⟩),.pointer (some b),.int .u64 130]]).run prog W
   =.ok (.tuple #[]) (W.setCell ta (.int .i64 e)):=by
 obtain⟨K,B,C⟩:=y6m (.agg #[.pointer (some ⟨12,50,none⟩),.pointer (some ta),.int .u64 386]) (.agg #[.pointer (some ⟨12,50,none⟩),.pointer (some b),.int .u64 130]);rw[B];simp only[Sem.run_bind,Tryz.partsEa,Tryz.partsE,Result.andThen];refine C prog W _ 50 50 ta b 386 130 (.int .i64 e) (by simp[ReflectliteValue.flagAddr]) ?_ (Tryz.directE W) ?_
 ·simp[loadVar,isAgg,underlying,Tryz.underlying50,hb,Result.andThen]
 ·simp[storeVar,Value.cells,storeCells,Addr.add,Result.andThen];rw[run_store prog W ta _ _ (by rfl)];simp[ht,hf]
theorem y3t(e:Int)(t:Addr)(old:Value)(w:World)(hg:w.cell? ⟨1,0,none⟩=some (.iface 233 (.agg #[.pointer (some ⟨12,43,none⟩)])))(ht0:w.cell? t=some old)(hf0:w.frozen? t=false):
  Calls prog 105 #[.iface 50 (.int .i64 e),.iface 166 (.pointer (some t))] w fun ev w'=>ev=.returned (.bool true)/\w'=((((w.alloc (.cells #[.pointer (some t)] 166)).alloc (.cells #[.pointer (some ⟨12,166,none⟩),.pointer (some ⟨w,0,none⟩),.int .u64 150] 192)).alloc (.cells #[.pointer (some ⟨12,166,none⟩),.pointer (some ⟨w,0,none⟩),.int .u64 150] 192)).alloc (.cells #[.int .i64 e] 50)).setCell t (.int .i64 e):=by
 have h6:=@run_callFunc_extern prog 127 _ (fun args=>ReflectliteValue.unpack (args.getD 0 (.tuple #[]))) func127 (by kernel_rfl) (by kernel_rfl) (by kernel_rfl) (by kernel_rfl)
 have h7 := @run_callFunc_extern prog 128 _ (ReflectliteValue.methodAny (ReflectliteValue.valueError "reflectlite.Value.Type" 0) (fun t _ _ _ => ReflectliteType.toType t)) func128 (by kernel_rfl) (by kernel_rfl) (by kernel_rfl) (by kernel_rfl)
 have h8 := @run_callFunc_extern prog 129 _ (ReflectliteValue.method (ReflectliteValue.valueError "reflectlite.Value.IsNil" 0) ReflectliteValue.isNil) func129 (by kernel_rfl) (by kernel_rfl) (by kernel_rfl) (by kernel_rfl)
 have h27:=@run_callFunc_extern prog 311 _ (ReflectliteType.abiMethod fun t=>do pure (.int .u8 (<-Rtype.kind t))) func311 (by kernel_rfl) (by kernel_rfl) (by kernel_rfl) (by kernel_rfl);have h37:=@run_callFunc_extern prog 324 _ (ReflectliteType.method ReflectliteType.elem) func324 (by kernel_rfl) (by kernel_rfl) (by kernel_rfl) (by kernel_rfl)
 have h38 := @run_callFunc_extern prog 325 _ (ReflectliteType.relation "Implements" ReflectliteType.implements_) func325 (by kernel_rfl) (by kernel_rfl) (by kernel_rfl) (by kernel_rfl)
 have h10:=@run_callFunc_extern prog 163 _ ReflectliteType.typeOf func163 (by kernel_rfl) (by kernel_rfl) (by kernel_rfl) (by kernel_rfl)
 have h35 := @run_callFunc_extern prog 322 _ (ReflectliteType.relation "AssignableTo" ReflectliteType.assignableTo) func322 (by kernel_rfl) (by kernel_rfl) (by kernel_rfl) (by kernel_rfl)
 have h11 := @run_callFunc_extern prog 164 _ (ReflectliteValue.method (ReflectliteValue.valueError "reflectlite.Value.Elem" 0) ReflectliteValue.elem) func164 (by kernel_rfl) (by kernel_rfl) (by kernel_rfl) (by kernel_rfl)
 have h12:=@run_callFunc_extern prog 165 _ ReflectliteValue.set func165 (by kernel_rfl) (by kernel_rfl) (by kernel_rfl) (by kernel_rfl);have tO:=Tryz.typeOfE;have mA:=Tryz.methodAssignableTo;have a25:=Tryz.assignableE;have v25:=Tryz.valueOfE;have f6:=Tryz.valueOfP;have f7:=Tryz.typeP;have mK:=Tryz.methodKind;have mE:=Tryz.methodElem;have mI:=Tryz.methodImplements;have k27:=Tryz.kindP;have k25:=Tryz.kindE;have e27:=Tryz.elemP;have i25:=Tryz.implementsE;have n8:=Tryz.isNilP ⟨w,0,none⟩ t ((w.alloc (.cells #[.pointer (some t)] 166)).alloc (.cells #[.pointer (some ⟨12,166,none⟩),.pointer (some ⟨w,0,none⟩),.int .u64 150] 192)) (by simp)
 have hlt:1<w.heap.size:=by
  rcases Nat.lt_or_ge 1 w.heap.size with h|h
  ·exact h
  ·simp[World.cell?,Array.getElem?_eq_none h]at hg
 have hg2:((w.alloc (.cells #[.pointer (some t)] 166)).alloc (.cells #[.pointer (some ⟨12,166,none⟩),.pointer (some ⟨w,0,none⟩),.int .u64 150] 192)).cell? ⟨1,0,none⟩=some (.iface 233 (.agg #[.pointer (some ⟨12,43,none⟩)])):=by
  rw[World.cell?_alloc_lt _ _ ⟨1,0,none⟩ (by simp only[World.size_alloc];omega),World.cell?_alloc_lt _ _ ⟨1,0,none⟩ hlt];exact hg
 have htl:t.block<w.heap.size:=by
  rcases Nat.lt_or_ge t.block w.heap.size with h|h
  ·exact h
  ·simp[World.cell?,Array.getElem?_eq_none h]at ht0
 have el:=Tryz.elemVP ⟨w,0,none⟩ t (((w.alloc (.cells #[.pointer (some t)] 166)).alloc (.cells #[.pointer (some ⟨12,166,none⟩),.pointer (some ⟨w,0,none⟩),.int .u64 150] 192)).alloc (.cells #[.pointer (some ⟨12,166,none⟩),.pointer (some ⟨w,0,none⟩),.int .u64 150] 192)) (by rw[World.cell?_alloc_lt _ _ ⟨w,0,none⟩ (by simp;omega)];simp)
 have st:=Tryz.setE t ⟨w.heap.size+1+1+1,0,none⟩ e old ((((w.alloc (.cells #[.pointer (some t)] 166)).alloc (.cells #[.pointer (some ⟨12,166,none⟩),.pointer (some ⟨w,0,none⟩),.int .u64 150] 192)).alloc (.cells #[.pointer (some ⟨12,166,none⟩),.pointer (some ⟨w,0,none⟩),.int .u64 150] 192)).alloc (.cells #[.int .i64 e] 50))
  (by rw[World.cell?_alloc_at _ _ _ _ (by simp)];rfl)
  (by rw[World.cell?_alloc_lt _ _ t (by simp;omega),World.cell?_alloc_lt _ _ t (by simp;omega),World.cell?_alloc_lt _ _ t (by simp;omega),World.cell?_alloc_lt _ _ t htl];exact ht0)
  (by rw[World.frozen?_alloc_old _ _ t (by simp;omega),World.frozen?_alloc_old _ _ t (by simp;omega),World.frozen?_alloc_old _ _ t (by simp;omega),World.frozen?_alloc_old _ _ t (Nat.ne_of_lt htl)];exact hf0)
 go_in;go_wp2;refine wp_loop_rounds 1 ?_;rw[rounds_succ];go_wp2;go_ret;exact⟨rfl,rfl⟩
end Go.Proofs.YtelcnplcpboonaaGreatDoor
namespace Go.Proofs.YtelcnplcpboonaaGreatDoor
open Go Go.Lib
def lns:List UInt8->List (List UInt8)
 | []=>[[]]
 | c::r=>if c==10 then []::lns r else(c::(lns r).headD [])::(lns r).tail
theorem z5p:∀l,lns l≠[]
 | []=>by simp[lns]
 | c::r=>by unfold lns;split<;>simp
theorem z0p:∀(a b:List UInt8),lns (a++10::b)=lns a++lns b
 | [],b=>by simp[lns]
 | c::a,b=>by
  have ih:=z0p a b;have hne:=z5p a;simp only[List.cons_append,lns,ih]
  split
  ·simp
  ·cases h:lns a with
   | nil=>exact absurd h hne
   | cons x xs=>simp
theorem z3g:∀(l:List UInt8),(10:UInt8)∉l->lns l=[l]
 | [],_=>by simp[lns]
 | c::r,h=>by
  have hc:¬c=10:=fun e=>h (by simp[e])
  have hr:(10:UInt8)∉r:=fun e=>h (by simp[e])
  simp[lns,z3g r hr,hc]
theorem k2u:∀(l:List UInt8),indexByte l 10=-1->(10:UInt8)∉l
 | [],_=>by simp
 | c::r,h=>by
  unfold indexByte at h;by_cases hc:c==10
  ·simp[hc]at h
  ·simp only[hc]at h;by_cases h2:indexByte r 10==-1
   ·have:=k2u r (beq_iff_eq.1 h2)
    have hc':¬(10:UInt8)=c:=fun e=>hc (by simp[e])
    simp[this,hc']
   ·have:=indexByte_ge r 10
    have h3:¬indexByte r 10=-1:=fun e=>h2 (beq_iff_eq.2 e)
    simp[h3]at h;omega
theorem j4e:∀(l:List UInt8)(i:Nat),indexByte l 10=i->i<l.length/\(10:UInt8)∉l.take i/\l=l.take i++10::l.drop (i+1)
 | [],i,h=>by simp[indexByte]at h
 | c::r,i,h=>by
  unfold indexByte at h;by_cases hc:c==10
  ·have e:c=10:=beq_iff_eq.1 hc;simp[hc]at h
   have:i=0:=by omega
   subst this;simp[e]
  ·simp only[hc]at h;by_cases B:indexByte r 10==-1
   ·simp[B]at h
   ·have C:¬indexByte r 10=-1:=fun e=>B (beq_iff_eq.2 e)
    have D:=indexByte_ge r 10;simp[C]at h;obtain⟨j,rfl⟩:∃j,i=j+1:=⟨i-1,by omega⟩;obtain⟨H,E,G⟩:=j4e r j (by omega);have A:¬(10:UInt8)=c:=fun e=>hc (by simp[e])
    refine⟨by simp;omega,by simp[A,E],?_⟩;rw[List.take_succ_cons,List.drop_succ_cons,List.cons_append];exact congrArg (c::·) G
theorem k5l(l:List UInt8):indexByte l 10=-1\/∃i:Nat,indexByte l 10=i:=by
 have:=indexByte_ge l 10
 by_cases h:indexByte l 10=-1
 ·exact .inl h
 ·exact .inr ⟨(indexByte l 10).toNat,by omega⟩
def q1x(s:ByteArray):List ByteArray:=(lns s.data.toList).map fun l=>⟨l.toArray⟩
theorem j5j(s:ByteArray)(h:indexByte s.data.toList 10=-1):q1x s=[s]:=by
 unfold q1x;rw[z3g _ (k2u _ h)];simp
theorem k5s(s:ByteArray)(i:Nat)(h:indexByte s.data.toList 10=i):i+1<=s.size/\q1x s=s.extract 0 i::q1x (s.extract (i+1) s.size):=by
 obtain⟨C,A,B⟩:=j4e _ i h;refine⟨by rw[size_eq];omega,?_⟩;unfold q1x
 conv=>lhs;rw[B]
 rw[z0p,z3g _ A,extract_to_end,extract_eq];simp
def ovr(wd:Int)(n:Int):Int:=max (n-wd) 0
def over(wd:Int):List Int->Int
 | []=>0
 | n::r=>ovr wd n+over wd r
theorem j5k:∀(l:List UInt8),(lns l).length<=l.length+1
 | []=>by simp[lns]
 | c::r=>by
  have:=j5k r
  have:=List.length_pos_iff.2 (z5p r)
  unfold lns
  split
  ·simp;omega
  ·simp;omega
end Go.Proofs.YtelcnplcpboonaaGreatDoor
namespace Go.Proofs.YtelcnplcpboonaaGreatDoor
open Go Go.RowKit Go.Shelf
attribute [local go_sem] Oper.semAt_some
set_option maxRecDepth 100000
set_option maxHeartbeats 2000000
theorem k4x(s:ByteArray)(w:World)(h:Lib.indexByte s.data.toList 10=-1):
  Calls prog 23 #[.string s,.string ⟨#[10]⟩] w fun e w'=>e=.returned (.tuple #[.string s,.string ⟨#[]⟩,.bool false])/\∃n,w'=w.drewN n:=by
 go_in;go_wp2_with(go_at_call 39;refine(z5c _ _ h).mono ?_;rintro e w'⟨rfl,n,rfl⟩);go_ret3;exact⟨rfl,n,rfl⟩
theorem j2q(s:ByteArray)(w:World)(i:Nat)(h:Lib.indexByte s.data.toList 10=i)(hi:i+1<=s.size)(hb:s.size<=100000000):
  Calls prog 23 #[.string s,.string ⟨#[10]⟩] w fun e w'=>e=.returned (.tuple #[.string (s.extract 0 i),.string (s.extract (i+1) s.size),.bool true])/\∃n,w'=w.drewN n:=by
 go_in;go_wp2_with(go_at_call 39;refine(z8z _ _ _ h hi hb).mono ?_;rintro e w'⟨rfl,n,rfl⟩);go_ret3;exact⟨rfl,n,rfl⟩
abbrev LnT:={x:ByteArray // x.size<=100000000}
abbrev z4o(x:LnT):Array Value:=#[.string x.1]
def lft:Value->Value->Nat
 | .string q,.bool true=>q.size+1
 | _,_=>0
theorem z3a(w:World)(n:Nat)(row:Option Nat):w.grownBy (w.drewN n) row:=⟨rfl,rfl,rfl,Nat.le_refl _,fun _ _ _=>rfl⟩
theorem j5e(F:Fence)(n:Nat)(hF:∀f,F.fn f)(U:F.round=none)(hn:1<=n)
  (E:∀s w,Lib.indexByte s.data.toList 10=-1->CallsIn F (n-1) prog 23 #[.string s,.string ⟨#[10]⟩] w fun e w'=>e=.returned (.tuple #[.string s,.string ⟨#[]⟩,.bool false])/\∃n,w'=w.drewN n)
  (K:∀(s:ByteArray)w(i:Nat),Lib.indexByte s.data.toList 10=i->i+1<=s.size->s.size<=100000000->CallsIn F (n-1) prog 23 #[.string s,.string ⟨#[10]⟩] w fun e w'=>e=.returned (.tuple #[.string (s.extract 0 i),.string (s.extract (i+1) s.size),.bool true])/\∃n,w'=w.drewN n)
  (l Bn n₀:Nat) (s:ByteArray) (hs:s.size<=100000000) (J Jx:List LnT->World->Prop)
  (W:World) (hJ:AbidesFrom W.heap.size J)
  (hY:∀pre x W1,J pre W1->pre.length<(q1x s).length->YieldAt F (n-1) prog l (z4o x) W1 fun e W'=>
   (e=.returned (.bool true)/\J (pre++[x]) W'/\Below n₀ W1 W')\/(e=.returned (.bool false)/\Jx (pre++[x]) W'))
  (Y:W.cell? ⟨Bn,0,none⟩=some (.string s)) (h0:J [] W):
  CallsIn F n prog 124 #[.func (.yield l) #[] #[],.pointer (some ⟨Bn,0,none⟩)] W fun e W'=>(∃v,e=.returned v)/\
   ((∃ys:List LnT,ys.map (·.1)=q1x s/\J ys W')\/(∃pre:List LnT,pre.map (·.1) <+:q1x s/\Jx pre W')):=by
 refine callsIn_of_wp func124 rfl (hF 124) ?_ U;simp only[ntmps124,List.size_toArray,List.length_cons,List.length_nil,Nat.reduceAdd,Nat.reduceSub,Array.replicate_succ,Array.replicate_zero,List.push_toArray,List.append_toArray,List.nil_append,List.cons_append]
 gi_wp2
 gi_loopw [3,4] (fun r f wr=>∃(pre:List LnT)(q:ByteArray)(b:Bool),r=.string q/\f=.bool b/\q.size<=100000000/\q1x s=pre.map (·.1)++(if b then q1x q else [])/\J pre wr/\W.heap.size<=wr.heap.size)
  (fun r f _=>lft r f)
 case atStart=>
  exact⟨[],s,true,rfl,rfl,hs,by simp,h0,Nat.le_refl _⟩
 case round=>
  obtain⟨pre,q,b,rfl,rfl,P,H,D,N⟩:=hrel;cases b with
  | false=>
   gi_wp2
   go_end0
   exact⟨⟨_,rfl⟩,.inl ⟨pre,by simpa using H.symm,D⟩⟩
  | true=>
   simp only[if_true]at H;rcases k5l q.data.toList with L|⟨i,L⟩
   ·have M:=j5j q L;have B:Hid (q1x s=pre.map (·.1)++[q]):=by rw[<-M];exact H
    clear H M
    gi_wp2_with fail
    refine(E q wr L).mono ?_;rintro e Z⟨rfl,k,rfl⟩;have C:J pre (wr.drewN k):=hJ _ _ _ none D (z3a _ _ _) (by simp);obtain⟨fn,O,A,I,V,Q⟩:=hY pre ⟨q,P⟩ _ C (by rw[B.o];simp);dsimp only[z4o]at V
    gi_wp2
    refine Q.mono ?_;rintro e X (⟨rfl,hJ3,hk3⟩|⟨rfl,hJx3⟩)
    ·gi_wp2
     go_roundw
     case rel=>exact⟨pre++[⟨q,P⟩],⟨#[]⟩,false,rfl,rfl,Nat.zero_le _,by rw[B.o];simp,hJ3,Nat.le_trans N hk3.size⟩
     case measure=>simp[lft]
    ·gi_wp2
     refine bodyPost_ret (results_none rfl _ _ _) rfl ?_;exact⟨⟨_,rfl⟩,.inr ⟨pre++[⟨q,P⟩],by rw[B.o];simp,hJx3⟩⟩
   ·obtain⟨R,M⟩:=k5s q i L;have B:Hid (q1x s=pre.map (·.1)++(q.extract 0 i::q1x (q.extract (i+1) q.size))):=by rw[<-M];exact H
    clear H M;have G:(q.extract 0 i).size<=100000000:=by simp;omega
    have S:(q.extract (i+1) q.size).size<=100000000:=by simp;omega
    have a:(q.extract (i+1) q.size).size<q.size:=by simp;omega
    gi_wp2_with fail
    refine(K q wr i L R P).mono ?_;rintro e Z⟨rfl,k,rfl⟩;have C:J pre (wr.drewN k):=hJ _ _ _ none D (z3a _ _ _) (by simp);obtain⟨fn,O,A,I,V,Q⟩:=hY pre ⟨q.extract 0 i,G⟩ _ C (by rw[B.o];simp);dsimp only[z4o]at V
    gi_wp2
    refine Q.mono ?_;rintro e X (⟨rfl,hJ3,hk3⟩|⟨rfl,hJx3⟩)
    ·gi_wp2
     go_roundw
     case rel=>exact⟨pre++[⟨q.extract 0 i,G⟩],q.extract (i+1) q.size,true,rfl,rfl,S,by rw[B.o];simp,hJ3,Nat.le_trans N hk3.size⟩
     case measure=>simp only[lft];omega
    ·gi_wp2
     refine bodyPost_ret (results_none rfl _ _ _) rfl ?_;exact⟨⟨_,rfl⟩,.inr ⟨pre++[⟨q.extract 0 i,G⟩],by rw[B.o];exact⟨q1x (q.extract (i+1) q.size),by simp⟩,hJx3⟩⟩
theorem z3e(n:Nat)(hn:1<=n)(Bn n₀:Nat)(s:ByteArray)(hs:s.size<=100000000)(w:World)(hBn:Bn<w.heap.size)(hc:w.cell? ⟨Bn,0,none⟩=some (.string s)):
  SeqStopsK Fence.wide n prog 124 #[.pointer (some ⟨Bn,0,none⟩)] z4o (Below n₀) (fun ys=>ys.map (·.1)=q1x s) (fun pre=>pre.map (·.1) <+:q1x s) (q1x s).length w:=fun l J Jx W hW hJ _ hY h0=>
 j5e Fence.wide n (fun _=>trivial) rfl hn (fun s w h=>callsIn_wide.2 (k4x s w h)) (fun s w i h1 h2 h3=>callsIn_wide.2 (j2q s w i h1 h2 h3)) l Bn n₀ s hs J Jx W hJ hY ((hW.cell (p:=⟨Bn,0,none⟩) hBn).trans hc) h0
theorem j5f(s:ByteArray)(w:World):
  Calls prog 91 #[.string s] w fun e w'=>e=.returned (.func (.func 124) #[] #[.pointer (some ⟨w,0,none⟩)])/\w'=w.alloc (.cells #[.string s] 9):=by
 go_in;go_wp2;go_ret;exact⟨rfl,rfl⟩
end Go.Proofs.YtelcnplcpboonaaGreatDoor
