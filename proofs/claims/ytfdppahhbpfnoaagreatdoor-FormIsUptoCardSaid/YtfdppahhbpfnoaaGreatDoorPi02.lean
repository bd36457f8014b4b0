import Derived.Test.YtfdppahhbpfnoaaGreatDoorPi00
import Derived.OwnWalkIn
import Derived.TacticsInMore
import Derived.Lib.Bytealg
import Derived.Lib.IndexBytes
import Derived.Shelf.RegionOpen
import Derived.LaidEql
import Derived.Stop.Asserts
import Derived.RowKitTokens
open Go.Proofs.Tryz
namespace Go.Proofs.YtfdppahhbpfnoaaGreatDoor
open Go
inductive Tag (k:Nat):Type
 | mk
inductive Sel {α:Type} (k:Nat) (a b:α):Type
 | mk
def sel{α:Type}{k:Nat}(_:Tag k)(a b:α):Sel k a b:=.mk
def q5m{k:Nat}(_:Tag k)(a b:Nat):Sel k a b:=.mk
instance{α:Type}(a b:α)(s:Sel 0 a b):CoeDep (Sel 0 a b) s α:=⟨a⟩
instance{α:Type}(a b:α)(s:Sel 1 a b):CoeDep (Sel 1 a b) s α:=⟨b⟩
inductive y2q (o:Int):Type
 | mk
instance(o:Int)(t:y2q o):CoeDep (y2q o) t Int:=⟨o⟩
end Go.Proofs.YtfdppahhbpfnoaaGreatDoor
namespace Go.Proofs.YtfdppahhbpfnoaaGreatDoor
open Go Go.RowKit Go.Lib Go.Shelf
set_option maxRecDepth 100000
set_option maxHeartbeats 1000000
theorem q6y(s:ByteArray)(c:Int)(w:World):
  Calls prog 168 #[.string s,.int .u8 c] w fun e w'=>e=.returned (.int .i64 (Lib.indexByte s.data.toList c.toNat.toUInt8))/\w'=w:=by
 go_in;go_wp2;rw[run_callFunc_extern func197 (by kernel_rfl) (by kernel_rfl) (by kernel_rfl) (e:=Extern.BytealgIndexByte.indexByte) (by kernel_rfl),Lib.run_indexByteString];simp only[Result.andThen];rw[Oper.upon_value];go_wp2;go_ret;exact⟨rfl,rfl⟩
theorem z0f(s:ByteArray)(w:World):
  Calls prog 198 #[.string s,.string ⟨#[10]⟩] w fun e w'=>e=.returned (.int .i64 (Lib.indexByte s.data.toList 10))/\w'=w:=by
 go_in;go_wp2_with(go_at_call 168;refine(q6y _ _ _).mono ?_;rintro e w'⟨rfl,rfl⟩)
 ·have h:([10]==s.toList)=true:=by assumption
  go_ret;refine⟨?_,rfl⟩;have e:s.data.toList=[10]:=by rw[<-Lib.toList_data];exact(beq_iff_eq.1 h).symm
  rw[e];simp[Lib.indexByte]
 ·go_ret;exact⟨rfl,rfl⟩
theorem k8w(s:ByteArray)(w:World)(h:Lib.indexByte s.data.toList 10=-1):
  Calls prog 170 #[.string s,.string ⟨#[10]⟩] w fun e w'=>e=.returned (.tuple #[.string s,.string ⟨#[]⟩,.bool false])/\∃n,w'=w.drewN n:=by
 go_in;go_wp2_with(go_at_call 198;refine(z0f _ _).mono ?_;rintro e w'⟨rfl,rfl⟩;rw[h]);go_ret3;exact⟨rfl,0,rfl⟩
theorem j3i(s:ByteArray)(w:World)(i:Nat)(h:Lib.indexByte s.data.toList 10=i)(hi:i+1<=s.size)(hb:s.size<=100000000):
  Calls prog 170 #[.string s,.string ⟨#[10]⟩] w fun e w'=>e=.returned (.tuple #[.string (s.extract 0 i),.string (s.extract (i+1) s.size),.bool true])/\∃n,w'=w.drewN n:=by
 have A:(0:Int)<=↑i:=by omega
 have B:(↑i:Int)<=↑s.size:=by omega
 have C:(0:Int)<=↑i+1:=by omega
 have D:(↑i+1:Int)<=↑s.size:=by omega
 have E:(↑i:Int)<=100000000:=by omega
 go_in;go_wp2_with(go_at_call 198;refine(z0f _ _).mono ?_;rintro e w'⟨rfl,rfl⟩;rw[h])
 go_region
 go_wp2;go_ret3;exact⟨rfl,1,rfl⟩
end Go.Proofs.YtfdppahhbpfnoaaGreatDoor
namespace Go.Proofs.YtfdppahhbpfnoaaGreatDoor
open Go Go.RowKit Go.Extern.Stop Go.Stop Go.Extern
set_option maxRecDepth 100000
set_option maxHeartbeats 4000000
theorem Tryz.valueOfP(t:Addr)(w:World):(ReflectliteValue.unpack (.iface 128 (.pointer (some t)))).run prog w
  =.ok (.agg #[.pointer (some ⟨12,128,none⟩),.pointer (some ⟨w,0,none⟩),.int .u64 150]) (w.alloc (.cells #[.pointer (some t)] 128)):=by kernel_rfl
theorem Tryz.typeP (a : Addr) (w : World) : (ReflectliteValue.methodAny (ReflectliteValue.valueError "reflectlite.Value.Type" 0) (fun t _ _ _ => ReflectliteType.toType t) #[.agg #[.pointer (some ⟨12, 128, none⟩), .pointer (some a), .int .u64 150]]).run prog w
  =.ok (.iface 227 (.agg #[.pointer (some ⟨12,128,none⟩)])) w:=by kernel_rfl
theorem Tryz.methodKind (h : Value) (w : World) : (Go.method 471 227 (.agg #[h]) "Kind").run prog w = .ok (276, h) w := by kernel_rfl
theorem Tryz.kindP(w:World):((ReflectliteType.abiMethod fun t=>(fun a:Nat=>Value.int IntKind.u8 (a:Int)) <$> Rtype.kind t) #[.pointer (some ⟨12,128,none⟩)]).run prog w=.ok (.int .u8 22) w:=by kernel_rfl
theorem Tryz.kindE(w:World):((ReflectliteType.abiMethod fun t=>(fun a:Nat=>Value.int IntKind.u8 (a:Int)) <$> Rtype.kind t) #[.pointer (some ⟨12,23,none⟩)]).run prog w=.ok (.int .u8 2) w:=by kernel_rfl
theorem j8v(z:Sem Value)(f:TypeId->Addr->Nat->Nat->Sem Value)(v:Value):
  ∃K:Option (TypeId × Addr × Nat)->Sem Value,ReflectliteValue.method z f #[v]=(ReflectliteValue.parts v >>=K)/\∀t a fl,K (some (t,a,fl))=f t a fl (fl % 32):=⟨_,rfl,fun _ _ _=>rfl⟩
theorem z0o{P:Program}{z:Sem Value}{f:TypeId->Addr->Nat->Nat->Sem Value}{v:Value}{W:World}{t:TypeId}{a:Addr}{fl:Nat}
  (h:(ReflectliteValue.parts v).run P W=.ok (some (t,a,fl)) W):(ReflectliteValue.method z f #[v]).run P W=(f t a fl (fl % 32)).run P W:=by
 obtain⟨K,e,A⟩:=j8v z f v;rw[e];simp[Sem.run_bind,h,Result.andThen,A]
theorem y5c(v x:Value):
  ∃K:Option (TypeId × Addr × Nat)->Option (TypeId × Addr × Nat)->Sem Value,ReflectliteValue.set #[v,x]=(ReflectliteValue.parts v >>=fun p=>ReflectliteValue.parts x >>=fun q=>K p q)/\
   ∀(P:Program)(W W1:World)(dst src:TypeId)(a b:Addr)(fl g:Nat)(val:Value),(fl / ReflectliteValue.flagAddr % 2==0)=false->(loadVar src b).run P W=.ok val W->(Rtype.directlyAssignable dst src).run P W=.ok true W->
    (storeVar dst a val).run P W=.ok () W1->(K (some (dst,a,fl)) (some (src,b,g))).run P W=.ok (.tuple #[]) W1:=by
 refine⟨_,rfl,?_⟩;intro P W W1 dst src a b fl g val A B C D;simp[A,B,C,D,Sem.run_bind,Result.andThen]
theorem Tryz.partsP(a:Addr)(w:World):(ReflectliteValue.parts (.agg #[.pointer (some ⟨12,128,none⟩),.pointer (some a),.int .u64 150])).run prog w=.ok (some (128,a,150)) w:=by kernel_rfl
theorem Tryz.isNilP(a p:Addr)(W:World)(ha:W.cell? a=some (.pointer (some p))):
  (ReflectliteValue.method (ReflectliteValue.valueError "reflectlite.Value.IsNil" 0) ReflectliteValue.isNil #[.agg #[.pointer (some ⟨12, 128, none⟩), .pointer (some a), .int .u64 150]]).run prog W = .ok (.bool false) W := by
 rw[z0o (Tryz.partsP a W)];simp[ReflectliteValue.isNil,loadVar,isAgg,underlying,Tryz.underlying128,ha,Result.andThen]
theorem Tryz.methodElem (h : Value) (w : World) : (Go.method 471 227 (.agg #[h]) "Elem").run prog w = .ok (287, .agg #[h]) w := by kernel_rfl
theorem Tryz.methodImplements (h : Value) (w : World) : (Go.method 471 227 (.agg #[h]) "Implements").run prog w = .ok (288, .agg #[h]) w := by kernel_rfl
theorem Tryz.methodAssignableTo (h : Value) (w : World) : (Go.method 471 227 (.agg #[h]) "AssignableTo").run prog w = .ok (285, .agg #[h]) w := by kernel_rfl
theorem Tryz.elemP(w:World):(ReflectliteType.method ReflectliteType.elem #[.agg #[.pointer (some ⟨12,128,none⟩)]]).run prog w=.ok (.iface 227 (.agg #[.pointer (some ⟨12,23,none⟩)])) w:=by kernel_rfl
theorem Tryz.implementsE (w : World) : (ReflectliteType.relation "Implements" ReflectliteType.implements_ #[.agg #[.pointer (some ⟨12, 23, none⟩)], .iface 227 (.agg #[.pointer (some ⟨12, 29, none⟩)])]).run prog w = .ok (.bool true) w := by kernel_rfl
theorem Tryz.typeOfE(v:Value)(w:World):(ReflectliteType.typeOf #[.iface 23 v]).run prog w=.ok (.iface 227 (.agg #[.pointer (some ⟨12,23,none⟩)])) w:=by kernel_rfl
theorem Tryz.assignableE (w : World) : (ReflectliteType.relation "AssignableTo" ReflectliteType.assignableTo #[.agg #[.pointer (some ⟨12, 23, none⟩)], .iface 227 (.agg #[.pointer (some ⟨12, 23, none⟩)])]).run prog w = .ok (.bool true) w := by kernel_rfl
theorem Tryz.valueOfE(e:Int)(w:World):(ReflectliteValue.unpack (.iface 23 (.int .i64 e))).run prog w
  =.ok (.agg #[.pointer (some ⟨12,23,none⟩),.pointer (some ⟨w,0,none⟩),.int .u64 130]) (w.alloc (.cells #[.int .i64 e] 23)):=by kernel_rfl
theorem Tryz.elemOfP(w:World):(Rtype.elem? 128).run prog w=.ok (some 23) w:=by kernel_rfl
theorem Tryz.mkE(p:Addr)(w:World):(ReflectliteValue.mk 23 p ReflectliteValue.flagAddr).run prog w=.ok (.agg #[.pointer (some ⟨12,23,none⟩),.pointer (some p),.int .u64 386]) w:=by kernel_rfl
theorem Tryz.elemVP(a p:Addr)(W:World)(ha:W.cell? a=some (.pointer (some p))):
  (ReflectliteValue.method (ReflectliteValue.valueError "reflectlite.Value.Elem" 0) ReflectliteValue.elem #[.agg #[.pointer (some ⟨12, 128, none⟩), .pointer (some a), .int .u64 150]]).run prog W
   =.ok (.agg #[.pointer (some ⟨12,23,none⟩),.pointer (some p),.int .u64 386]) W:=by
 rw[z0o (Tryz.partsP a W)];simp[ReflectliteValue.elem,loadVar,isAgg,underlying,Tryz.underlying128,ha,Result.andThen,Tryz.elemOfP,Tryz.mkE]
theorem Tryz.partsEa(a:Addr)(w:World):(ReflectliteValue.parts (.agg #[.pointer (some ⟨12,23,none⟩),.pointer (some a),.int .u64 386])).run prog w=.ok (some (23,a,386)) w:=by kernel_rfl
theorem Tryz.partsE(a:Addr)(w:World):(ReflectliteValue.parts (.agg #[.pointer (some ⟨12,23,none⟩),.pointer (some a),.int .u64 130])).run prog w=.ok (some (23,a,130)) w:=by kernel_rfl
theorem Tryz.directE(w:World):(Rtype.directlyAssignable 23 23).run prog w=.ok true w:=by kernel_rfl
theorem Tryz.setE(ta b:Addr)(e:Int)(A:Value)(W:World)(hb:W.cell? b=some (.int .i64 e))(ht:W.cell? ta=some A)(hf:W.frozen? ta=false):
  (ReflectliteValue.set #[.agg #[.pointer (some ⟨12,23,none⟩),.pointer (some ta),.int .u64 386],.agg #[.pointer (some ⟨12,23,none⟩),.pointer (some b),.int .u64 130]]).run prog W
   =.ok (.tuple #[]) (W.setCell ta (.int .i64 e)):=by
 obtain⟨K,B,C⟩:=y5c (.agg #[.pointer (some ⟨12,23,none⟩),.pointer (some ta),.int .u64 386]) (.agg #[.pointer (some ⟨12,23,none⟩),.pointer (some b),.int .u64 130]);rw[B];simp only[Sem.run_bind,Tryz.partsEa,Tryz.partsE,Result.andThen];refine C prog W _ 23 23 ta b 386 130 (.int .i64 e) (by simp[ReflectliteValue.flagAddr]) ?_ (Tryz.directE W) ?_
 ·simp[loadVar,isAgg,underlying,Tryz.underlying23,hb,Result.andThen]
 ·simp[storeVar,Value.cells,storeCells,Addr.add,Result.andThen];rw[run_store prog W ta _ _ (by rfl)];simp[ht,hf]
theorem y3g(e:Int)(t:Addr)(old:Value)(w:World)(hg:w.cell? ⟨0,0,none⟩=some (.iface 227 (.agg #[.pointer (some ⟨12,29,none⟩)])))(ht0:w.cell? t=some old)(hf0:w.frozen? t=false):
  Calls prog 72 #[.iface 23 (.int .i64 e),.iface 128 (.pointer (some t))] w fun ev w'=>ev=.returned (.bool true)/\w'=((((w.alloc (.cells #[.pointer (some t)] 128)).alloc (.cells #[.pointer (some ⟨12,128,none⟩),.pointer (some ⟨w,0,none⟩),.int .u64 150] 181)).alloc (.cells #[.pointer (some ⟨12,128,none⟩),.pointer (some ⟨w,0,none⟩),.int .u64 150] 181)).alloc (.cells #[.int .i64 e] 23)).setCell t (.int .i64 e):=by
 have h6:=@run_callFunc_extern prog 112 _ (fun args=>ReflectliteValue.unpack (args.getD 0 (.tuple #[]))) func112 (by kernel_rfl) (by kernel_rfl) (by kernel_rfl) (by kernel_rfl)
 have h7 := @run_callFunc_extern prog 113 _ (ReflectliteValue.methodAny (ReflectliteValue.valueError "reflectlite.Value.Type" 0) (fun t _ _ _ => ReflectliteType.toType t)) func113 (by kernel_rfl) (by kernel_rfl) (by kernel_rfl) (by kernel_rfl)
 have h8 := @run_callFunc_extern prog 114 _ (ReflectliteValue.method (ReflectliteValue.valueError "reflectlite.Value.IsNil" 0) ReflectliteValue.isNil) func114 (by kernel_rfl) (by kernel_rfl) (by kernel_rfl) (by kernel_rfl)
 have h27:=@run_callFunc_extern prog 276 _ (ReflectliteType.abiMethod fun t=>do pure (.int .u8 (<-Rtype.kind t))) func276 (by kernel_rfl) (by kernel_rfl) (by kernel_rfl) (by kernel_rfl);have h37:=@run_callFunc_extern prog 287 _ (ReflectliteType.method ReflectliteType.elem) func287 (by kernel_rfl) (by kernel_rfl) (by kernel_rfl) (by kernel_rfl)
 have h38 := @run_callFunc_extern prog 288 _ (ReflectliteType.relation "Implements" ReflectliteType.implements_) func288 (by kernel_rfl) (by kernel_rfl) (by kernel_rfl) (by kernel_rfl)
 have h10:=@run_callFunc_extern prog 165 _ ReflectliteType.typeOf func165 (by kernel_rfl) (by kernel_rfl) (by kernel_rfl) (by kernel_rfl)
 have h35 := @run_callFunc_extern prog 285 _ (ReflectliteType.relation "AssignableTo" ReflectliteType.assignableTo) func285 (by kernel_rfl) (by kernel_rfl) (by kernel_rfl) (by kernel_rfl)
 have h11 := @run_callFunc_extern prog 166 _ (ReflectliteValue.method (ReflectliteValue.valueError "reflectlite.Value.Elem" 0) ReflectliteValue.elem) func166 (by kernel_rfl) (by kernel_rfl) (by kernel_rfl) (by kernel_rfl)
 have h12:=@run_callFunc_extern prog 167 _ ReflectliteValue.set func167 (by kernel_rfl) (by kernel_rfl) (by kernel_rfl) (by kernel_rfl);have tO:=Tryz.typeOfE;have mA:=Tryz.methodAssignableTo;have a25:=Tryz.assignableE;have v25:=Tryz.valueOfE;have f6:=Tryz.valueOfP;have f7:=Tryz.typeP;have mK:=Tryz.methodKind;have mE:=Tryz.methodElem;have mI:=Tryz.methodImplements;have k27:=Tryz.kindP;have k25:=Tryz.kindE;have e27:=Tryz.elemP;have i25:=Tryz.implementsE;have n8:=Tryz.isNilP ⟨w,0,none⟩ t ((w.alloc (.cells #[.pointer (some t)] 128)).alloc (.cells #[.pointer (some ⟨12,128,none⟩),.pointer (some ⟨w,0,none⟩),.int .u64 150] 181)) (by simp)
 have hlt:0<w.heap.size:=by
  rcases Nat.lt_or_ge 0 w.heap.size with h|h
  ·exact h
  ·simp[World.cell?,Array.getElem?_eq_none h]at hg
 have hg2:((w.alloc (.cells #[.pointer (some t)] 128)).alloc (.cells #[.pointer (some ⟨12,128,none⟩),.pointer (some ⟨w,0,none⟩),.int .u64 150] 181)).cell? ⟨0,0,none⟩=some (.iface 227 (.agg #[.pointer (some ⟨12,29,none⟩)])):=by
  rw[World.cell?_alloc_lt _ _ ⟨0,0,none⟩ (by simp only[World.size_alloc];omega),World.cell?_alloc_lt _ _ ⟨0,0,none⟩ hlt];exact hg
 have htl:t.block<w.heap.size:=by
  rcases Nat.lt_or_ge t.block w.heap.size with h|h
  ·exact h
  ·simp[World.cell?,Array.getElem?_eq_none h]at ht0
 have el:=Tryz.elemVP ⟨w,0,none⟩ t (((w.alloc (.cells #[.pointer (some t)] 128)).alloc (.cells #[.pointer (some ⟨12,128,none⟩),.pointer (some ⟨w,0,none⟩),.int .u64 150] 181)).alloc (.cells #[.pointer (some ⟨12,128,none⟩),.pointer (some ⟨w,0,none⟩),.int .u64 150] 181)) (by rw[World.cell?_alloc_lt _ _ ⟨w,0,none⟩ (by simp;omega)];simp)
 have st:=Tryz.setE t ⟨w.heap.size+1+1+1,0,none⟩ e old ((((w.alloc (.cells #[.pointer (some t)] 128)).alloc (.cells #[.pointer (some ⟨12,128,none⟩),.pointer (some ⟨w,0,none⟩),.int .u64 150] 181)).alloc (.cells #[.pointer (some ⟨12,128,none⟩),.pointer (some ⟨w,0,none⟩),.int .u64 150] 181)).alloc (.cells #[.int .i64 e] 23))
  (by rw[World.cell?_alloc_at _ _ _ _ (by simp)];rfl)
  (by rw[World.cell?_alloc_lt _ _ t (by simp;omega),World.cell?_alloc_lt _ _ t (by simp;omega),World.cell?_alloc_lt _ _ t (by simp;omega),World.cell?_alloc_lt _ _ t htl];exact ht0)
  (by rw[World.frozen?_alloc_old _ _ t (by simp;omega),World.frozen?_alloc_old _ _ t (by simp;omega),World.frozen?_alloc_old _ _ t (by simp;omega),World.frozen?_alloc_old _ _ t (Nat.ne_of_lt htl)];exact hf0)
 go_in;go_wp2;refine wp_loop_rounds 1 ?_;rw[rounds_succ];go_wp2;go_ret;exact⟨rfl,rfl⟩
end Go.Proofs.YtfdppahhbpfnoaaGreatDoor
namespace Go.Proofs.YtfdppahhbpfnoaaGreatDoor
open Go Go.Lib
def ovr(wd:Int)(n:Int):Int:=max (n-wd) 0
def over(wd:Int):List Int->Int
 | []=>0
 | n::r=>ovr wd n+over wd r
end Go.Proofs.YtfdppahhbpfnoaaGreatDoor
