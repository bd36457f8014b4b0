/- Texts as one: As, Told, AppS. -/
import Derived.LaidEql
import Derived.Stop.Asserts
import Derived.RowKitTokens
import Derived.Test.YthjapabokcajhaaGreatDoorPj40
import Derived.Deep.RegionLaw
open Go.Proofs.Tryz
namespace Go.Proofs.YthjapabokcajhaaGreatDoor
open Go Go.RowKit Go.Extern.Stop Go.Stop Go.Extern
set_option maxRecDepth 100000
set_option maxHeartbeats 4000000
theorem Tryz.valueOfP(t:Addr)(w:World):(ReflectliteValue.unpack (.iface 128 (.pointer (some t)))).run prog w
  =.ok (.agg #[.pointer (some ⟨12,128,none⟩),.pointer (some ⟨w.heap.size,0,none⟩),.int .u64 150]) (w.alloc (.cells #[.pointer (some t)] 128)):=by kernel_rfl
theorem Tryz.typeP (a : Addr) (w : World) : (ReflectliteValue.methodAny (ReflectliteValue.valueError "reflectlite.Value.Type" 0) (fun t _ _ _ => ReflectliteType.toType t) #[.agg #[.pointer (some ⟨12, 128, none⟩), .pointer (some a), .int .u64 150]]).run prog w
  =.ok (.iface 227 (.agg #[.pointer (some ⟨12,128,none⟩)])) w:=by kernel_rfl
theorem Tryz.methodKind (h : Value) (w : World) : (Go.method 471 227 (.agg #[h]) "Kind").run prog w = .ok (276, h) w := by kernel_rfl
theorem Tryz.kindP(w:World):((ReflectliteType.abiMethod fun t=>(fun a:Nat=>Value.int IntKind.u8 (a:Int)) <$> Rtype.kind t) #[.pointer (some ⟨12,128,none⟩)]).run prog w=.ok (.int .u8 22) w:=by kernel_rfl
theorem Tryz.kindE(w:World):((ReflectliteType.abiMethod fun t=>(fun a:Nat=>Value.int IntKind.u8 (a:Int)) <$> Rtype.kind t) #[.pointer (some ⟨12,23,none⟩)]).run prog w=.ok (.int .u8 2) w:=by kernel_rfl
theorem j8g(z:Sem Value)(f:TypeId->Addr->Nat->Nat->Sem Value)(v:Value):
  ∃K:Option (TypeId × Addr × Nat)->Sem Value,ReflectliteValue.method z f #[v]=(ReflectliteValue.parts v >>=K)/\∀t a fl,K (some (t,a,fl))=f t a fl (fl % 32):=⟨_,rfl,fun _ _ _=>rfl⟩
theorem z0q{P:Program}{z:Sem Value}{f:TypeId->Addr->Nat->Nat->Sem Value}{v:Value}{W:World}{t:TypeId}{a:Addr}{fl:Nat}
  (h:(ReflectliteValue.parts v).run P W=.ok (some (t,a,fl)) W):(ReflectliteValue.method z f #[v]).run P W=(f t a fl (fl % 32)).run P W:=by
 obtain⟨K,e,hK⟩:=j8g z f v;rw[e];simp[Sem.run_bind,h,Result.andThen,hK]
theorem y5i(v x:Value):
  ∃K:Option (TypeId × Addr × Nat)->Option (TypeId × Addr × Nat)->Sem Value,ReflectliteValue.set #[v,x]=(ReflectliteValue.parts v >>=fun p=>ReflectliteValue.parts x >>=fun q=>K p q)/\
   ∀(P:Program)(W W1:World)(dst src:TypeId)(a b:Addr)(fl g:Nat)(val:Value),(fl / ReflectliteValue.flagAddr % 2==0)=false->(loadVar src b).run P W=.ok val W->(Rtype.directlyAssignable dst src).run P W=.ok true W->
    (storeVar dst a val).run P W=.ok () W1->(K (some (dst,a,fl)) (some (src,b,g))).run P W=.ok (.tuple #[]) W1:=by
 refine⟨_,rfl,?_⟩;intro P W W1 dst src a b fl g val h1 h2 h3 h4;simp[h1,h2,h3,h4,Sem.run_bind,Result.andThen]
theorem Tryz.partsP(a:Addr)(w:World):(ReflectliteValue.parts (.agg #[.pointer (some ⟨12,128,none⟩),.pointer (some a),.int .u64 150])).run prog w=.ok (some (128,a,150)) w:=by kernel_rfl
theorem Tryz.isNilP(a p:Addr)(W:World)(ha:W.cell? a=some (.pointer (some p))):
  (ReflectliteValue.method (ReflectliteValue.valueError "reflectlite.Value.IsNil" 0) ReflectliteValue.isNil #[.agg #[.pointer (some ⟨12, 128, none⟩), .pointer (some a), .int .u64 150]]).run prog W = .ok (.bool false) W := by
 rw[z0q (Tryz.partsP a W)];simp[ReflectliteValue.isNil,loadVar,isAgg,underlying,Tryz.underlying128,ha,Result.andThen]
theorem Tryz.methodElem (h : Value) (w : World) : (Go.method 471 227 (.agg #[h]) "Elem").run prog w = .ok (287, .agg #[h]) w := by kernel_rfl
theorem Tryz.methodImplements (h : Value) (w : World) : (Go.method 471 227 (.agg #[h]) "Implements").run prog w = .ok (288, .agg #[h]) w := by kernel_rfl
theorem Tryz.methodAssignableTo (h : Value) (w : World) : (Go.method 471 227 (.agg #[h]) "AssignableTo").run prog w = .ok (285, .agg #[h]) w := by kernel_rfl
theorem Tryz.elemP(w:World):(ReflectliteType.method ReflectliteType.elem #[.agg #[.pointer (some ⟨12,128,none⟩)]]).run prog w=.ok (.iface 227 (.agg #[.pointer (some ⟨12,23,none⟩)])) w:=by kernel_rfl
theorem Tryz.implementsE (w : World) : (ReflectliteType.relation "Implements" ReflectliteType.implements_ #[.agg #[.pointer (some ⟨12, 23, none⟩)], .iface 227 (.agg #[.pointer (some ⟨12, 29, none⟩)])]).run prog w = .ok (.bool true) w := by kernel_rfl
theorem Tryz.typeOfE(v:Value)(w:World):(ReflectliteType.typeOf #[.iface 23 v]).run prog w=.ok (.iface 227 (.agg #[.pointer (some ⟨12,23,none⟩)])) w:=by kernel_rfl
theorem Tryz.assignableE (w : World) : (ReflectliteType.relation "AssignableTo" ReflectliteType.assignableTo #[.agg #[.pointer (some ⟨12, 23, none⟩)], .iface 227 (.agg #[.pointer (some ⟨12, 23, none⟩)])]).run prog w = .ok (.bool true) w := by kernel_rfl
theorem Tryz.valueOfE(e:Int)(w:World):(ReflectliteValue.unpack (.iface 23 (.int .i64 e))).run prog w
  =.ok (.agg #[.pointer (some ⟨12,23,none⟩),.pointer (some ⟨w.heap.size,0,none⟩),.int .u64 130]) (w.alloc (.cells #[.int .i64 e] 23)):=by kernel_rfl
theorem Tryz.elemOfP(w:World):(Rtype.elem? 128).run prog w=.ok (some 23) w:=by kernel_rfl
theorem Tryz.mkE(p:Addr)(w:World):(ReflectliteValue.mk 23 p ReflectliteValue.flagAddr).run prog w=.ok (.agg #[.pointer (some ⟨12,23,none⟩),.pointer (some p),.int .u64 386]) w:=by kernel_rfl
theorem Tryz.elemVP(a p:Addr)(W:World)(ha:W.cell? a=some (.pointer (some p))):
  (ReflectliteValue.method (ReflectliteValue.valueError "reflectlite.Value.Elem" 0) ReflectliteValue.elem #[.agg #[.pointer (some ⟨12, 128, none⟩), .pointer (some a), .int .u64 150]]).run prog W
   =.ok (.agg #[.pointer (some ↑(12,23)),.pointer (some p),.int .u64 386]) W:=by
 rw[z0q (Tryz.partsP a W)];simp[ReflectliteValue.elem,loadVar,isAgg,underlying,Tryz.underlying128,ha,Result.andThen,Tryz.elemOfP,Tryz.mkE]
theorem Tryz.partsEa(a:Addr)(w:World):(ReflectliteValue.parts (.agg #[.pointer (some ⟨12,23,none⟩),.pointer (some a),.int .u64 386])).run prog w=.ok (some (23,a,386)) w:=by kernel_rfl
theorem Tryz.partsE(a:Addr)(w:World):(ReflectliteValue.parts (.agg #[.pointer (some ⟨12,23,none⟩),.pointer (some a),.int .u64 130])).run prog w=.ok (some (23,a,130)) w:=by kernel_rfl
theorem Tryz.directE(w:World):(Rtype.directlyAssignable 23 23).run prog w=.ok true w:=by kernel_rfl
theorem Tryz.setE(ta b:Addr)(e:Int)(old:Value)(W:World)(hb:W.cell? b=some ↑e)(ht:W.cell? ta=some old)(hf:W.frozen? ta=false):
  (ReflectliteValue.set #[.agg #[.pointer (some ↑(12,23)),.pointer (some ta),.int .u64 386],.agg #[.pointer (some ↑(12,23)),.pointer (some b),.int .u64 130]]).run prog W
   =.ok (.tuple #[]) (W.setCell ta e):=by
 obtain⟨K,e1,hK⟩:=y5i (.agg #[.pointer (some ↑(12,23)),.pointer (some ta),.int .u64 386]) (.agg #[.pointer (some ↑(12,23)),.pointer (some b),.int .u64 130]);rw[e1];simp only[Sem.run_bind,Tryz.partsEa,Tryz.partsE,Result.andThen];refine hK prog W _ 23 23 ta b 386 130 e (by simp[ReflectliteValue.flagAddr]) ?_ (Tryz.directE W) ?_
 ·simp[loadVar,isAgg,underlying,Tryz.underlying23,hb,Result.andThen]
 ·simp[storeVar,Value.cells,storeCells,Addr.add,Result.andThen];rw[run_store prog W ta _ _ (by rfl)];simp[ht,hf]
theorem y3j(e:Int)(t:Addr)(old:Value)(w:World)(hg:w.cell? ⟨0,0,none⟩=some (.iface 227 (.agg #[.pointer (some ⟨12,29,none⟩)])))(ht0:w.cell? t=some old)(hf0:w.frozen? t=false):
  Calls prog 72 #[.iface 23 (.int .i64 e),.iface 128 (.pointer (some t))] w fun ev w'=>ev=.returned (.bool true)/\w'=((((w.alloc (.cells #[.pointer (some t)] 128)).alloc (.cells #[.pointer (some ⟨12,128,none⟩),.pointer (some ⟨w.heap.size,0,none⟩),.int .u64 150] 181)).alloc (.cells #[.pointer (some ⟨12,128,none⟩),.pointer (some ⟨w.heap.size,0,none⟩),.int .u64 150] 181)).alloc (.cells #[.int .i64 e] 23)).setCell t (.int .i64 e):=by
 have h6:=@run_callFunc_extern prog 112 _ (fun args=>ReflectliteValue.unpack (args.getD 0 (.tuple #[]))) func112 (by kernel_rfl) (by kernel_rfl) (by kernel_rfl) (by kernel_rfl)
 have h7 := @run_callFunc_extern prog 113 _ (ReflectliteValue.methodAny (ReflectliteValue.valueError "reflectlite.Value.Type" 0) (fun t _ _ _ => ReflectliteType.toType t)) func113 (by kernel_rfl) (by kernel_rfl) (by kernel_rfl) (by kernel_rfl)
 have h8 := @run_callFunc_extern prog 114 _ (ReflectliteValue.method (ReflectliteValue.valueError "reflectlite.Value.IsNil" 0) ReflectliteValue.isNil) func114 (by kernel_rfl) (by kernel_rfl) (by kernel_rfl) (by kernel_rfl)
 have h27:=@run_callFunc_extern prog 276 _ (ReflectliteType.abiMethod fun t=>do pure (.int .u8 (<-Rtype.kind t))) func276 (by kernel_rfl) (by kernel_rfl) (by kernel_rfl) (by kernel_rfl);have h37:=@run_callFunc_extern prog 287 _ (ReflectliteType.method ReflectliteType.elem) func287 (by kernel_rfl) (by kernel_rfl) (by kernel_rfl) (by kernel_rfl)
 have h38 := @run_callFunc_extern prog 288 _ (ReflectliteType.relation "Implements" ReflectliteType.implements_) func288 (by kernel_rfl) (by kernel_rfl) (by kernel_rfl) (by kernel_rfl)
 have h10:=@run_callFunc_extern prog 165 _ ReflectliteType.typeOf func165 (by kernel_rfl) (by kernel_rfl) (by kernel_rfl) (by kernel_rfl)
 have h35 := @run_callFunc_extern prog 285 _ (ReflectliteType.relation "AssignableTo" ReflectliteType.assignableTo) func285 (by kernel_rfl) (by kernel_rfl) (by kernel_rfl) (by kernel_rfl)
 have h11 := @run_callFunc_extern prog 166 _ (ReflectliteValue.method (ReflectliteValue.valueError "reflectlite.Value.Elem" 0) ReflectliteValue.elem) func166 (by kernel_rfl) (by kernel_rfl) (by kernel_rfl) (by kernel_rfl)
 have h12:=@run_callFunc_extern prog 167 _ ReflectliteValue.set func167 (by kernel_rfl) (by kernel_rfl) (by kernel_rfl) (by kernel_rfl);have tO:=Tryz.typeOfE;have mA:=Tryz.methodAssignableTo;have a25:=Tryz.assignableE;have v25:=Tryz.valueOfE;have f6:=Tryz.valueOfP;have f7:=Tryz.typeP;have mK:=Tryz.methodKind;have mE:=Tryz.methodElem;have mI:=Tryz.methodImplements;have k27:=Tryz.kindP;have k25:=Tryz.kindE;have e27:=Tryz.elemP;have i25:=Tryz.implementsE;have n8:=Tryz.isNilP ⟨w.heap.size,0,none⟩ t ((w.alloc (.cells #[.pointer (some t)] 128)).alloc (.cells #[.pointer (some ⟨12,128,none⟩),.pointer (some ⟨w.heap.size,0,none⟩),.int .u64 150] 181)) (by simp)
 have hlt:0<w.heap.size:=by
  rcases Nat.lt_or_ge 0 w.heap.size with h|h
  ·exact h
  ·simp[World.cell?,Array.getElem?_eq_none h]at hg
 have hg2:((w.alloc (.cells #[.pointer (some t)] 128)).alloc (.cells #[.pointer (some ⟨12,128,none⟩),.pointer (some ⟨w.heap.size,0,none⟩),.int .u64 150] 181)).cell? ⟨0,0,none⟩=some (.iface 227 (.agg #[.pointer (some ⟨12,29,none⟩)])):=by
  rw[World.cell?_alloc_lt _ _ ⟨0,0,none⟩ (by simp only[World.size_alloc];omega),World.cell?_alloc_lt _ _ ⟨0,0,none⟩ hlt];exact hg
 have htl:t.block<w.heap.size:=by
  rcases Nat.lt_or_ge t.block w.heap.size with h|h
  ·exact h
  ·simp[World.cell?,Array.getElem?_eq_none h]at ht0
 have el:=Tryz.elemVP ⟨w.heap.size,0,none⟩ t (((w.alloc (.cells #[.pointer (some t)] 128)).alloc (.cells #[.pointer (some ⟨12,128,none⟩),.pointer (some ⟨w.heap.size,0,none⟩),.int .u64 150] 181)).alloc (.cells #[.pointer (some ⟨12,128,none⟩),.pointer (some ⟨w.heap.size,0,none⟩),.int .u64 150] 181)) (by rw[World.cell?_alloc_lt _ _ ⟨w.heap.size,0,none⟩ (by simp;omega)];simp)
 have st:=Tryz.setE t ⟨w.heap.size+1+1+1,0,none⟩ e old ((((w.alloc (.cells #[.pointer (some t)] 128)).alloc (.cells #[.pointer (some ⟨12,128,none⟩),.pointer (some ⟨w.heap.size,0,none⟩),.int .u64 150] 181)).alloc (.cells #[.pointer (some ⟨12,128,none⟩),.pointer (some ⟨w.heap.size,0,none⟩),.int .u64 150] 181)).alloc (.cells #[.int .i64 e] 23))
  (by rw[World.cell?_alloc_at _ _ _ _ (by simp)];rfl)
  (by rw[World.cell?_alloc_lt _ _ t (by simp;omega),World.cell?_alloc_lt _ _ t (by simp;omega),World.cell?_alloc_lt _ _ t (by simp;omega),World.cell?_alloc_lt _ _ t htl];exact ht0)
  (by rw[World.frozen?_alloc_old _ _ t (by simp;omega),World.frozen?_alloc_old _ _ t (by simp;omega),World.frozen?_alloc_old _ _ t (by simp;omega),World.frozen?_alloc_old _ _ t (Nat.ne_of_lt htl)];exact hf0)
 go_in;go_wp2;refine wp_loop_rounds 1 ?_;rw[rounds_succ];go_wp2;go_ret;exact⟨rfl,rfl⟩
end Go.Proofs.YthjapabokcajhaaGreatDoor
namespace Go.Proofs.YthjapabokcajhaaGreatDoor
open Go Go.RowKit
set_option maxRecDepth 100000
set_option maxHeartbeats 1000000
def Hnd(w:World):Prop:=w.cell? ⟨0,0,none⟩=some (.iface 227 (.agg #[.pointer (some ⟨12,29,none⟩)]))
theorem Hnd.lt{w:World}(h:Hnd w):0<w.heap.size:=by
 unfold Hnd at h;rcases Nat.lt_or_ge 0 w.heap.size with h'|h'
 ·exact h'
 ·simp[World.cell?,Array.getElem?_eq_none h']at h
theorem Hnd.below{w w':World}(h:Hnd w)(hb:Below w w w'):Hnd w':=((q1v hb).1 _ _ h.lt).trans h
theorem Hnd.alloc{w:World}(h:Hnd w)(o:Obj):Hnd (w.alloc o):=h.below (Zb.alloc Zl _)
theorem v5l(w:World):Calls prog 32 #[.nilIface] w fun e w'=>e=.returned (.int .i64 0)/\Below w w w':=by
 go_in;go_wp2;go_ret;exact⟨rfl,Below.refl _ _⟩
theorem v5k(n:Int)(w:World)(hg:Hnd w):Calls prog 32 #[.iface 23 (.int .i64 n)] w fun e w'=>e=.returned (.int .i64 n)/\Below w w w':=by
 have HG:Hid (Hnd w):=hg;have hl:=hg.lt;clear hg;go_in;go_wp2_with fail;refine(y3j n ⟨w.heap.size,0,none⟩ (.int .i64 0) _ (HG.o.alloc _) (by simp[go_sem]) (by simp[go_sem])).mono ?_;rintro e w1⟨rfl,rfl⟩;go_wp2;go_ret;refine⟨rfl,?_⟩
 repeat (first|exact Below.refl _ _|refine Below.setCell ?_ (by simp) _|refine Below.alloc ?_ (by simp;try omega) _)
theorem v5j(n:Int)(w:World)(hg:Hnd w):Calls prog 32 #[q1y n] w fun e w'=>e=.returned (.int .i64 n)/\Below w w w':=by
 by_cases h:n=0
 ·subst h;exact v5l w
 ·have e:q1y n=.iface 23 (.int .i64 n):=by simp[q1y,h]
  rw[e];exact v5k n w hg
theorem q2k(n m:Int)(w:World)(hg:Hnd w):Calls prog 10 #[q1y n,.int .i64 m] w fun e w'=>e=.returned (.bool (n==m))/\Below w w w':=by
 have HG:Hid (Hnd w):=hg;clear hg;go_in;go_wp2_with fail;refine(v5j n _ HG.o).mono ?_;rintro e w1⟨rfl,hb⟩;go_wp2;go_ret;exact⟨rfl,hb⟩
theorem z9k{w:World}{ops:Array Oper}{o:Oper}{a:Act}{K:Act->World->Prop}{Q:Exit->Act->World->Prop}{E:Prop}(hgd:o.guard=none)(s x:Operand)(t:TypeId)
  (ho:o.op=.call {callee:=.builtin .append,args:=#[s,x],argTypes:=#[t,t]}) (v u v':Value) (w':World) (hs:a.eval s=v) (hx:a.eval x=u)
  (hrun:(Builtin.append_ #[t,t] o.type #[v,u]).run prog w=.ok v' w') (hK:K (a.put o.dst v') w'):if Region.wanted o (yielded ops a.tmps)=true then Oper.wp prog o a w K Q else E:=by
 have hw:Region.wanted o (yielded ops a.tmps)=true:=by simp[Region.wanted,hgd]
 rw[if_pos hw];unfold Oper.wp;simp[execOp,ho,resolve,invoke,builtin,hs,hx,hrun,Result.andThen];exact hK
theorem q2a{w:World}{ops:Array Oper}{o:Oper}{a:Act}{K:Act->World->Prop}{Q:Exit->Act->World->Prop}{E:Prop}(hgd:o.guard=none)(s x:Operand)
  (ho:o.op=.call {callee:=.builtin .append,args:=#[s,x],argTypes:=#[22,22]})
  (base:Nat) (v:Value) (xs:List Td) (hs:a.eval s=v) (hown:q0x base v xs w)
  (wa:Option Addr) (n:Nat) (ws:List Td) (hn:ws.length=n) (wc:Nat) (hx:a.eval x=.slice wa n wc) (hW:Tds w wa ws) (hnil:wa=none->n=0/\wc=0)
  (m:Nat) (hm:xs.length+n=m) (hb:m<=1000000) (hbase:base<=w.heap.size)
  (h:∀A c w',q0x base (.slice A m c) (xs++ws) w'->w.grownBy w' v.ownBlock->K (a.put o.dst (.slice A m c)) w'):if Region.wanted o (yielded ops a.tmps)=true then Oper.wp prog o a w K Q else E:=by
 subst hn hm;obtain⟨i0,hi,hz0,hz1,hz2⟩:=info_parts j9c
 have h':∀v' w',q0x base v' (xs++ws) w'->w.grownBy w' v.ownBlock->K (a.put o.dst v') w':=by
  intro v' w' h1 h2
  obtain⟨A,c,rfl⟩:∃A c,v'=.slice A (xs.length+ws.length) c:=by
   rcases h1.2 with⟨hv,h0⟩|⟨g,c,cur,hv,_⟩
   ·rw[List.length_append]at h0;exact⟨.none,0,by rw[hv,h0]⟩
   ·rw[List.length_append]at hv;exact⟨_,c,hv⟩
  exact h A c w' h1 h2
 cases wa with
 | none=>
  obtain⟨h0,rfl⟩:=hnil rfl;obtain rfl:ws=[]:=List.eq_nil_of_length_eq_zero h0;refine z9k hgd s x 22 ho v _ _ _ hs hx (run_append_owned_none (P:=prog) (w:=w) base 22 o.type 47 i0 3 Tryz.underlying22 hi v xs.length (q1g xs) hown) ?_;refine h' v w ?_ ⟨rfl,rfl,rfl,Nat.le_refl _,fun _ _ _=>rfl⟩;rw[List.append_nil];exact hown
 | some ad=>
  have hsp:ws=[]\/∃b o,ad=⟨b,o,Option.none⟩:=by
   rcases Nat.eq_zero_or_pos ws.length with h0|h0
   ·exact .inl (List.eq_nil_of_length_eq_zero h0)
   ·obtain⟨b,o,e,_⟩:=hW 0 h0;exact .inr ⟨b,o,by simpa using e⟩
  obtain⟨v',w',hrun,h1,h2,_⟩:=run_append_own (P:=prog) w base 22 o.type 47 i0 _ 3 32 Tryz.underlying22 hi hz0 hz1 hz2 rfl (by decide) v xs.length (q1g xs) hown ad ws.length wc (q1g ws) (q7d ws) (by
   rcases hsp with rfl|⟨b,o,rfl⟩
   ·intro j u hj;simp[q1g]at hj
   ·exact k7q hW) (z5b ws) (by unfold maxLen;omega) (by omega) hbase
  refine z9k hgd s x 22 ho v _ v' w' hs hx hrun (h' v' w' ?_ h2);rw[<-z5a]at h1;show w'.ownsRow _ _ _ _ _ _;rw[List.length_append];exact h1
theorem q8c{w:World}{ops:Array Oper}{o:Oper}{a:Act}{K:Act->World->Prop}{Q:Exit->Act->World->Prop}{E:Prop}(hgd:o.guard=none)(s x:Operand)
  (ho:o.op=.call {callee:=.builtin .append,args:=#[s,x],argTypes:=#[33,33]})
  (base:Nat) (v:Value) (ps:List (List Td)) (hs:a.eval s=v) (hown:q3o base v ps w)
  (b0 g n c:Nat) (t:List Td) (hn:t.length=n) (hx:a.eval x=.slice (some ⟨b0,0,none⟩) 1 1) (hc:w.cell? ⟨b0,0,none⟩=some (.slice (some ⟨g,0,none⟩) n c)) (hT:q0x base (.slice (some ⟨g,0,none⟩) n c) t w)
  (m:Nat) (hm:ps.length+1=m) (hb:m<=1000000) (hbase:base<=w.heap.size)
  (h:∀A c' w',q3o base (.slice A m c') (ps++[t]) w'->w.grownBy w' v.ownBlock->K (a.put o.dst (.slice A m c')) w'):if Region.wanted o (yielded ops a.tmps)=true then Oper.wp prog o a w K Q else E:=by
 subst hn hm;obtain⟨i0,hi,hz0,hz1,hz2⟩:=info_parts v8c;obtain⟨hvs,h1,h2⟩:=hown
 obtain⟨v',w',hrun,h3,h4,_⟩:=run_append_own (P:=prog) w base 33 o.type 22 i0 _ 1 24 Tryz.underlying33 hi hz0 hz1 hz2 rfl (by decide) v ps.length hvs h1 ⟨b0,0,none⟩ 1 1 [.slice (some ⟨g,0,none⟩) t.length c] rfl (by
  intro j u hj;cases j with
  | zero=>
   simp at hj;subst hj;rw[z2v];exact hc
  | succ j=>simp at hj) (by intro u hu;simp at hu;subst hu;rfl) (by unfold maxLen;omega) (by omega) hbase
 have hkeep:∀{g' n' c':Nat}{t':List Td},q0x base (.slice (some ⟨g',0,none⟩) n' c') t' w->q0x base (.slice (some ⟨g',0,none⟩) n' c') t' w':=by
  intro g' n' c' t' hT';obtain⟨_,_,cur,hg'⟩:=q8u hT';refine z9o hT' (h4.block g' (Array.getElem?_eq_some_iff.1 hg').1 fun e=>?_);obtain⟨cur2,hg2⟩:=z9d h1 e.symm;rw[hg']at hg2;simp at hg2
 obtain⟨A,c',rfl⟩:∃A c',v'=.slice A (ps.length+1) c':=by
  rcases h3.2 with⟨hv,h0⟩|⟨g',c',cur,hv,_⟩
  ·omega
  ·exact⟨_,c',hv⟩
 refine z9k hgd s x 33 ho v _ _ w' hs hx hrun (h A c' w' ⟨hvs++[.slice (some ⟨g,0,none⟩) t.length c],?_,fun i hi=>?_⟩ h4)
 ·rw[List.length_append];exact h3
 ·have hl:=h1.1;rw[Nat.mul_one]at hl;by_cases e:i<ps.length
  ·obtain⟨g',c'',e1,e2⟩:=h2 i e;rw[List.getElem_append_left e];refine⟨g',c'',?_,hkeep e2⟩;rw[List.getElem?_append_left (by omega)];exact e1
  ·have hie:i=ps.length:=by simp at hi;omega
   subst hie;rw[List.getElem_append_right Zl];refine⟨g,c,?_,?_⟩
   ·rw[List.getElem?_append_right (by omega),hl];simp
   ·simp only[Nat.sub_self,List.getElem_cons_zero];exact hkeep hT
end Go.Proofs.YthjapabokcajhaaGreatDoor
