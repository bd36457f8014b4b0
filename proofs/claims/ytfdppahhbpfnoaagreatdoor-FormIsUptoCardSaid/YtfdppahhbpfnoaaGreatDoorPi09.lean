import Derived.Test.YtfdppahhbpfnoaaGreatDoorPi02
import Derived.Test.YtfdppahhbpfnoaaGreatDoorRows
import Derived.ChangeSame
import Derived.ChangeVars
import Derived.JoinedOf
import Derived.RowKit
import Derived.LaidLaws
import Derived.LaidHandle
import Derived.Stop.Joined
import Derived.Test.YtfdppahhbpfnoaaGreatDoorPi04
open Go.Proofs.Tryz
namespace Go.Proofs.YtfdppahhbpfnoaaGreatDoor
open Go Go.RowKit
set_option maxRecDepth 100000
set_option maxHeartbeats 1000000
def Hnd(w:World):Prop:=w.cell? ⟨0,0,none⟩=some (.iface 227 (.agg #[.pointer (some ⟨12,29,none⟩)]))
theorem Hnd.lt{w:World}(h:Hnd w):0<w.heap.size:=by
 unfold Hnd at h;rcases Nat.lt_or_ge 0 w.heap.size with A|A
 ·exact A
 ·simp[World.cell?,Array.getElem?_eq_none A]at h
theorem Hnd.W{w w':World}(h:Hnd w)(hb:Below w w w'):Hnd w':=((q1y hb).1 _ _ h.lt).trans h
theorem Hnd.alloc{w:World}(h:Hnd w)(o:Obj):Hnd (w.alloc o):=h.W (Zb.alloc Zl _)
theorem v5u(w:World):Calls prog 32 #[.nilIface] w fun e w'=>e=.returned (.int .i64 0)/\Below w w w':=by
 go_in;go_wp2;go_ret;exact⟨rfl,Below.refl _ _⟩
theorem v5t(n:Int)(w:World)(hg:Hnd w):Calls prog 32 #[.iface 23 (.int .i64 n)] w fun e w'=>e=.returned (.int .i64 n)/\Below w w w':=by
 have A:Hid (Hnd w):=hg;have B:=hg.lt;clear hg;go_in;go_wp2_with fail;refine(y3g n ⟨w,0,none⟩ (.int .i64 0) _ (A.o.alloc _) (by simp[go_sem]) (by simp[go_sem])).mono ?_;rintro e C⟨rfl,rfl⟩;go_wp2;go_ret;refine⟨rfl,?_⟩
 repeat (first|exact Below.refl _ _|refine Below.setCell ?_ (by simp) _|refine Below.alloc ?_ (by simp;try omega) _)
theorem v5s(n:Int)(w:World)(hg:Hnd w):Calls prog 32 #[q1v n] w fun e w'=>e=.returned (.int .i64 n)/\Below w w w':=by
 by_cases h:n=0
 ·subst h;exact v5u w
 ·have e:q1v n=.iface 23 (.int .i64 n):=by simp[q1v,h]
  rw[e];exact v5t n w hg
theorem q2o(n m:Int)(w:World)(hg:Hnd w):Calls prog 10 #[q1v n,.int .i64 m] w fun e w'=>e=.returned (.bool (n==m))/\Below w w w':=by
 have A:Hid (Hnd w):=hg;clear hg;go_in;go_wp2_with fail;refine(v5s n _ A.o).mono ?_;rintro e C⟨rfl,B⟩;go_wp2;go_ret;exact⟨rfl,B⟩
end Go.Proofs.YtfdppahhbpfnoaaGreatDoor
namespace Go.Proofs.YtfdppahhbpfnoaaGreatDoor
open Go.ChangeShapes Go.WideShapes Go.RowKit
theorem Tryz.own:ownKnob prog.godebug=none:=by kernel_rfl
theorem Tryz.et : prog.globalNamed "errors.errorType" = some 0 := by kernel_rfl
theorem Tryz.rt : (prog.cutTypes.find? (·.1 == "internal/reflectlite.rtype")).map (·.2) = some 227 := by kernel_rfl
theorem Tryz.oneRow:((List.range 371).filter fun t=>prog.rowNamed t [101,114,114,111,114])=[29]:=by kernel_rfl
theorem Tryz.size:prog.types.size=371:=by kernel_rfl
abbrev y0l : List (String × DataW Unit) := [("errors.errorType", Rows.laid_errors_errorType)]
theorem z5r{W:World}(h:laidMetH prog y0l W):Hnd W:=by
 have J:laidMet prog [] W/\handlesMet prog y0l W:=h;obtain⟨A,u,L,D,E,G,H,B⟩:=J.2 _ (List.mem_singleton.2 rfl);have I:A=[101,114,114,111,114]:=(Option.some.inj D).symm;subst I;obtain rfl:=Option.some.inj (Tryz.rt.symm.trans E);have C:L∈(List.range 371).filter fun t=>prog.rowNamed t [101,114,114,111,114]:=List.mem_filter.2 ⟨List.mem_range.2 (by rw[<-Tryz.size];exact G),H⟩
 rw[Tryz.oneRow]at C;obtain rfl:=List.mem_singleton.1 C;have K:typeHandle prog 29=.pointer (some ⟨12,29,none⟩):=by kernel_rfl
 rw[K]at B
 have:=World.var?_cell Tryz.et B 0
 simpa[Hnd]using this
def k0z(P:Program)(os:Os):World:=
 let w0:=World.holding P os ⟨#[],#[],[]⟩
 {w0 with heap:=w0.heap.modify 0 fun
   | .cells _ t frozen=>.cells #[.iface 227 (.agg #[.pointer (some ⟨12,29,none⟩)])] t frozen
   | o=>o}
end Go.Proofs.YtfdppahhbpfnoaaGreatDoor
namespace Go.Proofs.YtfdppahhbpfnoaaGreatDoor
open Go Go.Lib
def stp(wd:Int)(x:Int × Int × Int)(b:UInt8):Int × Int × Int:=
 if b=10 then(x.1,x.2.1+1,0)else(if wd<x.2.2+1 then x.1+1 else x.1,x.2.1,x.2.2+1)
def stL(wd:Int)(l:List UInt8):Int × Int × Int:=l.foldl (stp wd) (0,0,0)
theorem v5d(wd:Int)(l:List UInt8)(b:UInt8):stL wd (l++[b])=stp wd (stL wd l) b:=by simp[stL]
theorem y5i(wd:Int)(l:List UInt8):∀(x:Int × Int × Int),0<=x.1->0<=x.2.1->0<=x.2.2->
  (0<=(l.foldl (stp wd) x).1/\(l.foldl (stp wd) x).1<=x.1+l.length)/\(0<=(l.foldl (stp wd) x).2.1/\(l.foldl (stp wd) x).2.1<=x.2.1+l.length)/\(0<=(l.foldl (stp wd) x).2.2/\(l.foldl (stp wd) x).2.2<=x.2.2+l.length):=by
 induction l with
 | nil=>intro x D E G;simp;omega
 | cons b r ih=>
  intro x D E G;have e:(b::r).foldl (stp wd) x=r.foldl (stp wd) (stp wd x b):=rfl;rw[e]
  have A:0<=(stp wd x b).1/\(stp wd x b).1<=x.1+1/\0<=(stp wd x b).2.1/\(stp wd x b).2.1<=x.2.1+1/\0<=(stp wd x b).2.2/\(stp wd x b).2.2<=x.2.2+1:=by
   unfold stp;by_cases B:b=10
   ·simp only[B,if_true];omega
   ·simp only[B,if_false];by_cases C:wd<x.2.2+1
    ·simp only[C,if_true];omega
    ·simp only[C,if_false];omega
  have:=ih (stp wd x b) A.1 A.2.2.1 A.2.2.2.2.1
  simp only[List.length_cons];omega
theorem y5f(wd:Int)(l:List UInt8):(0<=(stL wd l).1/\(stL wd l).1<=l.length)/\(0<=(stL wd l).2.1/\(stL wd l).2.1<=l.length)/\(0<=(stL wd l).2.2/\(stL wd l).2.2<=l.length):=by
 have:=y5i wd l (0,0,0) (by simp) (by simp) (by simp)
 simpa[stL]using this
theorem j9q(s:ByteArray)(k:Nat)(h:k<s.size):s.data.toList.take (k+1)=s.data.toList.take k++[s[k]]:=by
 rw[List.take_succ_eq_append_getElem (by simpa using h)];rfl
end Go.Proofs.YtfdppahhbpfnoaaGreatDoor
namespace Go.Proofs.YtfdppahhbpfnoaaGreatDoor
theorem j3g(wd:Nat):∀(l:List UInt8)(o n:Int)(c:Nat),l.foldl (stp wd) (o,n,(c:Int))=(o+(q3a wd c l).1,n+(q3a wd c l).2.1,((q3a wd c l).2.2:Int))
 | [],o,n,c=>by simp[q3a]
 | b::r,o,n,c=>by
  have e3:(b::r).foldl (stp wd) (o,n,(c:Int))=r.foldl (stp wd) (stp wd (o,n,(c:Int)) b):=rfl;rw[e3];simp only[q3a];by_cases hb:b=10
  ·have e4:stp wd (o,n,(c:Int)) b=(o,n+1,((0:Nat):Int)):=by simp[stp,hb]
   rw[e4,j3g wd r,if_pos hb];simp only[Prod.mk.injEq,and_true,true_and];omega
  ·have e4:stp wd (o,n,(c:Int)) b=(o+(if wd<=c then 1 else 0:Nat),n,((c+1:Nat):Int)):=by
    by_cases h:wd<=c
    ·have A:(wd:Int)<(c:Int)+1:=by omega
     simp[stp,hb,h,A]
    ·have A:¬(wd:Int)<(c:Int)+1:=by omega
     simp[stp,hb,h,A]
   rw[e4,j3g wd r,if_neg hb];simp only[Prod.mk.injEq,and_true];omega
theorem v9r(wd:Nat)(l:List UInt8):stL wd l=(((q3a wd 0 l).1:Int),((q3a wd 0 l).2.1:Int),((q3a wd 0 l).2.2:Int)):=by
 have:=j3g wd l 0 0 0
 simpa[stL]using this
end Go.Proofs.YtfdppahhbpfnoaaGreatDoor
