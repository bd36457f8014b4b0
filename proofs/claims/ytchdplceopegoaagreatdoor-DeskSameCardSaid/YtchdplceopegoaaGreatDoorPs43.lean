/- Texts as one: SyK. -/
import Derived.Test.YtchdplceopegoaaGreatDoorPs42
import Derived.Recover
namespace Go.Proofs.YtchdplceopegoaaGreatDoor
open Go Go.RowKit
set_option maxRecDepth 100000
set_option maxHeartbeats 2000000
theorem k2z (a c d:Addr) (w:World):CallsD Tryz.prog 78 #[.pointer (some a),.pointer (some c),.pointer (some d)] .returning w fun e u' w'=>e = .returned (.tuple #[])∧u' = .returning∧Below w.heap.size w w':=by
 have hta:∀ W:World,(Instr.typeAssert .nilIface 20 156 true).run Tryz.prog W = .ok (.tuple #[.agg #[.int .i64 0],.bool false]) W:=fun W=>by kernel_rfl
 refine callsD_of_wpS Tryz.func78 rfl fun c₀ cs hu=>?_
 apply wpS_seq
 apply wpS_region
 simp [wpOpsS,go_sem,recoverD,hu,Tryz.ntmps78,Exit.thenS]
 refine wpS_of_wp ?_
 change Code.wp _ _ _ { tmps:=#[.pointer (some a),.pointer (some c),.pointer (some d),.nilIface,undef,undef,.nilIface,undef,undef,undef,undef,undef,undef,undef,undef,undef,undef,undef,undef],defers:=[] } _
 go_wp2
 refine ⟨rfl,.returning,?_,_,results_none rfl _ _ _,rfl,rfl,q1j w _⟩
 cases c₀
 simp_all
theorem z4a (ba bc bd:Nat) (k:Nat) (w:World) (va vc vd:Value) (ha:w.cell? ⟨ba,0,none⟩=some va) (hc:w.cell? ⟨bc,0,none⟩=some vc) (hd:w.cell? ⟨bd,0,none⟩=some vd) (fa:w.frozen? ⟨ba,0,none⟩=false) (fc:w.frozen? ⟨bc,0,none⟩=false) (fd:w.frozen? ⟨bd,0,none⟩=false) (la:ba<w.heap.size) (lc:bc<w.heap.size) (ld:bd<w.heap.size) (n1:¬ ba=bc) (n2:¬ ba=bd) (n3:¬ bc=bd) :
  CallsD Tryz.prog 78 #[.pointer (some ⟨ba,0,none⟩),.pointer (some ⟨bc,0,none⟩),.pointer (some ⟨bd,0,none⟩)] (.panicking [q4a k]) w fun e u' w'=>e = .returned (.tuple #[])∧u' = .panicking [{ v:=.iface 156 (.agg #[.int .i64 (k:Int)]),recovered:=true }]∧w'.cell? ⟨ba,0,none⟩=some (.slice none 0 0)∧w'.cell? ⟨bc,0,none⟩=some (.int .i64 (k:Int))∧w'.cell? ⟨bd,0,none⟩=some (.iface 24 (.int .i64 5))∧∀ B,B≤ba→B≤bc→B≤bd→Below B w w':=by
 have hta:∀ W:World,(Instr.typeAssert (.iface 156 (.agg #[.int .i64 (k:Int)])) 20 156 true).run Tryz.prog W = .ok (.tuple #[.agg #[.int .i64 (k:Int)],.bool true]) W:=fun W=>by kernel_rfl
 refine callsD_of_wpS Tryz.func78 rfl fun c₀ cs hu=>?_
 apply wpS_seq
 apply wpS_region
 simp [wpOpsS,go_sem,recoverD,hu,Tryz.ntmps78,Exit.thenS]
 refine wpS_of_wp ?_
 change Code.wp _ _ _ { tmps:=#[.pointer (some ⟨ba,0,none⟩),.pointer (some ⟨bc,0,none⟩),.pointer (some ⟨bd,0,none⟩),.iface 156 (.agg #[.int .i64 (k:Int)]),undef,undef,.iface 156 (.agg #[.int .i64 (k:Int)]),undef,undef,undef,undef,undef,undef,undef,undef,undef,undef,undef,undef],defers:=[] } _
 go_wp2_with fail
 go_region
 all_goals go_wp2
 generalize hW:((w.setCell ⟨ba,0,none⟩ (.slice none 0 0)).setCell ⟨bc,0,none⟩ (.int .i64 (k:Int))).setCell ⟨bd,0,none⟩ (.iface 24 (.int .i64 5))=W
 have hz:W.heap.size=w.heap.size:=by rw [←hW,World.size_setCell,World.size_setCell,World.size_setCell]
 have r1:W.cell? ⟨ba,0,none⟩=some (.slice none 0 0):=by
  rw [←hW];exact (cso (.inl (Ne.symm n2))).trans ((cso (.inl (Ne.symm n1))).trans (css ha))
 have r2:W.cell? ⟨bc,0,none⟩=some (.int .i64 (k:Int)):=by
  rw [←hW];exact (cso (.inl (Ne.symm n3))).trans (css ((cso (.inl n1)).trans hc))
 have r3:W.cell? ⟨bd,0,none⟩=some (.iface 24 (.int .i64 5)):=by
  rw [←hW];exact css ((cso (.inl n3)).trans ((cso (.inl n2)).trans hd))
 have r4:∀ B,B≤ba→B≤bc→B≤bd→Below B w W:=fun B h1 h2 h3=>by
  rw [←hW]
  exact (((Below.refl B w).setCell (p:=⟨ba,0,none⟩) h1 _).setCell (p:=⟨bc,0,none⟩) h2 _).setCell (p:=⟨bd,0,none⟩) h3 _
 clear hW
 have hb:=z1u W (.cells #[.int .i64 (k:Int)] 156)
 obtain ⟨bc1,_⟩:=q0w hb
 refine ⟨rfl,_,rfl,_,results_none rfl _ _ _,rfl,rfl,(bc1 _ _ (by omega)).trans r1,(bc1 _ _ (by omega)).trans r2,(bc1 _ _ (by omega)).trans r3,fun B h1 h2 h3=>(r4 B h1 h2 h3).trans (hb.mono (by omega))⟩
end Go.Proofs.YtchdplceopegoaaGreatDoor
