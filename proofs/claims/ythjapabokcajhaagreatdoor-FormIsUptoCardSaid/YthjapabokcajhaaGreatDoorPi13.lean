/- Texts as one: Sk2, Sk3. -/
import Derived.Test.YthjapabokcajhaaGreatDoorPi12
import Derived.Deep.DeepFit
open Go.Proofs.Tryz
namespace Go.Proofs.YthjapabokcajhaaGreatDoor
open Go Go.RowKit
set_option maxRecDepth 100000
set_option maxHeartbeats 8000000
theorem k8z{w w':World}{m:Nat}(hg:w.grownBy w' (some m)):q0u w m w w':=
 ⟨hg.os,hg.tape,hg.output,hg.size,fun k hk hne=>hg.block k hk (by intro e;exact hne (Option.some.inj e))⟩
structure SkB(w w2:World)(i c:Nat)(k:Cv):Prop where
 a0:w2.cell? ⟨w.heap.size,0,none⟩=some (.int .i64 i)
 a1:w2.cell? ⟨w.heap.size,1,none⟩=some (.int .i64 c)
 r0:w2.cell? ⟨w.heap.size+1,0,none⟩=some (.int .i64 0)
 r1:w2.cell? ⟨w.heap.size+1,1,none⟩=some (.int .i64 0)
 r2:w2.cell? ⟨w.heap.size+1,2,none⟩=some (.int .i64 0)
 r3:w2.cell? ⟨w.heap.size+1,3,none⟩=some (.int .i64 0)
 r4:w2.cell? ⟨w.heap.size+1,4,none⟩=some (.int .i64 0)
 t0:w2.cell? ⟨w.heap.size+1+1,0,none⟩=some (.int .i64 k.o)
 t1:w2.cell? ⟨w.heap.size+1+1,1,none⟩=some (.int .i64 k.l)
 t2:w2.cell? ⟨w.heap.size+1+1,2,none⟩=some (.int .i64 k.ch)
 t3:w2.cell? ⟨w.heap.size+1+1,3,none⟩=some (.int .i64 k.np)
 t4:w2.cell? ⟨w.heap.size+1+1,4,none⟩=some (.int .i64 k.nc)
 fr:q7p w2 (w.heap.size+1)
 ft:q7p w2 (w.heap.size+1+1)
theorem SkB.kept{w w2 w3:World}{i c m:Nat}{k:Cv}(h:SkB w w2 i c k)(hb:q0u w2 m w2 w3)(hm:m<w.heap.size):SkB w w3 i c k:=by
 have hlt:=h.ft.lt;have hc:∀b o v,b=w.heap.size\/b=w.heap.size+1\/b=w.heap.size+1+1->w2.cell? ⟨b,o,none⟩=some v->w3.cell? ⟨b,o,none⟩=some v:=fun b o v he hv=>(hb.cell (p:=⟨b,o,none⟩) (by simp;omega) (by simp;omega)).trans hv
 exact⟨hc _ _ _ (.inl rfl) h.a0,hc _ _ _ (.inl rfl) h.a1,hc _ _ _ (.inr (.inl rfl)) h.r0,hc _ _ _ (.inr (.inl rfl)) h.r1,hc _ _ _ (.inr (.inl rfl)) h.r2,hc _ _ _ (.inr (.inl rfl)) h.r3,hc _ _ _ (.inr (.inl rfl)) h.r4,
  hc _ _ _ (.inr (.inr rfl)) h.t0,hc _ _ _ (.inr (.inr rfl)) h.t1,hc _ _ _ (.inr (.inr rfl)) h.t2,hc _ _ _ (.inr (.inr rfl)) h.t3,hc _ _ _ (.inr (.inr rfl)) h.t4,h.fr.kept (hb.block _ (by omega) (by omega)),h.ft.kept (hb.block _ (by omega) (by omega))⟩
theorem y5j{sb g mb wd i c:Nat}{R:List Pl}{S:Nat->Nat->Bool}{w w1:World}(h:Sk1 sb g mb wd i c R S w w1):SkB w (w1.alloc (.cells #[.int .i64 0,.int .i64 0,.int .i64 0,.int .i64 0,.int .i64 0] 174)).drew i c zCv:=by
 have n1:=heap_alloc_new w1 (.cells #[.int .i64 0,.int .i64 0,.int .i64 0,.int .i64 0,.int .i64 0] 174);rw[h.sz]at n1;have hc:∀o v,(w1.alloc (.cells #[.int .i64 0,.int .i64 0,.int .i64 0,.int .i64 0,.int .i64 0] 174)).cell? ⟨w.heap.size+1+1,o,none⟩=v->(w1.alloc (.cells #[.int .i64 0,.int .i64 0,.int .i64 0,.int .i64 0,.int .i64 0] 174)).drew.cell? ⟨w.heap.size+1+1,o,none⟩=v:=fun _ _ h=>h
 refine⟨ka h.a0 _,ka h.a1 _,ka h.r0 _,ka h.r1 _,ka h.r2 _,ka h.r3 _,ka h.r4 _,hc _ _ ?_,hc _ _ ?_,hc _ _ ?_,hc _ _ ?_,hc _ _ ?_,h.fr.kept (Below.heap_alloc _ _ _ h.fr.lt),⟨_,_,n1⟩⟩
 all_goals simp[World.cell?,n1,zCv]
theorem SkB.put{w w2:World}{i c:Nat}{k k':Cv}(h:SkB w w2 i c k):SkB w (((((w2.setCell ⟨w.heap.size+1+1,0,none⟩ (.int .i64 k'.o)).setCell ⟨w.heap.size+1+1,1,none⟩ (.int .i64 k'.l)).setCell ⟨w.heap.size+1+1,2,none⟩ (.int .i64 k'.ch)).setCell ⟨w.heap.size+1+1,3,none⟩ (.int .i64 k'.np)).setCell ⟨w.heap.size+1+1,4,none⟩ (.int .i64 k'.nc)) i c k':=by
 have hc:∀b o v v0 v1 v2 v3 v4,b≠w.heap.size+1+1->w2.cell? ⟨b,o,none⟩=some v->(((((w2.setCell ⟨w.heap.size+1+1,0,none⟩ v0).setCell ⟨w.heap.size+1+1,1,none⟩ v1).setCell ⟨w.heap.size+1+1,2,none⟩ v2).setCell ⟨w.heap.size+1+1,3,none⟩ v3).setCell ⟨w.heap.size+1+1,4,none⟩ v4).cell? ⟨b,o,none⟩=some v:=
  fun b o v v0 v1 v2 v3 v4 hb hv=>(cso (.inl hb.symm)).trans ((cso (.inl hb.symm)).trans ((cso (.inl hb.symm)).trans ((cso (.inl hb.symm)).trans ((cso (.inl hb.symm)).trans hv))))
 have t0:=h.t0;have t1:=h.t1;have t2:=h.t2;have t3:=h.t3;have t4:=h.t4;refine⟨hc _ _ _ _ _ _ _ _ (by omega) h.a0,hc _ _ _ _ _ _ _ _ (by omega) h.a1,hc _ _ _ _ _ _ _ _ (by omega) h.r0,hc _ _ _ _ _ _ _ _ (by omega) h.r1,hc _ _ _ _ _ _ _ _ (by omega) h.r2,hc _ _ _ _ _ _ _ _ (by omega) h.r3,hc _ _ _ _ _ _ _ _ (by omega) h.r4,?_,?_,?_,?_,?_,?_,?_⟩
 ·exact(cso (by omega)).trans ((cso (by omega)).trans ((cso (by omega)).trans ((cso (by omega)).trans (css t0))))
 ·exact(cso (by omega)).trans ((cso (by omega)).trans ((cso (by omega)).trans (css ((cso (by omega)).trans t1))))
 ·exact(cso (by omega)).trans ((cso (by omega)).trans (css ((cso (by omega)).trans ((cso (by omega)).trans t2))))
 ·exact(cso (by omega)).trans (css ((cso (by omega)).trans ((cso (by omega)).trans ((cso (by omega)).trans t3))))
 ·exact css ((cso (by omega)).trans ((cso (by omega)).trans ((cso (by omega)).trans ((cso (by omega)).trans t4))))
 ·exact h.fr.set.set.set.set.set
 ·exact h.ft.set.set.set.set.set
theorem v4k(sb g mb wd i c:Nat)(R:List Pl)(hi:i<R.length)(hR:R.length<=400)(hc:c<=100)(hcw:c<=wd)(hCH:k2w sb g mb wd R i c)(w:World)(S:Nat->Nat->Bool)(h:Inv sb g mb wd R w S)(hS:S i c=false):
  Calls prog 109 #[.pointer (some ⟨sb,0,none⟩),.agg #[.int .i64 i,.int .i64 c]] w fun e w'=>e=.returned (cvV (crs R wd i c))/\Left sb g mb wd R S i i c w w':=by
 have c0:=h.pl.c0;have H:Hid (Inv sb g mb wd R w S):=h;have HCH:Hid (k2w sb g mb wd R i c):=hCH;have hlt:=h.lt;have hne:((i:Int)==(R.length:Int))=false:=beq_eq_false_iff_ne.2 (by omega);have c0':∀O1 O2,((w.alloc O1).alloc O2).cell? ⟨sb,0,none⟩=some (.slice (some ⟨g,0,none⟩) R.length R.length):=fun O1 O2=>ka (ka c0 O1) O2
 have HS:Hid (S i c=false):=hS
 have HLK:Hid (∀W,Mem W mb (crs R wd) S->(Instr.lookup 168 (.map (some mb)) (.agg #[.int .i64 (i:Int),.int .i64 (c:Int)]) true).run prog W=.ok (.tuple #[.agg #[.int .i64 0,.int .i64 0,.int .i64 0,.int .i64 0,.int .i64 0],.bool false]) W):=fun W hW=>by
  have:=hW.look_ok (p:=i) (c:=c) (by omega) hc
  rw[HS.o,if_neg (by simp)]at this;exact this
 rw[cvV];clear h c0 hS hCH;go_in;go_wp2_with fail
 go_quiet (fail)
 go_wp2_with fail;have hsk:=z7e (i:=i) (c:=c) (nq:=nq) H.o
 generalize((w.alloc (.cells #[.int .i64 i,.int .i64 c] 172)).alloc (.cells #[.int .i64 0,.int .i64 0,.int .i64 0,.int .i64 0,.int .i64 0] 174)).drewN nq=w1 at *
 have HK:Hid (Sk1 sb g mb wd i c R S w w1):=hsk;have c2:=hsk.inv.c2;obtain⟨_,hsz,a0,a1,_,_,_,_,_,_,_⟩:=hsk;have hL0:=HLK.o w1.drew (HK.o.inv.me.kept rfl);have hL1:=fun O=>HLK.o (w1.alloc O).drew ((HK.o.inv.alloc O).me.kept rfl)
 have a0':=fun O=>ka a0 O
 have a1':=fun O=>ka a1 O
 clear c0'
 go_region_held3 (fun w'=>w'.cell? ⟨sb,2,none⟩=some (.map (some mb))/\w'.cell? ⟨w.heap.size,0,none⟩=some (.int .i64 i)/\w'.cell? ⟨w.heap.size,1,none⟩=some (.int .i64 c)/\(Instr.lookup 168 (.map (some mb)) (.agg #[.int .i64 (i:Int),.int .i64 (c:Int)]) true).run prog w'=.ok (.tuple #[.agg #[.int .i64 0,.int .i64 0,.int .i64 0,.int .i64 0,.int .i64 0],.bool false]) w')
  (first|exact⟨c2,a0,a1,hL0⟩|exact⟨ka c2 _,ka a0 _,ka a1 _,hL1 _⟩) (fail)
 all_goals
  go_wp2_with fail;refine(HCH.o (w1.alloc (.cells #[.int .i64 0,.int .i64 0,.int .i64 0,.int .i64 0,.int .i64 0] 174)).drew S ((HK.o.inv.alloc _).kept fun _ _=>rfl)).mono ?_;rintro e w2⟨rfl,hL⟩;obtain⟨hbx,S',hI,hmo,hlo,hin⟩:=hL;have hB:=(y5j HK.o).kept hbx hlt.2.2;have HBX:Hid (q0u w mb w w2):=((q0u.of (HK.o.bw.alloc HK.o.bw.size _)).drew).trans (hbx.mono (by show w.heap.size<=(w1.alloc _).heap.size;simp;omega));have HSB:Hid (SkB w w2 i c zCv):=hB;obtain⟨_,_,_,_,_,_,_,t0,t1,t2,t3,t4,_,ft⟩:=hB;have y0:w2.frozen? ⟨w.heap.size+1+1,0,none⟩=false:=ft.frozen;have y1:w2.frozen? ⟨w.heap.size+1+1,1,none⟩=false:=ft.frozen;have y2:w2.frozen? ⟨w.heap.size+1+1,2,none⟩=false:=ft.frozen;have y3:w2.frozen? ⟨w.heap.size+1+1,3,none⟩=false:=ft.frozen;have y4:w2.frozen? ⟨w.heap.size+1+1,4,none⟩=false:=ft.frozen;have HI:Hid (Inv sb g mb wd R w2 S'):=hI;have HM:Hid ((∀a b,S a b=true->S' a b=true)/\(∀a b,S' a b=true->S a b=true\/i+1<=a)/\((crs R wd i c).np<R.length->S' (crs R wd i c).np (crs R wd i c).nc=true)):=⟨hmo,hlo,hin⟩;rw[cvV];have HSB3:Hid (SkB w (((((w2.setCell ⟨w.heap.size+1+1,0,none⟩ (.int .i64 (crs R wd i c).o)).setCell ⟨w.heap.size+1+1,1,none⟩ (.int .i64 (crs R wd i c).l)).setCell ⟨w.heap.size+1+1,2,none⟩ (.int .i64 (crs R wd i c).ch)).setCell ⟨w.heap.size+1+1,3,none⟩ (.int .i64 (crs R wd i c).np)).setCell ⟨w.heap.size+1+1,4,none⟩ (.int .i64 (crs R wd i c).nc)) i c (crs R wd i c)):=HSB.o.put;have HI3:Hid (Inv sb g mb wd R (((((w2.setCell ⟨w.heap.size+1+1,0,none⟩ (.int .i64 (crs R wd i c).o)).setCell ⟨w.heap.size+1+1,1,none⟩ (.int .i64 (crs R wd i c).l)).setCell ⟨w.heap.size+1+1,2,none⟩ (.int .i64 (crs R wd i c).ch)).setCell ⟨w.heap.size+1+1,3,none⟩ (.int .i64 (crs R wd i c).np)).setCell ⟨w.heap.size+1+1,4,none⟩ (.int .i64 (crs R wd i c).nc)) S'):=HI.o.set5 (by omega) (by omega) (by omega) _ _ _ _ _;have HBX3:Hid (q0u w mb w (((((w2.setCell ⟨w.heap.size+1+1,0,none⟩ (.int .i64 (crs R wd i c).o)).setCell ⟨w.heap.size+1+1,1,none⟩ (.int .i64 (crs R wd i c).l)).setCell ⟨w.heap.size+1+1,2,none⟩ (.int .i64 (crs R wd i c).ch)).setCell ⟨w.heap.size+1+1,3,none⟩ (.int .i64 (crs R wd i c).np)).setCell ⟨w.heap.size+1+1,4,none⟩ (.int .i64 (crs R wd i c).nc))):=k3c HBX.o (by omega) _ _ _ _ _;clear hbx hI hmo hlo hin ft c2 a0 a1 hL0 hL1 a0' a1';go_wp2_with fail;clear t0 t1 t2 t3 t4 y0 y1 y2 y3 y4 HI HBX HSB
  generalize((((w2.setCell ⟨w.heap.size+1+1,0,none⟩ (.int .i64 (crs R wd i c).o)).setCell ⟨w.heap.size+1+1,1,none⟩ (.int .i64 (crs R wd i c).l)).setCell ⟨w.heap.size+1+1,2,none⟩ (.int .i64 (crs R wd i c).ch)).setCell ⟨w.heap.size+1+1,3,none⟩ (.int .i64 (crs R wd i c).np)).setCell ⟨w.heap.size+1+1,4,none⟩ (.int .i64 (crs R wd i c).nc)=w3 at *
  have hS':S' i c=false:=by
   cases e:S' i c with
   | false=>rfl
   | true=>
    rcases HM.o.2.1 i c e with e2|e2
    ·rw[HS.o]at e2;cases e2
    ·omega
  obtain⟨w4,hrun,hm4,hg4⟩:=Mem.store (w:=w3.drew) (p:=i) (c:=c) (HI3.o.me.kept rfl) (by omega) hc hS';have hbx4:q0u w3 mb w3 w4:=⟨hg4.os,hg4.tape,hg4.output,hg4.size,(k8z hg4).block⟩;have HSB4:Hid (SkB w w4 i c (crs R wd i c)):=HSB3.o.kept hbx4 hlt.2.2;have HI4:Hid (Inv sb g mb wd R w4 (z9u S' i c)):=Inv.more (w:=w3.drew) (HI3.o.kept fun _ _=>rfl) hg4 hm4 hi hcw HM.o.2.2;have HBX4:Hid (q0u w mb w w4):=HBX3.o.trans (hbx4.mono HBX3.o.size);have c2:=HI3.o.c2;have c24:=HI4.o.c2;obtain⟨a0,a1,_,_,_,_,_,t0,t1,t2,t3,t4,_,_⟩:=HSB3.o;obtain⟨b0,b1,r0,r1,r2,r3,r4,u0,u1,u2,u3,u4,fr,_⟩:=HSB4.o;have y0:w4.frozen? ⟨w.heap.size+1,0,none⟩=false:=fr.frozen;have y1:w4.frozen? ⟨w.heap.size+1,1,none⟩=false:=fr.frozen;have y2:w4.frozen? ⟨w.heap.size+1,2,none⟩=false:=fr.frozen;have y3:w4.frozen? ⟨w.heap.size+1,3,none⟩=false:=fr.frozen;have y4:w4.frozen? ⟨w.heap.size+1,4,none⟩=false:=fr.frozen;rw[cvV]at hrun;clear hm4 hg4 hbx4 fr HSB3 HI3 HBX3 hS'
  go_region_held3 (fun w'=>w'.cell? ⟨sb,2,none⟩=some (.map (some mb))/\w'.cell? ⟨w.heap.size,0,none⟩=some (.int .i64 i)/\w'.cell? ⟨w.heap.size,1,none⟩=some (.int .i64 c)/\w'.cell? ⟨w.heap.size+1+1,0,none⟩=some (.int .i64 (crs R wd i c).o)/\w'.cell? ⟨w.heap.size+1+1,1,none⟩=some (.int .i64 (crs R wd i c).l)/\w'.cell? ⟨w.heap.size+1+1,2,none⟩=some (.int .i64 (crs R wd i c).ch)/\w'.cell? ⟨w.heap.size+1+1,3,none⟩=some (.int .i64 (crs R wd i c).np)/\w'.cell? ⟨w.heap.size+1+1,4,none⟩=some (.int .i64 (crs R wd i c).nc))
   (first|exact⟨c2,a0,a1,t0,t1,t2,t3,t4⟩|exact⟨c24,b0,b1,u0,u1,u2,u3,u4⟩) (fail)
  all_goals
   go_wp2;refine bodyPost_ret (v:=.agg #[.int .i64 (crs R wd i c).o,.int .i64 (crs R wd i c).l,.int .i64 (crs R wd i c).ch,.int .i64 (crs R wd i c).np,.int .i64 (crs R wd i c).nc]) (by simp[results,Tryz.results109,go_sem,r0,r1,r2,r3,r4]) rfl ⟨rfl,k3c HBX4.o (by omega) _ _ _ _ _,z9u S' i c,HI4.o.set5 (by omega) (by omega) (by omega) _ _ _ _ _,fun a b hab=>?_,fun a b hab=>?_,fun _=>by simp[z9u]⟩
   ·simp[z9u,HM.o.1 a b hab]
   ·simp only[z9u,Bool.or_eq_true,Bool.and_eq_true,decide_eq_true_eq]at hab;rcases hab with hab|hab
    ·rcases HM.o.2.1 a b hab with h|h
     ·exact .inl h
     ·exact .inr (by omega)
    ·exact .inr (by omega)
theorem v4j(sb g mb wd i c:Nat)(R:List Pl)(hi:i<R.length)(hR:R.length<=400)(hw:wd<=100)(hcw:c<=wd)(hCH:k2w sb g mb wd R i c):j1g sb g mb wd R i c:=by
 intro w S h;rw[if_pos hi];cases hS:S i c with
 | true=>exact k9z sb g mb wd i c R hi hR (by omega) w S h hS
 | false=>exact v4k sb g mb wd i c R hi hR (by omega) hcw hCH w S h hS
end Go.Proofs.YthjapabokcajhaaGreatDoor
namespace Go.Proofs.YthjapabokcajhaaGreatDoor
open Go Go.RowKit
set_option maxRecDepth 100000
set_option maxHeartbeats 8000000
theorem j3n(a b c d e:Value)(w:World):(Instr.field 174 (.agg #[a,b,c,d,e]) 0).run prog w=.ok (.agg #[a,b]) w:=by kernel_rfl
theorem k3o(a b c d e:Value)(w:World):(Instr.field 174 (.agg #[a,b,c,d,e]) 1).run prog w=.ok c w:=by kernel_rfl
theorem j3o(a b c d e:Value)(w:World):(Instr.field 174 (.agg #[a,b,c,d,e]) 2).run prog w=.ok (.agg #[d,e]) w:=by kernel_rfl
structure TkB(w1 wx:World)(b b7 b8:Nat)(m:Mv):Prop where
 p0:wx.cell? ⟨b7,0,none⟩=some (.int .i64 m.np)
 p1:wx.cell? ⟨b7,1,none⟩=some (.int .i64 m.nc)
 o0:wx.cell? ⟨b8,0,none⟩=some (.int .i64 m.o)
 o1:wx.cell? ⟨b8,1,none⟩=some (.int .i64 m.l)
 n7:b<b7
 n8:b<b8
 bw:Below (b+1) w1 wx
theorem q1r{w1 w2:World}{n:Nat}(h:Below n w1 w2)(hn:n<=w1.heap.size)(O:Obj):Below n w1 (w2.alloc O):=h.alloc (Nat.le_trans hn h.size) O
section
variable {w1 w2:World} {b:Nat} {m:Mv} {T7 T8:TypeId}
theorem y8o(h:Below (b+1) w1 w2)(hb:b+1=w1.heap.size):TkB w1 ((w2.alloc (.cells #[.int .i64 m.np,.int .i64 m.nc] T7)).alloc (.cells #[.int .i64 m.o,.int .i64 m.l] T8)) b w2.heap.size (w2.heap.size+1) m:=
 have hs:=h.size
 ⟨by simp[go_sem],by simp[go_sem],by simp[go_sem],by simp[go_sem],by omega,by omega,q1r (q1r h (by omega) _) (by omega) _⟩
theorem y8p(h:Below (b+1) w1 w2)(hb:b+1=w1.heap.size):TkB w1 ((w2.alloc (.cells #[.int .i64 m.o,.int .i64 m.l] T8)).alloc (.cells #[.int .i64 m.np,.int .i64 m.nc] T7)) b (w2.heap.size+1) w2.heap.size m:=
 have hs:=h.size
 ⟨by simp[go_sem],by simp[go_sem],by simp[go_sem],by simp[go_sem],by omega,by omega,q1r (q1r h (by omega) _) (by omega) _⟩
theorem z5g{W:World}{a:Nat}{u0 u1 v0 v1:Value}(h0:W.cell? ⟨a,0,none⟩=some u0)(h1:W.cell? ⟨a,1,none⟩=some u1):((W.setCell ⟨a,0,none⟩ v0).setCell ⟨a,1,none⟩ v1).cell? ⟨a,0,none⟩=some v0/\((W.setCell ⟨a,0,none⟩ v0).setCell ⟨a,1,none⟩ v1).cell? ⟨a,1,none⟩=some v1:=
 ⟨(cso (by omega)).trans (css h0),css ((cso (by omega)).trans h1)⟩
theorem q4w{n a:Nat}{v0 v1:Value}(h:Below n w1 w2)(hn:n<=a):Below n w1 ((w2.setCell ⟨a,0,none⟩ v0).setCell ⟨a,1,none⟩ v1):=(h.setCell (p:=⟨a,0,none⟩) hn _).setCell (p:=⟨a,1,none⟩) hn _
theorem z6m{W:World}{a d:Nat}{u0 u1 s0 s1 v0 v1 t0 t1:Value}(had:a≠d)(h0:W.cell? ⟨a,0,none⟩=some u0)(h1:W.cell? ⟨a,1,none⟩=some u1)(k0:W.cell? ⟨d,0,none⟩=some s0)(k1:W.cell? ⟨d,1,none⟩=some s1):
  ((((W.setCell ⟨a,0,none⟩ v0).setCell ⟨a,1,none⟩ v1).setCell ⟨d,0,none⟩ t0).setCell ⟨d,1,none⟩ t1).cell? ⟨a,0,none⟩=some v0/\((((W.setCell ⟨a,0,none⟩ v0).setCell ⟨a,1,none⟩ v1).setCell ⟨d,0,none⟩ t0).setCell ⟨d,1,none⟩ t1).cell? ⟨a,1,none⟩=some v1/\((((W.setCell ⟨a,0,none⟩ v0).setCell ⟨a,1,none⟩ v1).setCell ⟨d,0,none⟩ t0).setCell ⟨d,1,none⟩ t1).cell? ⟨d,0,none⟩=some t0/\((((W.setCell ⟨a,0,none⟩ v0).setCell ⟨a,1,none⟩ v1).setCell ⟨d,0,none⟩ t0).setCell ⟨d,1,none⟩ t1).cell? ⟨d,1,none⟩=some t1:=by
 obtain⟨e0,e1⟩:=z5g (v0:=v0) (v1:=v1) h0 h1;obtain⟨e2,e3⟩:=z5g (W:=(W.setCell ⟨a,0,none⟩ v0).setCell ⟨a,1,none⟩ v1) (v0:=t0) (v1:=t1) ((cso (.inl had)).trans ((cso (.inl had)).trans k0)) ((cso (.inl had)).trans ((cso (.inl had)).trans k1));exact⟨(cso (.inl had.symm)).trans ((cso (.inl had.symm)).trans e0),(cso (.inl had.symm)).trans ((cso (.inl had.symm)).trans e1),e2,e3⟩
theorem y8q{u0 u1:Value}(h:Below (b+1) w1 w2)(hb:b+1=w1.heap.size)(x0:w2.cell? ⟨b+1,0,none⟩=some u0)(x1:w2.cell? ⟨b+1,1,none⟩=some u1):
  TkB w1 (((((w2.alloc (.cells #[.int .i64 0,.int .i64 0] T8)).setCell ⟨b+1,0,none⟩ (.int .i64 m.np)).setCell ⟨b+1,1,none⟩ (.int .i64 m.nc)).setCell ⟨w2.heap.size,0,none⟩ (.int .i64 m.o)).setCell ⟨w2.heap.size,1,none⟩ (.int .i64 m.l)) b (b+1) w2.heap.size m:=by
 have hlt:=World.block_lt_of_cell? w2 ⟨b+1,0,none⟩ x0;have hlt':b+1<w2.heap.size:=hlt;obtain⟨e0,e1,e2,e3⟩:=z6m (W:=w2.alloc (.cells #[.int .i64 0,.int .i64 0] T8)) (a:=b+1) (d:=w2.heap.size) (s0:=.int .i64 0) (s1:=.int .i64 0) (v0:=.int .i64 m.np) (v1:=.int .i64 m.nc) (t0:=.int .i64 m.o) (t1:=.int .i64 m.l) (by omega) (ka x0 _) (ka x1 _) (by simp[go_sem]) (by simp[go_sem]);exact⟨e0,e1,e2,e3,by omega,by omega,q4w (q4w (q1r h (by omega) _) (by omega)) (by omega)⟩
theorem y8r{u0 u1:Value}(h:Below (b+1) w1 w2)(hb:b+1=w1.heap.size)(x0:w2.cell? ⟨b+1,0,none⟩=some u0)(x1:w2.cell? ⟨b+1,1,none⟩=some u1):
  TkB w1 (((w2.alloc (.cells #[.int .i64 m.np,.int .i64 m.nc] T7)).setCell ⟨b+1,0,none⟩ (.int .i64 m.o)).setCell ⟨b+1,1,none⟩ (.int .i64 m.l)) b w2.heap.size (b+1) m:=by
 have hlt:=World.block_lt_of_cell? w2 ⟨b+1,0,none⟩ x0;have hlt':b+1<w2.heap.size:=hlt;obtain⟨e2,e3⟩:=z5g (W:=w2.alloc (.cells #[.int .i64 m.np,.int .i64 m.nc] T7)) (v0:=.int .i64 m.o) (v1:=.int .i64 m.l) (ka x0 _) (ka x1 _);exact⟨(cso (by omega)).trans ((cso (by omega)).trans (by simp[go_sem])),(cso (by omega)).trans ((cso (by omega)).trans (by simp[go_sem])),e2,e3,by omega,by omega,q4w (q1r h (by omega) _) (by omega)⟩
theorem y9a{a d:Nat}{u0 u1 s0 s1:Value}(h:Below (b+1) w1 w2)(had:a≠d)(ha:b<a)(hd:b<d)(h0:w2.cell? ⟨a,0,none⟩=some u0)(h1:w2.cell? ⟨a,1,none⟩=some u1)(k0:w2.cell? ⟨d,0,none⟩=some s0)(k1:w2.cell? ⟨d,1,none⟩=some s1):
  TkB w1 ((((w2.setCell ⟨a,0,none⟩ (.int .i64 m.np)).setCell ⟨a,1,none⟩ (.int .i64 m.nc)).setCell ⟨d,0,none⟩ (.int .i64 m.o)).setCell ⟨d,1,none⟩ (.int .i64 m.l)) b a d m:=by
 obtain⟨e0,e1,e2,e3⟩:=z6m (v0:=.int .i64 m.np) (v1:=.int .i64 m.nc) (t0:=.int .i64 m.o) (t1:=.int .i64 m.l) had h0 h1 k0 k1;exact⟨e0,e1,e2,e3,ha,hd,q4w (q4w h (by omega)) (by omega)⟩
end
theorem k5r{W:World}{b b' o:Nat}{v v0 v1 v2 v3 v4:Value}(hb:b≠b')(h:W.cell? ⟨b,o,none⟩=some v):(((((W.setCell ⟨b',0,none⟩ v0).setCell ⟨b',1,none⟩ v1).setCell ⟨b',2,none⟩ v2).setCell ⟨b',3,none⟩ v3).setCell ⟨b',4,none⟩ v4).cell? ⟨b,o,none⟩=some v:=
 (cso (.inl hb.symm)).trans ((cso (.inl hb.symm)).trans ((cso (.inl hb.symm)).trans ((cso (.inl hb.symm)).trans ((cso (.inl hb.symm)).trans h))))
structure TkF(w wx:World)(b7 b8:Nat)(m:Mv):Prop where
 p0:wx.cell? ⟨b7,0,none⟩=some (.int .i64 m.np)
 p1:wx.cell? ⟨b7,1,none⟩=some (.int .i64 m.nc)
 o0:wx.cell? ⟨b8,0,none⟩=some (.int .i64 m.o)
 o1:wx.cell? ⟨b8,1,none⟩=some (.int .i64 m.l)
 r0:wx.cell? ⟨w.heap.size+1,0,none⟩=some (.int .i64 0)
 r1:wx.cell? ⟨w.heap.size+1,1,none⟩=some (.int .i64 0)
 r2:wx.cell? ⟨w.heap.size+1,2,none⟩=some (.int .i64 0)
 r3:wx.cell? ⟨w.heap.size+1,3,none⟩=some (.int .i64 0)
 r4:wx.cell? ⟨w.heap.size+1,4,none⟩=some (.int .i64 0)
 fr:q7p wx (w.heap.size+1)
 n7:w.heap.size+1<b7
 n8:w.heap.size+1<b8
theorem TkF.kept{w wx wy:World}{b7 b8 mb:Nat}{m:Mv}(h:TkF w wx b7 b8 m)(hb:q0u wx mb wx wy)(hm:mb<w.heap.size):TkF w wy b7 b8 m:=by
 have h7:=h.n7;have h8:=h.n8;have hc:∀b o v,b≠mb->wx.cell? ⟨b,o,none⟩=some v->wy.cell? ⟨b,o,none⟩=some v:=fun b o v he hv=>(hb.cell (p:=⟨b,o,none⟩) (World.block_lt_of_cell? wx ⟨b,o,none⟩ hv) he).trans hv
 exact⟨hc _ _ _ (by omega) h.p0,hc _ _ _ (by omega) h.p1,hc _ _ _ (by omega) h.o0,hc _ _ _ (by omega) h.o1,hc _ _ _ (by omega) h.r0,hc _ _ _ (by omega) h.r1,hc _ _ _ (by omega) h.r2,hc _ _ _ (by omega) h.r3,hc _ _ _ (by omega) h.r4,h.fr.kept (hb.block _ h.fr.lt (by omega)),h7,h8⟩
theorem y5t{sb g mb wd i c b7 b8:Nat}{R:List Pl}{S:Nat->Nat->Bool}{w w1 wx:World}{m:Mv}(h:Sk1 sb g mb wd i c R S w w1)(hT:TkB w1 wx (w.heap.size+1) b7 b8 m):TkF w wx b7 b8 m:=by
 have hc:∀o v,w1.cell? ⟨w.heap.size+1,o,none⟩=some v->wx.cell? ⟨w.heap.size+1,o,none⟩=some v:=fun o v hv=>(hT.bw.cell (p:=⟨w.heap.size+1,o,none⟩) (by simp)).trans hv
 exact⟨hT.p0,hT.p1,hT.o0,hT.o1,hc _ _ h.r0,hc _ _ h.r1,hc _ _ h.r2,hc _ _ h.r3,hc _ _ h.r4,h.fr.kept (hT.bw.block _ (by omega)),hT.n7,hT.n8⟩
theorem v5g{R:List Pl}{L M i nx dp wd c ch:Nat}{ks:List (Nat × Tr)}{t:Tr}(sb g mb:Nat)(hR:R.length<=400)(hsp:Sp R L M i t nx dp ks)(hc:c<=wd)(hw:wd<=100)(hL:L<=400)(hM:M<=3200)(hch:ch=0\/ch=1)(hh:t.lg=-1->ch=1)
  (hSK:j1g sb g mb wd R (q3h R wd i c ch).np (q3h R wd i c ch).nc) (hV:∃k:Cv,k=(if(q3h R wd i c ch).np<R.length then crs R wd (q3h R wd i c ch).np (q3h R wd i c ch).nc else zCv)/\k.o=(vv R wd (q3h R wd i c ch).np (q3h R wd i c ch).nc).1.1/\k.l=(vv R wd (q3h R wd i c ch).np (q3h R wd i c ch).nc).1.2/\k.o<=400000/\k.l<=400000):z5u sb g mb wd R i c ch:=by
 intro w S h;have H:Hid (Inv sb g mb wd R w S):=h;have hlt:=h.lt;obtain⟨k,hk,hko,hkl,hbo,hbl⟩:=hV;have hm:=j5w (ch:=ch) hsp hc hw hL hM;have HMV:Hid (∀W:World,q5y W sb g wd R->Calls prog 217 #[.pointer (some ⟨sb,0,none⟩),.agg #[.int .i64 i,.int .i64 c],.int .i64 ch] W fun e w'=>e=.returned (.tuple #[.agg #[.int .i64 (q3h R wd i c ch).np,.int .i64 (q3h R wd i c ch).nc],.agg #[.int .i64 (q3h R wd i c ch).o,.int .i64 (q3h R wd i c ch).l]])/\Below W W w'):=fun W hW=>j2e sb g W hR hsp hc hw hL hM hch hh hW
 have HSK:Hid (∀W S,Inv sb g mb wd R W S->Calls prog 109 #[.pointer (some ⟨sb,0,none⟩),.agg #[.int .i64 (q3h R wd i c ch).np,.int .i64 (q3h R wd i c ch).nc]] W fun e w'=>e=.returned (.agg #[.int .i64 k.o,.int .i64 k.l,.int .i64 k.ch,.int .i64 k.np,.int .i64 k.nc])/\Left sb g mb wd R S (q3h R wd i c ch).np (q3h R wd i c ch).np (q3h R wd i c ch).nc W w'):=fun W S hW=>by
  have:=hSK W S hW
  rw[<-hk]at this;exact this
 have etk:tkC R wd i c ch=⟨(q3h R wd i c ch).o+k.o,(q3h R wd i c ch).l+k.l,ch,(q3h R wd i c ch).np,(q3h R wd i c ch).nc⟩:=by rw[tkC,j2z,hko,hkl]
 rw[etk,cvV];dsimp only;clear hk hko hkl hSK etk h;generalize q3h R wd i c ch=m at *;have HM:Hid (y8w R wd i m):=hm;have ho:=hm.bo;have hl':=hm.bl;clear hm;go_in;go_wp2_with fail;have hsk:Sk1 sb g mb wd i c R S w ((w.alloc (.cells #[.int .i64 i,.int .i64 c] 172)).alloc (.cells #[.int .i64 0,.int .i64 0,.int .i64 0,.int .i64 0,.int .i64 0] 174)):=z7e (nq:=0) H.o
 generalize(w.alloc (.cells #[.int .i64 i,.int .i64 c] 172)).alloc (.cells #[.int .i64 0,.int .i64 0,.int .i64 0,.int .i64 0,.int .i64 0] 174)=w1 at *
 have HK:Hid (Sk1 sb g mb wd i c R S w w1):=hsk;have a0:=hsk.a0;have a1:=hsk.a1;have hs1:=hsk.sz;clear hsk
 have HA:Hid (∀W,Below (w.heap.size+1+1) w1 W->W.cell? ⟨w.heap.size,0,none⟩=some (.int .i64 i)/\W.cell? ⟨w.heap.size,1,none⟩=some (.int .i64 c)):=fun W hb=>
  ⟨(hb.cell (p:=⟨w.heap.size,0,none⟩) (by simp;omega)).trans a0,(hb.cell (p:=⟨w.heap.size,1,none⟩) (by simp;omega)).trans a1⟩
 have hd0:Below (w.heap.size+1+1) w1 w1.drew:=(Below.refl _ w1).drew;have hd1:∀O,Below (w.heap.size+1+1) w1 (w1.alloc O).drew:=fun O=>(q1r (Below.refl _ w1) (by omega) O).drew
 have hd2:∀O1 O2,Below (w.heap.size+1+1) w1 ((w1.alloc O1).alloc O2).drew:=fun O1 O2=>(q1r (q1r (Below.refl _ w1) (by omega) O1) (by omega) O2).drew
 have HPL:Hid (∀W,Below (w.heap.size+1+1) w1 W->q5y W sb g wd R):=fun W hb=>HK.o.inv.pl.kept (hb.block _ (by omega)) (hb.block _ (by omega))
 have HM0:Hid (Calls prog 217 #[.pointer (some ⟨sb,0,none⟩),.agg #[.int .i64 i,.int .i64 c],.int .i64 ch] w1.drew fun e w'=>e=.returned (.tuple #[.agg #[.int .i64 m.np,.int .i64 m.nc],.agg #[.int .i64 m.o,.int .i64 m.l]])/\Below w1.drew.heap.size w1.drew w'):=HMV.o _ (HPL.o _ hd0);have HM1:Hid (∀O,Calls prog 217 #[.pointer (some ⟨sb,0,none⟩),.agg #[.int .i64 i,.int .i64 c],.int .i64 ch] (w1.alloc O).drew fun e w'=>e=.returned (.tuple #[.agg #[.int .i64 m.np,.int .i64 m.nc],.agg #[.int .i64 m.o,.int .i64 m.l]])/\Below (w1.alloc O).drew.heap.size (w1.alloc O).drew w'):=fun O=>HMV.o _ (HPL.o _ (hd1 O))
 have HM2:Hid (∀O1 O2,Calls prog 217 #[.pointer (some ⟨sb,0,none⟩),.agg #[.int .i64 i,.int .i64 c],.int .i64 ch] ((w1.alloc O1).alloc O2).drew fun e w'=>e=.returned (.tuple #[.agg #[.int .i64 m.np,.int .i64 m.nc],.agg #[.int .i64 m.o,.int .i64 m.l]])/\Below ((w1.alloc O1).alloc O2).drew.heap.size ((w1.alloc O1).alloc O2).drew w'):=fun O1 O2=>HMV.o _ (HPL.o _ (hd2 O1 O2))
 have HX0:Hid (∀w2,Below w1.drew.heap.size w1.drew w2->Below (w.heap.size+1+1) w1 w2):=fun w2 hb=>hd0.trans (hb.mono (by show _<=w1.heap.size;omega))
 have HX1:Hid (∀T w2,Below (w1.alloc (.cells #[.int .i64 0,.int .i64 0] T)).drew.heap.size (w1.alloc (.cells #[.int .i64 0,.int .i64 0] T)).drew w2->Below (w.heap.size+1+1) w1 w2/\w2.cell? ⟨w.heap.size+1+1,0,none⟩=some (.int .i64 0)/\w2.cell? ⟨w.heap.size+1+1,1,none⟩=some (.int .i64 0)/\w2.frozen? ⟨w.heap.size+1+1,0,none⟩=false/\w2.frozen? ⟨w.heap.size+1+1,1,none⟩=false/\w.heap.size+1+1+1<=w2.heap.size):=fun T w2 hb=>by
  obtain⟨hcl,hfr⟩:=q1v hb;have hsz:(w1.alloc (.cells #[.int .i64 0,.int .i64 0] T)).drew.heap.size=w.heap.size+1+1+1:=by show(w1.alloc (.cells #[.int .i64 0,.int .i64 0] T)).heap.size=_;simp[hs1]
  have hle:=hb.size;rw[hsz]at hle;refine⟨(hd1 _).trans (hb.mono (by rw[hsz];omega)),(hcl _ _ (by rw[hsz];omega)).trans ?_,(hcl _ _ (by rw[hsz];omega)).trans ?_,(hfr _ _ (by rw[hsz];omega)).trans ?_,(hfr _ _ (by rw[hsz];omega)).trans ?_,hle⟩
  ·rw[<-hs1];simp[go_sem]
  ·rw[<-hs1];simp[go_sem]
  ·rw[<-hs1];simp[go_sem]
  ·rw[<-hs1];simp[go_sem]
 have HX2:Hid (∀T1 T2 w2,Below ((w1.alloc (.cells #[.int .i64 0,.int .i64 0] T1)).alloc (.cells #[.int .i64 0,.int .i64 0] T2)).drew.heap.size ((w1.alloc (.cells #[.int .i64 0,.int .i64 0] T1)).alloc (.cells #[.int .i64 0,.int .i64 0] T2)).drew w2->Below (w.heap.size+1+1) w1 w2/\(w2.cell? ⟨w.heap.size+1+1,0,none⟩=some (.int .i64 0)/\w2.cell? ⟨w.heap.size+1+1,1,none⟩=some (.int .i64 0)/\w2.frozen? ⟨w.heap.size+1+1,0,none⟩=false/\w2.frozen? ⟨w.heap.size+1+1,1,none⟩=false)/\w2.cell? ⟨w.heap.size+1+1+1,0,none⟩=some (.int .i64 0)/\w2.cell? ⟨w.heap.size+1+1+1,1,none⟩=some (.int .i64 0)/\w2.frozen? ⟨w.heap.size+1+1+1,0,none⟩=false/\w2.frozen? ⟨w.heap.size+1+1+1,1,none⟩=false):=fun T1 T2 w2 hb=>by
  obtain⟨hcl,hfr⟩:=q1v hb;have hsz:((w1.alloc (.cells #[.int .i64 0,.int .i64 0] T1)).alloc (.cells #[.int .i64 0,.int .i64 0] T2)).drew.heap.size=w.heap.size+1+1+1+1:=by show((w1.alloc (.cells #[.int .i64 0,.int .i64 0] T1)).alloc (.cells #[.int .i64 0,.int .i64 0] T2)).heap.size=_;simp[hs1]
  refine⟨(hd2 _ _).trans (hb.mono (by rw[hsz];omega)),⟨(hcl _ _ (by rw[hsz];omega)).trans ?_,(hcl _ _ (by rw[hsz];omega)).trans ?_,(hfr _ _ (by rw[hsz];omega)).trans ?_,(hfr _ _ (by rw[hsz];omega)).trans ?_⟩,(hcl _ _ (by rw[hsz];omega)).trans ?_,(hcl _ _ (by rw[hsz];omega)).trans ?_,(hfr _ _ (by rw[hsz];omega)).trans ?_,(hfr _ _ (by rw[hsz];omega)).trans ?_⟩
  all_goals rw[<-hs1];simp[go_sem]
 have HS1:Hid (w1.heap.size=w.heap.size+1+1):=hs1;clear HMV hch hh hsp
 go_cut [0,2,6,7,8] (fun s0 s2 s6 s7 s8 wx=>s0=.pointer (some ⟨sb,0,none⟩)/\s2=.int .i64 ch/\s6=.pointer (some ⟨w.heap.size+1,0,none⟩)/\∃b7 b8,s7=.pointer (some ⟨b7,0,none⟩)/\s8=.pointer (some ⟨b8,0,none⟩)/\TkB w1 wx (w.heap.size+1) b7 b8 m)
 case first=>
  go_region_held3 (fun w'=>w'.cell? ⟨w.heap.size,0,none⟩=some (.int .i64 i)/\w'.cell? ⟨w.heap.size,1,none⟩=some (.int .i64 c))
   (first|with_reducible exact HA.o _ hd0|with_reducible exact HA.o _ (hd1 _)|with_reducible exact HA.o _ (hd2 _ _)|with_reducible exact HA.o _ hE2|with_reducible exact HA.o _ (q1r hE2 (Nat.le_of_eq HS1.o.symm) _)|with_reducible exact HA.o _ (q1r (q1r hE2 (Nat.le_of_eq HS1.o.symm) _) (Nat.le_of_eq HS1.o.symm) _)|with_reducible exact HA.o _ (q4w hE2 (by omega))|with_reducible exact HA.o _ (q4w (q4w hE2 (by omega)) (by omega))|with_reducible exact HA.o _ (q4w (q1r hE2 (Nat.le_of_eq HS1.o.symm) _) (by omega))|with_reducible exact HA.o _ (q4w (q4w (q1r hE2 (Nat.le_of_eq HS1.o.symm) _) (by omega)) (by omega)))
   (first|(go_at_call 217;go_fit HM0.o;rintro e w2⟨rfl,hb2⟩;have hE2:=HX0.o _ hb2)|(go_at_call 217;go_fit (HM1.o _);rintro e w2⟨rfl,hb2⟩;obtain⟨hE2,x0,x1,f0,f1,hle⟩:=HX1.o _ _ hb2;have x0':=fun O=>ka x0 O;have x1':=fun O=>ka x1 O;have f0':=fun O=>kaf (Nat.lt_of_succ_le hle) f0 O;have f1':=fun O=>kaf (Nat.lt_of_succ_le hle) f1 O)|(go_at_call 217;go_fit (HM2.o _ _);rintro e w2⟨rfl,hb2⟩;obtain⟨hE2,⟨x0,x1,f0,f1⟩,x2,x3,f2,f3⟩:=HX2.o _ _ _ hb2))
  all_goals
   go_wp2
   go_meet
   first
    | with_reducible exact⟨rfl,rfl,rfl,w2.heap.size,w2.heap.size+1,rfl,rfl,y8o (w2:=w2) (b:=w.heap.size+1) (m:=m) (T7:=172) (T8:=54) hE2 HS1.o.symm⟩
    | with_reducible exact⟨rfl,rfl,rfl,w2.heap.size+1,w2.heap.size,rfl,rfl,y8p (w2:=w2) (b:=w.heap.size+1) (m:=m) (T7:=172) (T8:=54) hE2 HS1.o.symm⟩
    | with_reducible exact⟨rfl,rfl,rfl,w.heap.size+1+1,w2.heap.size,rfl,rfl,y8q (w2:=w2) (b:=w.heap.size+1) (m:=m) (T8:=54) hE2 HS1.o.symm x0 x1⟩
    | with_reducible exact⟨rfl,rfl,rfl,w2.heap.size,w.heap.size+1+1,rfl,rfl,y8r (w2:=w2) (b:=w.heap.size+1) (m:=m) (T7:=172) hE2 HS1.o.symm x0 x1⟩
    | with_reducible exact⟨rfl,rfl,rfl,w.heap.size+1+1,w.heap.size+1+1+1,rfl,rfl,y9a (w2:=w2) (b:=w.heap.size+1) (m:=m) (a:=w.heap.size+1+1) (d:=w.heap.size+1+1+1) hE2 (by omega) (by omega) (by omega) x0 x1 x2 x3⟩
    | with_reducible exact⟨rfl,rfl,rfl,w.heap.size+1+1+1,w.heap.size+1+1,rfl,rfl,y9a (w2:=w2) (b:=w.heap.size+1) (m:=m) (a:=w.heap.size+1+1+1) (d:=w.heap.size+1+1) hE2 (by omega) (by omega) (by omega) x2 x3 x0 x1⟩
 case rest=>
  obtain⟨rfl,rfl,rfl,b7,b8,rfl,rfl,hT⟩:=hcut;have HTF:Hid (TkF w wc b7 b8 m):=y5t HK.o hT;have HIC:Hid (Inv sb g mb wd R wc.drew S):=HK.o.inv.kept3 (hT.bw.block _ (by omega)) (hT.bw.block _ (by omega)) (hT.bw.block _ (by omega));have HBC:Hid (q0u w mb w wc.drew):=(q0u.of (HK.o.bw.trans (hT.bw.mono (by omega)))).drew;have o0:wc.drew.cell? ⟨b8,0,none⟩=some (.int .i64 m.o):=HTF.o.o0;have o1:wc.drew.cell? ⟨b8,1,none⟩=some (.int .i64 m.l):=HTF.o.o1;have p0:wc.drew.cell? ⟨b7,0,none⟩=some (.int .i64 m.np):=HTF.o.p0;have p1:wc.drew.cell? ⟨b7,1,none⟩=some (.int .i64 m.nc):=HTF.o.p1;have HN7:Hid (b7≠w.heap.size+1):=(show b7≠w.heap.size+1 by have:=HTF.o.n7;omega);have HN8:Hid (b8≠w.heap.size+1):=(show b8≠w.heap.size+1 by have:=HTF.o.n8;omega)
  have HSE:Hid (Calls prog 109 #[.pointer (some ⟨sb,0,none⟩),.agg #[.int .i64 m.np,.int .i64 m.nc]] wc.drew fun e w'=>e=.returned (.agg #[.int .i64 k.o,.int .i64 k.l,.int .i64 k.ch,.int .i64 k.np,.int .i64 k.nc])/\TkF w w' b7 b8 m/\q0u w mb w w'/\∃S',Inv sb g mb wd R w' S'/\(∀a b,S a b=true->S' a b=true)/\(∀a b,S' a b=true->S a b=true\/i+1<=a)/\(m.np<R.length->S' m.np m.nc=true)):=by
   refine(HSK.o wc.drew S HIC.o).mono ?_;rintro e w6⟨rfl,hbx,S',hI,hmo,hlo,hin⟩;have hnp:=HM.o.lo;refine⟨rfl,HTF.o.kept (mb:=mb) ⟨hbx.os,hbx.tape,hbx.output,hbx.size,hbx.block⟩ hlt.2.2,HBC.o.trans (hbx.mono HBC.o.size),S',hI,hmo,fun a b hab=>?_,hin⟩;rcases hlo a b hab with h|h
   ·exact .inl h
   ·exact .inr (by omega)
  have HSU:Hid (∀W,Calls prog 218 #[.agg #[.int .i64 m.o,.int .i64 m.l],.agg #[.int .i64 k.o,.int .i64 k.l]] W fun e w'=>e=.returned (.agg #[.int .i64 ((m.o+k.o:Nat):Int),.int .i64 ((m.l+k.l:Nat):Int)])/\Below W W w'):=fun W=>v1j m.o m.l k.o k.l (by omega) (by omega) hbo hbl W
  clear hT HSK HM0 HM1 HM2 HX0 HX1 HX2 HA HPL hd0 hd1 hd2 a0 a1 hs1;have hfc:=j3n;go_wp2_with fail
  go_region_held3 (fun w'=>w'.cell? ⟨b8,0,none⟩=some (.int .i64 m.o)/\w'.cell? ⟨b8,1,none⟩=some (.int .i64 m.l)/\w'.cell? ⟨b7,0,none⟩=some (.int .i64 m.np)/\w'.cell? ⟨b7,1,none⟩=some (.int .i64 m.nc))
   (first|with_reducible exact⟨o0,o1,p0,p1⟩|with_reducible exact⟨hF6.o0,hF6.o1,hF6.p0,hF6.p1⟩|with_reducible exact⟨hF7.o0,hF7.o1,hF7.p0,hF7.p1⟩|with_reducible exact⟨k5r HN8.o hF7.o0,k5r HN8.o hF7.o1,k5r HN7.o hF7.p0,k5r HN7.o hF7.p1⟩)
   (first|(go_at_call 109;refine HSE.o.mono ?_;rintro e w6⟨rfl,hF6,hR6⟩)|(go_at_call 218;refine(HSU.o _).mono ?_;rintro e w7⟨rfl,hb7⟩;have hF7:=hF6.kept (q0u.of hb7) hlt.2.2;have r0:=hF7.r0;have r1:=hF7.r1;have r2:=hF7.r2;have r3:=hF7.r3;have r4:=hF7.r4;have y0:w7.frozen? ⟨w.heap.size+1,0,none⟩=false:=hF7.fr.frozen;have y1:w7.frozen? ⟨w.heap.size+1,1,none⟩=false:=hF7.fr.frozen;have y2:w7.frozen? ⟨w.heap.size+1,2,none⟩=false:=hF7.fr.frozen;have y3:w7.frozen? ⟨w.heap.size+1,3,none⟩=false:=hF7.fr.frozen;have y4:w7.frozen? ⟨w.heap.size+1,4,none⟩=false:=hF7.fr.frozen))
  all_goals
   obtain⟨hbx6,S',hI6,hmo,hlo,hin⟩:=hR6;go_wp2;exact bodyPost_ret (v:=.agg #[.int .i64 ((m.o:Int)+k.o),.int .i64 ((m.l:Int)+k.l),.int .i64 ch,.int .i64 m.np,.int .i64 m.nc]) (by simp[results,Tryz.results195,go_sem,r0,r1,r2,r3,r4]) rfl ⟨rfl,k3c (hbx6.trans (q0u.of (hb7.mono hbx6.size))) (by omega) _ _ _ _ _,S',(hI6.below hb7).set5 (by omega) (by omega) (by omega) _ _ _ _ _,hmo,hlo,hin⟩
end Go.Proofs.YthjapabokcajhaaGreatDoor
