/- Texts as one: IntApp, Sk8. -/
import Derived.Test.YtchdplceopegoaaGreatDoorPw23
namespace Go.Proofs.YtchdplceopegoaaGreatDoor
open Go Go.RowKit
def q0t (ws:List Int):List Value:=ws.map (.int .i64)
theorem z7v (ws:List Int):(q0t ws).length=ws.length*1:=by simp [q0t]
theorem z7u (a b:List Int):q0t (a++b)=q0t a++q0t b:=by simp [q0t]
theorem j7y {B:Nat} {w:World} {a:Option Addr} {n cap m:Nat} {ws:List Int} (h:w.ownsRow B 3 1 (.slice a n cap) m (q0t ws)):m=ws.length∧n=ws.length∧ws.length≤cap∧z3e w a ws∧(a=none→ws=[]∧cap=0):=by
 have hm:m=ws.length:=by have:=h.1;rw [z7v] at this;omega
 rcases h.2 with ⟨hv,h0⟩ | ⟨g,c,cur,hv,_,hg,hnc,_,hsz,htake⟩
 ·simp only [Value.slice.injEq] at hv
  obtain ⟨rfl,rfl,rfl⟩:=hv
  have hw:ws=[]:=List.eq_nil_of_length_eq_zero (by omega)
  subst hw
  exact ⟨hm,rfl,Nat.le_refl _,fun i hi=>by simp at hi,fun _=>⟨rfl,rfl⟩⟩
 ·simp only [Value.slice.injEq] at hv
  obtain ⟨rfl,rfl,rfl⟩:=hv
  refine ⟨hm,hm,by omega,?_,fun h=>by cases h⟩
  intro i hi
  have hlt:g<w.heap.size:=by
   rcases Nat.lt_or_ge g w.heap.size with h' | h'
   ·exact h'
   ·simp [Array.getElem?_eq_none h'] at hg
  refine ⟨g,0,rfl,hlt,?_⟩
  have hk:(q0t ws)[i]? = some (.int .i64 ws[i]):=by simp [q0t,hi]
  rw [←htake] at hk
  rw [List.getElem?_take_of_lt (by omega)] at hk
  rw [Nat.zero_add]
  simp only [World.cell?,hg]
  simpa using hk
end Go.Proofs.YtchdplceopegoaaGreatDoor
namespace Go.Proofs.YtchdplceopegoaaGreatDoor
open Go Go.RowKit
set_option maxRecDepth 100000
set_option maxHeartbeats 4000000
theorem q8s {w:World} {B e size n k:Nat} {v:Value} {xs:List Value} (h:w.ownsRow B e size v n xs) (hk:v.ownBlock=some k):k<w.heap.size∧∃ cur,w.heap[k]? = some (.cells cur e (0,0)):=by
 rcases h.2 with ⟨rfl,_⟩ | ⟨g,c,cur,rfl,_,hg,_⟩
 ·simp [Value.ownBlock] at hk
 ·simp only [Value.ownBlock,Option.some.injEq] at hk
  subst hk
  exact ⟨(Array.getElem?_eq_some_iff.1 hg).1,cur,hg⟩
theorem v1c {w:World} {B e size n k:Nat} {v:Value} {xs:List Value} (h:w.ownsRow B e size v n xs) (hk:v.ownBlock=some k):B≤k:=by
 rcases h.2 with ⟨rfl,_⟩ | ⟨g,c,cur,rfl,hb,_⟩
 ·simp [Value.ownBlock] at hk
 ·simp only [Value.ownBlock,Option.some.injEq] at hk
  subst hk
  exact hb
theorem q8r {w w':World} {B e size n:Nat} {v:Value} {xs:List Value} (h:w.ownsRow B e size v n xs) (hk:∀ k,v.ownBlock=some k→w'.heap[k]? = w.heap[k]?):w'.ownsRow B e size v n xs:=by
 refine ⟨h.1,?_⟩
 rcases h.2 with h0 | ⟨g,c,cur,rfl,hb,hg,rest⟩
 ·exact .inl h0
 ·exact .inr ⟨g,c,cur,rfl,hb,(hk g rfl).trans hg,rest⟩
structure ChR (sb g mb wd:Nat) (R:List Pl) (S:Nat→Nat→Bool) (w wr:World) (v3:Value) (b4 p c:Nat) (us:List Int):Prop where
 own:wr.ownsRow w.heap.size 3 1 v3 us.length (q0t us)
 box:wr.heap[b4]? = some (.cells #[.int .i64 p,.int .i64 c] 216 (0,0))
 lo:w.heap.size≤b4
 pl:p≤R.length
 cl:c≤wd
 inS:p<R.length→S p c=true
 way:us++(vv R wd p c).2=(vv R wd 0 0).2
 len:us.length≤p
 inv:Inv sb g mb wd R wr S
 bw:Below w.heap.size w wr
section
variable {sb g mb wd b4 p c:Nat} {R:List Pl} {S:Nat→Nat→Bool} {w wr wx:World} {v3:Value} {us:List Int}
theorem ChR.c0 (h:ChR sb g mb wd R S w wr v3 b4 p c us):wr.cell? ⟨b4,0,none⟩=some (.int .i64 p):=by simp [World.cell?,h.box]
theorem ChR.c1 (h:ChR sb g mb wd R S w wr v3 b4 p c us):wr.cell? ⟨b4,1,none⟩=some (.int .i64 c):=by simp [World.cell?,h.box]
theorem ChR.lt (h:ChR sb g mb wd R S w wr v3 b4 p c us):b4<wr.heap.size:=World.block_lt_of_cell? wr ⟨b4,0,none⟩ h.c0
theorem ChR.form (h:ChR sb g mb wd R S w wr v3 b4 p c us):∃ a cap,v3 = .slice a us.length cap:=by
 rcases h.own.2 with ⟨hv,h0⟩ | ⟨g,c,cur,hv,_⟩
 ·exact ⟨none,0,by rw [hv,h0]⟩
 ·exact ⟨_,c,hv⟩
theorem ChR.apart (h:ChR sb g mb wd R S w wr v3 b4 p c us) {k:Nat} (hk:v3.ownBlock=some k):k≠b4:=by
 intro e
 subst e
 obtain ⟨_,cur,h1⟩:=q8s h.own hk
 rw [h.box] at h1
 cases h1
theorem ChR.below (h:ChR sb g mb wd R S w wr v3 b4 p c us) (hb:Below wr.heap.size wr wx):ChR sb g mb wd R S w wx v3 b4 p c us:=
 ⟨q8r h.own fun k hk=>hb.block k (q8s h.own hk).1,(hb.block _ h.lt).trans h.box,h.lo,h.pl,h.cl,h.inS,h.way,h.len,h.inv.below hb,h.bw.trans (hb.mono h.bw.size)⟩
end
def chM (n:Nat) (v:Value) (wr:World):Nat:=match v with
 | .pointer (some a)=>(match wr.cell? a with | some (.int _ p)=>n - p.toNat | _=>0)
 | _=>0
theorem k2g {n b p:Nat} {wr:World} (h:wr.cell? ⟨b,0,none⟩=some (.int .i64 (p:Int))):chM n (.pointer (some ⟨b,0,none⟩)) wr=n - p:=by
 simp [chM,h]
theorem j5v {sb g mb wd p c L M nx dp:Nat} {R:List Pl} {S:Nat→Nat→Bool} {w W:World} {v:Value} {us us':List Int} {ks:List (Nat × Tr)} {t:Tr} (hsp:Sp R L M p t nx dp ks) (hc:c≤wd) (hw:wd≤100) (hL:L≤400) (hM:M≤3200) (hway:us++(vv R wd p c).2=(vv R wd 0 0).2) (hlen:us.length≤p) (hS:S p c=true)
  (hus:us'=us++(if q9u t.root.op=true then [((crs R wd p c).ch:Int)] else [])) (hown:W.ownsRow w.heap.size 3 1 v us'.length (q0t us')) (hinv:Inv sb g mb wd R W S) (hbw:Below w.heap.size w W) :
  ChR sb g mb wd R S w (W.alloc (.cells #[.int .i64 (crs R wd p c).np,.int .i64 (crs R wd p c).nc] 216)) v W.heap.size (crs R wd p c).np (crs R wd p c).nc us'∧p<(crs R wd p c).np:=by
 obtain ⟨h1,ch,_,h2⟩:=k8l hsp hc
 have hm:=j1d (ch:=ch) hsp hc hw hL hM
 have e1:(crs R wd p c).np=(q2l R wd p c ch).np:=by rw [h2];rfl
 have e2:(crs R wd p c).nc=(q2l R wd p c ch).nc:=by rw [h2];rfl
 have hlo:=hm.lo
 refine ⟨⟨q8r hown fun k hk=>Below.heap_alloc _ _ _ (q8s hown hk).1,heap_alloc_new W _,hbw.size,by rw [e1];exact hm.hi,by rw [e2];exact hm.cl,fun hl=>(hinv.cl p c hS).2.2 hl,?_,?_,hinv.alloc _,hbw.alloc hbw.size _⟩,by rw [e1];exact hlo⟩
 ·rw [h1] at hway
  rw [hus,List.append_assoc]
  exact hway
 ·rw [hus,e1]
  split<;>simp<;>omega
theorem z7c {t:Tr} {wd:Nat} (sb g mb:Nat) (ht:t.Wf) (hn:t.sz≤400) (hw:wd≤100) (w:World) (S:Nat→Nat→Bool) (h:Inv sb g mb wd (q0a t) w S) (h0:S 0 0=true) :
  Calls Tryz.prog 127 #[.pointer (some ⟨sb,0,none⟩)] w fun e w'=>(∃ a cap,e = .returned (.slice a (vv (q0a t) wd 0 0).2.length cap)∧w'.ownsRow w.heap.size 3 1 (.slice a (vv (q0a t) wd 0 0).2.length cap) (vv (q0a t) wd 0 0).2.length (q0t (vv (q0a t) wd 0 0).2))∧Below w.heap.size w w':=by
 have HI:Hid (Inv sb g mb wd (q0a t) w S):=h
 have H0:Hid (S 0 0=true):=h0
 have hlt:=h.lt
 have hR:(q0a t).length≤400:=by rw [q2b];exact hn
 have HRD:Hid (∃ R,R=q0a t):=⟨_,rfl⟩
 have HST:Hid (∀ W:World,W=w.alloc (.cells #[.int .i64 0,.int .i64 0] 216)→ChR sb g mb wd (q0a t) S w W (.slice none 0 0) w.heap.size 0 0 []):=fun W hW=>by
  subst hW
  exact ⟨⟨rfl,.inl ⟨rfl,rfl⟩⟩,heap_alloc_new w _,Nat.le_refl _,Nat.zero_le _,Nat.zero_le _,fun _=>H0.out,rfl,Nat.le_refl _,HI.out.alloc _,(Below.refl _ w).alloc (Nat.le_refl _) _⟩
 clear h h0
 go_enter Tryz.func127,Tryz.ntmps127
 go_wp2_with fail
 go_loopw [3,4] (fun v3 v4 wr=>∃ b4 p c us,v4 = .pointer (some ⟨b4,0,none⟩)∧ChR sb g mb wd (q0a t) S w wr v3 b4 p c us) (fun _ v4 wr=>chM (q0a t).length v4 wr)
 case atStart=>exact ⟨_,0,0,[],rfl,HST.out _ rfl⟩
 case round=>
  obtain ⟨b4,p,c,us,rfl,hC⟩:=hrel
  obtain ⟨a3,cap3,rfl⟩:=hC.form
  have HC:Hid (ChR sb g mb wd (q0a t) S w wr (.slice a3 us.length cap3) b4 p c us):=hC
  have c0:=hC.inv.pl.c0
  have p0:=hC.c0
  by_cases hp:p<(q0a t).length
  ·have hpI:(p:Int)<((q0a t).length:Int):=by omega
   obtain ⟨t',nx,dp,ks,hsp⟩:=j2v ht hp
   have HSP:Hid (Sp (q0a t) t.lf t.dsum p t' nx dp ks):=hsp
   have hp400:p≤400:=by omega
   have hc100:c≤100:=by have:=hC.cl;omega
   have HQ:Hid (∀ W,Below wr.heap.size wr W→W.cell? ⟨sb,0,none⟩=some (.slice (some ⟨g,0,none⟩) (q0a t).length (q0a t).length)∧W.cell? ⟨b4,0,none⟩=some (.int .i64 p)∧W.cell? ⟨g,p*7,none⟩=some (.int .i64 (q2 (q1b (q0a t) p)).op)∧W.cell? ⟨g,p*7+1,none⟩=some (.string (q2 (q1b (q0a t) p)).tx)∧W.cell? ⟨g,p*7+2,none⟩=some (.int .i64 (q2 (q1b (q0a t) p)).n)∧W.cell? ⟨g,p*7+3,none⟩=some (.int .i64 (q2 (q1b (q0a t) p)).en)∧W.cell? ⟨g,p*7+4,none⟩=some (.int .i64 (q2 (q1b (q0a t) p)).nx)∧W.cell? ⟨g,p*7+5,none⟩=some (.int .i64 (q2 (q1b (q0a t) p)).dp)∧W.cell? ⟨g,p*7+6,none⟩=some (.int .i64 (q2 (q1b (q0a t) p)).lg)):=fun W hW=>by
    have hC2:=HC.out.below hW
    obtain ⟨d0,d1,d2,d3,d4,d5,d6⟩:=hC2.inv.pl.pr.get p hp
    exact ⟨hC2.inv.pl.c0,hC2.c0,d0,d1,d2,d3,d4,d5,d6⟩
   have hop:(q2 (q1b (q0a t) p)).op=t'.root.op:=by rw [hsp.at];rfl
   have HLK:Hid (∀ W,Inv sb g mb wd (q0a t) W S→(Instr.lookup 212 (.map (some mb)) (.agg #[.int .i64 (p:Int),.int .i64 (c:Int)]) false).run Tryz.prog W = .ok (.agg #[.int .i64 (crs (q0a t) wd p c).o,.int .i64 (crs (q0a t) wd p c).l,.int .i64 (crs (q0a t) wd p c).ch,.int .i64 (crs (q0a t) wd p c).np,.int .i64 (crs (q0a t) wd p c).nc]) W):=fun W hW=>by
    have:=hW.me.look (p:=p) (c:=c) hp400 hc100
    rw [HC.out.inS hp,if_pos rfl] at this
    exact this
   have hfn:=k9d
   have hfh:=k0i
   have hpp:(0:Int)≤(p:Int):=by omega
   have HNX:Hid (∀ (W:World) (v:Value) (us':List Int),us'=us++(if q9u t'.root.op=true then [((crs (q0a t) wd p c).ch:Int)] else [])→W.ownsRow w.heap.size 3 1 v us'.length (q0t us')→Inv sb g mb wd (q0a t) W S→Below w.heap.size w W→ChR sb g mb wd (q0a t) S w (W.alloc (.cells #[.int .i64 (crs (q0a t) wd p c).np,.int .i64 (crs (q0a t) wd p c).nc] 216)) v W.heap.size (crs (q0a t) wd p c).np (crs (q0a t) wd p c).nc us'∧p<(crs (q0a t) wd p c).np):=fun W v us' e1 e2 e3 e4=>
    j5v HSP.out HC.out.cl hw (by have:=q7l t;unfold Tr.sz at hn;omega) (by have:=q7l t;unfold Tr.sz at hn;omega) HC.out.way HC.out.len (HC.out.inS hp) e1 e2 e3 e4
   clear hC hsp
   generalize q2 (q1b (q0a t) p)=q at *
   generalize crs (q0a t) wd p c=k at *
   cases hch:q9u q.op with
   | false=>
    have HIS:Hid (∀ W,Calls Tryz.prog 165 #[.agg #[.int .i64 q.op,.string q.tx,.int .i64 q.n,.int .i64 q.en,.int .i64 q.nx,.int .i64 q.dp,.int .i64 q.lg]] W fun e w'=>e = .returned (.bool false)∧Below W.heap.size W w'):=fun W=>by have:=q7x q.op q.tx q.n q.en q.nx q.dp q.lg W;rw [hch] at this;exact this
    have HCH:Hid (q9u t'.root.op=false):=by rw [←hop];exact hch
    clear hch hop
    go_wp2_with fail
    go_quiet (fail)
    go_wp2_with fail
    have hb1:Below wr.heap.size wr (wr.drewN nq):=k2b (Below.refl _ wr) nq
    generalize wr.drewN nq=w1 at *
    have hSa:=HQ.out w1.drew hb1.drew
    have HB1:Hid (Below wr.heap.size wr w1):=hb1
    clear hb1
    go_region_held3 (fun w'=>w'.cell? ⟨sb,0,none⟩=some (.slice (some ⟨g,0,none⟩) (q0a t).length (q0a t).length)∧w'.cell? ⟨b4,0,none⟩=some (.int .i64 p)∧w'.cell? ⟨g,p*7,none⟩=some (.int .i64 q.op)∧w'.cell? ⟨g,p*7+1,none⟩=some (.string q.tx)∧w'.cell? ⟨g,p*7+2,none⟩=some (.int .i64 q.n)∧w'.cell? ⟨g,p*7+3,none⟩=some (.int .i64 q.en)∧w'.cell? ⟨g,p*7+4,none⟩=some (.int .i64 q.nx)∧w'.cell? ⟨g,p*7+5,none⟩=some (.int .i64 q.dp)∧w'.cell? ⟨g,p*7+6,none⟩=some (.int .i64 q.lg))
     (first | with_reducible exact hSa | with_reducible exact hSb)
     ((go_at_call 165;refine (HIS.out w1.drew).mono ?_;rintro e w2 ⟨rfl,hb2⟩;have hBx:Below wr.heap.size wr w2:=HB1.out.drew.trans (hb2.mono HB1.out.size);have hSb:=HQ.out w2 hBx))
    all_goals
     have hC2:=HC.out.below hBx
     have HC2:Hid (ChR sb g mb wd (q0a t) S w w2 (.slice a3 us.length cap3) b4 p c us):=hC2
     have x0:=hC2.c0
     have x1:=hC2.c1
     have m2:=fun O=>ka hC2.inv.c2 O
     have hL:=fun O=>HLK.out (w2.alloc O).drew ((hC2.inv.alloc O).kept fun _ _=>rfl)
     clear hC2 hb2 hBx hSb hSa c0 p0
     go_wp2_with fail
     go_region
     all_goals
      go_wp2
      go_roundw
      case rel=>
       exact ⟨_,_,_,us,rfl,((HNX.out w2 _ us (by rw [HCH.out];simp) HC2.out.own HC2.out.inv HC2.out.bw).1).below (Below.refl _ _).drew⟩
      case measure=>
       have h5:=(HNX.out w2 _ us (by rw [HCH.out];simp) HC2.out.own HC2.out.inv HC2.out.bw)
       have e5:chM (q0a t).length (.pointer (some ⟨b4,0,none⟩)) wr=(q0a t).length - p:=k2g HC.out.c0
       have e6:chM (q0a t).length (.pointer (some ⟨w2.heap.size,0,none⟩)) (w2.alloc (.cells #[.int .i64 k.np,.int .i64 k.nc] 216)).drew=(q0a t).length - k.np:=k2g h5.1.c0
       have h6:=h5.2
       rw [e5,e6]
       omega
   | true=>
    have HIS:Hid (∀ W,Calls Tryz.prog 165 #[.agg #[.int .i64 q.op,.string q.tx,.int .i64 q.n,.int .i64 q.en,.int .i64 q.nx,.int .i64 q.dp,.int .i64 q.lg]] W fun e w'=>e = .returned (.bool true)∧Below W.heap.size W w'):=fun W=>by have:=q7x q.op q.tx q.n q.en q.nx q.dp q.lg W;rw [hch] at this;exact this
    have HCH:Hid (q9u t'.root.op=true):=by rw [←hop];exact hch
    clear hch hop
    go_wp2_with fail
    go_quiet (fail)
    go_wp2_with fail
    have hb1:Below wr.heap.size wr (wr.drewN nq):=k2b (Below.refl _ wr) nq
    generalize wr.drewN nq=w1 at *
    have hSa:=HQ.out w1.drew hb1.drew
    have HB1:Hid (Below wr.heap.size wr w1):=hb1
    clear hb1
    go_region_held3 (fun w'=>w'.cell? ⟨sb,0,none⟩=some (.slice (some ⟨g,0,none⟩) (q0a t).length (q0a t).length)∧w'.cell? ⟨b4,0,none⟩=some (.int .i64 p)∧w'.cell? ⟨g,p*7,none⟩=some (.int .i64 q.op)∧w'.cell? ⟨g,p*7+1,none⟩=some (.string q.tx)∧w'.cell? ⟨g,p*7+2,none⟩=some (.int .i64 q.n)∧w'.cell? ⟨g,p*7+3,none⟩=some (.int .i64 q.en)∧w'.cell? ⟨g,p*7+4,none⟩=some (.int .i64 q.nx)∧w'.cell? ⟨g,p*7+5,none⟩=some (.int .i64 q.dp)∧w'.cell? ⟨g,p*7+6,none⟩=some (.int .i64 q.lg))
     (first | with_reducible exact hSa | with_reducible exact hSb)
     ((go_at_call 165;refine (HIS.out w1.drew).mono ?_;rintro e w2 ⟨rfl,hb2⟩;have hBx:Below wr.heap.size wr w2:=HB1.out.drew.trans (hb2.mono HB1.out.size);have hSb:=HQ.out w2 hBx))
    all_goals
     have hC2:=HC.out.below hBx
     have HC2:Hid (ChR sb g mb wd (q0a t) S w w2 (.slice a3 us.length cap3) b4 p c us):=hC2
     have x0:=hC2.c0
     have x1:=hC2.c1
     have HSS:Hid (∀ W,Inv sb g mb wd (q0a t) W S→W.heap[b4]? = some (.cells #[.int .i64 p,.int .i64 c] 216 (0,0))→W.cell? ⟨sb,2,none⟩=some (.map (some mb))∧W.cell? ⟨b4,0,none⟩=some (.int .i64 p)∧W.cell? ⟨b4,1,none⟩=some (.int .i64 c)∧(Instr.lookup 212 (.map (some mb)) (.agg #[.int .i64 (p:Int),.int .i64 (c:Int)]) false).run Tryz.prog W = .ok (.agg #[.int .i64 k.o,.int .i64 k.l,.int .i64 k.ch,.int .i64 k.np,.int .i64 k.nc]) W):=fun W h1 h2=>⟨h1.c2,by simp [World.cell?,h2],by simp [World.cell?,h2],HLK.out W h1⟩
     have hbx4:∀ O,(w2.alloc O).drew.heap[b4]? = some (.cells #[.int .i64 p,.int .i64 c] 216 (0,0)):=fun O=>(Below.heap_alloc w2 O b4 hC2.lt).trans hC2.box
     have hSc:=HSS.out w2.drew (hC2.inv.kept fun _ _=>rfl) hC2.box
     have hSd:=fun O=>HSS.out (w2.alloc O).drew ((hC2.inv.alloc O).kept fun _ _=>rfl) (hbx4 O)
     have HG5:Hid (∀ w5,(w2.alloc (.cells #[.int .i64 k.ch] 3)).drew.grownBy w5 (Value.slice a3 us.length cap3).ownBlock→Inv sb g mb wd (q0a t) w5 S∧w5.heap[b4]? = some (.cells #[.int .i64 p,.int .i64 c] 216 (0,0))∧Below w.heap.size w w5):=fun w5 hg=>by
      have hsz:w2.heap.size≤(w2.alloc (.cells #[.int .i64 k.ch] 3)).drew.heap.size:=by show _≤(w2.alloc _).heap.size;simp
      have hbs:=HC2.out.bw.size
      have hne:∀ b,b<w.heap.size→some b≠(Value.slice a3 us.length cap3).ownBlock:=fun b hb e=>by
       have:=v1c HC2.out.own e.symm
       omega
      have hlt2:=HC2.out.inv.lt
      refine ⟨((HC2.out.inv.alloc (.cells #[.int .i64 k.ch] 3)).kept (w':=(w2.alloc (.cells #[.int .i64 k.ch] 3)).drew) fun _ _=>rfl).kept3 (hg.block _ (by omega) (hne _ hlt.1)) (hg.block _ (by omega) (hne _ hlt.2.1)) (hg.block _ (by omega) (hne _ hlt.2.2)),(hg.block b4 (by have:=HC2.out.lt;omega) (fun e=>HC2.out.apart e.symm rfl)).trans (hbx4 _),?_⟩
      exact ((HC2.out.bw.alloc hbs (.cells #[.int .i64 k.ch] 3)).drew).trans ⟨hg.os,hg.tape,hg.output,hg.size,fun b hb=>hg.block b (by omega) (hne b hb)⟩
     obtain ⟨i0,hi0,hz0,hz1,hz2⟩:=info_parts k9w
     have hownA:(w2.alloc (.cells #[.int .i64 k.ch] 3)).drew.ownsRow w.heap.size 3 1 (.slice a3 us.length cap3) us.length (q0t us):=q8r hC2.own fun b hb=>Below.heap_alloc w2 _ b (q8s hC2.own hb).1
     have hnews:∀ j u,[Value.int .i64 (k.ch:Int)][j]? = some u→(w2.alloc (.cells #[.int .i64 k.ch] 3)).drew.cell? ((⟨w2.heap.size,0,none⟩:Addr).add j)=some u:=World.news_of_block (cs:=#[.int .i64 k.ch]) (heap_alloc_new w2 (.cells #[.int .i64 k.ch] 3))
     have hone:∀ u∈[Value.int .i64 (k.ch:Int)],u.oneCell'=true:=by intro u hu;simp at hu;subst hu;rfl
     have hl63:us.length+1≤maxLen:=by have:=hC2.len;unfold maxLen;omega
     have hl47:(us.length+1)*8≤140737488355328:=by have:=hC2.len;omega
     have hbs2:w.heap.size≤(w2.alloc (.cells #[.int .i64 k.ch] 3)).drew.heap.size:=by show _≤(w2.alloc _).heap.size;have:=hC2.bw.size;simp;omega
     have hH2:(w2.alloc (.cells #[.int .i64 k.ch] 3)).drew.heap.size=w2.heap.size+1:=by show (w2.alloc _).heap.size=_;simp
     clear hC2 hb2 hBx hSb hSa c0 p0 hbx4 x0 x1
     go_wp2_with fail
     go_region_held3 (fun w'=>w'.cell? ⟨sb,2,none⟩=some (.map (some mb))∧w'.cell? ⟨b4,0,none⟩=some (.int .i64 p)∧w'.cell? ⟨b4,1,none⟩=some (.int .i64 c)∧(Instr.lookup 212 (.map (some mb)) (.agg #[.int .i64 (p:Int),.int .i64 (c:Int)]) false).run Tryz.prog w' = .ok (.agg #[.int .i64 k.o,.int .i64 k.l,.int .i64 k.ch,.int .i64 k.np,.int .i64 k.nc]) w')
      (first | with_reducible exact hSc | with_reducible exact hSd _ | with_reducible exact hSe)
      ((refine step_append_lies _ (by rfl) _ _ 63 (by rfl) w.heap.size 3 i0 _ 1 8 Tryz.underlying63 hi0 hz0 hz1 hz2 rfl (by decide) (.slice a3 us.length cap3) us.length (q0t us) (by rfl) hownA ⟨w2.heap.size,0,none⟩ 1 1 [.int .i64 k.ch] (by rfl) rfl hnews hone (by decide) hl63 hl47 hbs2 (w2.heap.size+1) hH2 ?_;intro g3 cap5 w5 hown5 hgrow5 hat5 hlt5;obtain ⟨hI5,hx5,hbw5⟩:=HG5.out w5 hgrow5;have hSe:=HSS.out w5 hI5 hx5))
     all_goals
      have HO5:Hid (w5.ownsRow w.heap.size 3 1 (.slice (some ⟨g3,0,none⟩) (us.length+1) cap5) (us++[(k.ch:Int)]).length (q0t (us++[(k.ch:Int)]))):=by
       show w5.ownsRow _ _ _ _ _ _
       rw [z7u,List.length_append]
       exact hown5
      have HI5:Hid (Inv sb g mb wd (q0a t) w5 S):=hI5
      have HBW5:Hid (Below w.heap.size w w5):=hbw5
      obtain ⟨_,x0,x1,_⟩:=hSe
      have m2:=fun O=>ka hI5.c2 O
      have hL:=fun O=>HLK.out (w5.alloc O).drew ((hI5.alloc O).kept fun _ _=>rfl)
      clear hSc hSd hown5 hgrow5 hat5 hlt5 hI5 hx5 hbw5 hownA hnews hone hl63 hl47 hbs2 hH2 hi0 hz0 hz1 hz2
      go_wp2_with fail
      go_region
      all_goals
       go_wp2
       go_roundw
       case rel=>
        exact ⟨_,_,_,_,rfl,((HNX.out w5 _ _ (by rw [HCH.out];rfl) HO5.out HI5.out HBW5.out).1).below (Below.refl _ _).drew⟩
       case measure=>
        have h5:=(HNX.out w5 _ _ (by rw [HCH.out];rfl) HO5.out HI5.out HBW5.out)
        have e5:chM (q0a t).length (.pointer (some ⟨b4,0,none⟩)) wr=(q0a t).length - p:=k2g HC.out.c0
        have e6:chM (q0a t).length (.pointer (some ⟨w5.heap.size,0,none⟩)) (w5.alloc (.cells #[.int .i64 k.np,.int .i64 k.nc] 216)).drew=(q0a t).length - k.np:=k2g h5.1.c0
        have h6:=h5.2
        rw [e5,e6]
        omega
  ·have hpI:¬ (p:Int)<((q0a t).length:Int):=by omega
   have HE:Hid (us=(vv (q0a t) wd 0 0).2):=by
    have:=hC.way
    rw [v1m (by omega),List.append_nil] at this
    exact this
   clear hC
   go_wp2_with fail
   go_quiet (fail)
   go_wp2
   go_ret
   refine ⟨⟨a3,cap3,?_,?_⟩,?_⟩
   ·rw [←HE.out];rfl
   ·rw [←HE.out];exact q8r HC.out.own fun _ _=>rfl
   ·exact k2b HC.out.bw _
end Go.Proofs.YtchdplceopegoaaGreatDoor
