/- Texts as one: SyS, SyT. -/
import Derived.Test.YtchdplceopegoaaGreatDoorPs31
import Derived.Lib.AppendZerosOnto
import Derived.Lib.SliceRun
namespace Go.Proofs.YtchdplceopegoaaGreatDoor
open Go Go.RowKit
set_option maxRecDepth 100000
set_option maxHeartbeats 4000000
theorem j6s (n:Nat) (h1:0<n) (hn:n≤1000000) (w:World) :
  Calls Tryz.prog 208 #[.slice none 0 0,.int .i64 (n:Int)] w fun e w'=>∃ c,e = .returned (.slice (some ⟨w.heap.size,0,none⟩) 0 c)∧q1o w.heap.size (.slice (some ⟨w.heap.size,0,none⟩) 0 c) [] w'∧Below w.heap.size w w':=by
 obtain ⟨i0,hi,hz0,hz1,hz2⟩:=info_parts j5d
 have hrz:∀ ty,(Builtin.append_ #[59,3] ty #[.slice none 0 0,.int .i64 (n:Int)]).run Tryz.prog w =
   .ok (.slice (some ⟨w.heap.size,0,none⟩) n (grownCap w n 0 71)) (w.drew.alloc (.cells (#[]++Builtin.zeroCells (Value.agg #[.int .i64 0,.string ⟨#[]⟩,.int .i64 0]).cells n++Builtin.zeroCells (Value.agg #[.int .i64 0,.string ⟨#[]⟩,.int .i64 0]).cells (grownCap w n 0 71 - n)) 71)):=fun ty=>by
  have hold:(Builtin.firstCells i0.size 0 (.slice none 0 0)).run Tryz.prog w.drew = .ok ([]:List Value).toArray w.drew:=run_firstCells_none w.drew i0.size 0 0 0
  have h:=Lib.run_append_grow_zeros w 59 3 ty 71 i0 _ .i64 .i64 Tryz.underlying59 Tryz.underlying3 hi hz0 none 0 0 [] hold n h1 (by omega) (by omega) (by omega) (by rw [hz2];omega) (growslice_fits (by omega) (by rw [hz2];omega))
  simp only [Nat.zero_add] at h
  exact h
 have hGn:n≤grownCap w n 0 71:=grownCap_ge w _ _ _
 have hGm:=grownCap_le_maxLen w n 0 71 (by unfold maxLen;omega)
 generalize grownCap w n 0 71=G at hrz hGn hGm
 have hG63:G≤9223372036854775807:=by unfold maxLen at hGm;omega
 have HO:Hid (q1o w.heap.size (.slice (some ⟨w.heap.size,0,none⟩) 0 G) [] (w.drew.alloc (.cells (#[]++Builtin.zeroCells (Value.agg #[.int .i64 0,.string ⟨#[]⟩,.int .i64 0]).cells n++Builtin.zeroCells (Value.agg #[.int .i64 0,.string ⟨#[]⟩,.int .i64 0]).cells (G - n)) 71))):=by
  refine ⟨rfl,.inr ⟨w.heap.size,G,_,rfl,Nat.le_refl _,heap_alloc_new w.drew _,Nat.zero_le _,hGm,?_,rfl⟩⟩
  simp only [Array.size_append,size_zeroCells,Array.size_empty]
  show 0+n*3+(G - n)*3=G*3
  omega
 have hni:(0:Int)<(n:Int):=by omega
 generalize (#[]++Builtin.zeroCells (Value.agg #[.int .i64 0,.string ⟨#[]⟩,.int .i64 0]).cells n++Builtin.zeroCells (Value.agg #[.int .i64 0,.string ⟨#[]⟩,.int .i64 0]).cells (G - n))=Z at hrz HO
 clear hi hz0 hz1 hz2 hGm
 go_enter Tryz.func208,Tryz.ntmps208
 go_wp2_with (at_builtin;refine Lib.wpList_append_run _ rfl _ _ _ _ rfl _ _ rfl rfl _ _ (hrz _) ?_)
 go_ret
 exact ⟨G,rfl,HO.out,Below.drew ((Below.refl _ _).alloc (Nat.le_refl _) _)⟩
def v9l (w:World) (a:Option Addr) (ps:List (List Td)):Prop:=
 ∀ i (h:i<ps.length),∃ b o a' c',a=some ⟨b,o,none⟩∧b<w.heap.size∧w.cell? ⟨b,o+i,none⟩=some (.slice a' ps[i].length c')∧ps[i].length≤c'∧Tds w a' ps[i]∧(a'=none→ps[i].length=0∧c'=0)
theorem v9l.below {w w':World} {a:Option Addr} {ps:List (List Td)} (h:v9l w a ps) (hb:Below w.heap.size w w'):v9l w' a ps:=by
 intro i hi
 obtain ⟨b,o,a',c',e,hlt,c1,c2,c3,c4⟩:=h i hi
 exact ⟨b,o,a',c',e,Nat.lt_of_lt_of_le hlt hb.size,(hb.cell (p:=⟨b,_,none⟩) hlt).trans c1,c2,c3.below hb,c4⟩
theorem z8r {ps:List (List Td)} {i:Nat} (h:i<ps.length):(ps.take (i+1)).flatten=(ps.take i).flatten++ps[i]:=by
 rw [List.take_succ_eq_append_getElem h,List.flatten_append];simp
theorem z6j (ps:List (List Td)) (i:Nat):(ps.take i).flatten.length≤ps.flatten.length:=by
 have h:ps.flatten=(ps.take i).flatten++(ps.drop i).flatten:=by rw [←List.flatten_append,List.take_append_drop]
 rw [h,List.length_append];omega
structure y4g (w:World) (ps:List (List Td)) (i:Nat) (v:Value) (wr:World):Prop where
 le:i≤ps.length
 o:q1o w.heap.size v (ps.take i).flatten wr
 b:Below w.heap.size w wr
theorem k3a (ps:List (List Td)) (a:Option Addr) (c:Nat) (w:World) (hP:v9l w a ps) (h0:0<ps.flatten.length) (hl:ps.flatten.length≤900000) (hp:ps.length≤10) :
  Calls Tryz.prog 178 #[.slice a ps.length c] w fun e w'=>∃ A c',e = .returned (.slice A ps.flatten.length c')∧q1o w.heap.size (.slice A ps.flatten.length c') ps.flatten w'∧Below w.heap.size w w':=by
 have HP:Hid (v9l w a ps):=hP
 have HG:Hid (Calls Tryz.prog 208 #[.slice none 0 0,.int .i64 (ps.flatten.length:Int)] w fun e w'=>∃ c,e = .returned (.slice (some ⟨w.heap.size,0,none⟩) 0 c)∧q1o w.heap.size (.slice (some ⟨w.heap.size,0,none⟩) 0 c) [] w'∧Below w.heap.size w w'):=j6s ps.flatten.length h0 (by omega) w
 clear hP
 generalize hN:ps.flatten.length=N at HG h0 hl ⊢
 have HN:Hid (ps.flatten.length=N):=hN
 clear hN
 go_enter Tryz.func178,Tryz.ntmps178
 go_wp2_with fail
 go_loopw [3,11] (fun s x wr=>w=wr∧∃ i:Nat,i≤ps.length∧x = .int .i64 (i:Int)∧s = .int .i64 ((ps.take i).flatten.length:Int)) (fun _ x _=>ps.length - (intOf x).toNat)
 case atStart=>exact ⟨rfl,0,Nat.zero_le _,rfl,rfl⟩
 case round=>
  obtain ⟨rfl,i,hi,rfl,rfl⟩:=hrel
  by_cases hlt:i<ps.length
  ·have hii:(i:Int)<(ps.length:Int):=by omega
   obtain ⟨b0,o0,A0,c0,rfl,hb0,d0,_,_,_⟩:=HP.out i hlt
   have hft:=congrArg List.length (z8r hlt)
   rw [List.length_append] at hft
   have hfl:=z6j ps (i+1)
   rw [HN.out] at hfl
   have HF:=(show Hid (_=_) from hft)
   have hs1:(ps.take i).flatten.length+ps[i].length≤900000:=by omega
   clear hft hfl
   generalize ps[i].length=pn at HF d0 hs1
   generalize (ps.take i).flatten.length=sn at HF hs1 ⊢
   have hs2:¬ (sn:Int)+(pn:Int)<0:=by omega
   go_wp2
   refine ⟨⟨trivial,i+1,hlt,by go_num,?_⟩,?_⟩
   ·rw [HF.out];go_num
   ·simp [intOf];omega
  ·have hii:¬ (i:Int)<(ps.length:Int):=by omega
   have hie:(ps.take i).flatten.length=N:=by rw [List.take_of_length_le (by omega)];exact HN.out
   rw [hie]
   clear hie
   go_wp2_with fail
   refine HG.out.mono ?_
   rintro e w1 ⟨c1,rfl,ho1,b1⟩
   have HC1:Hid (y4g w ps 0 (.slice (some ⟨w.heap.size,0,none⟩) 0 c1) w1):=⟨Nat.zero_le _,ho1,b1⟩
   clear ho1 b1
   go_wp2_with fail
   go_loopw [6,27] (fun v x w'=>∃ (i:Nat) (A:Option Addr) (n c:Nat),x = .int .i64 (i:Int)∧v = .slice A n c∧n=(ps.take i).flatten.length∧y4g w ps i (.slice A n c) w') (fun _ x _=>ps.length - (intOf x).toNat)
   case atStart=>exact ⟨0,_,_,_,rfl,rfl,rfl,HC1.out⟩
   case round=>
    obtain ⟨i,A,n,c2,rfl,rfl,hn,hC⟩:=hrel
    have hfl:=z6j ps i
    rw [HN.out,←hn] at hfl
    by_cases hlt:i<ps.length
    ·have hii:(i:Int)<(ps.length:Int):=by omega
     obtain ⟨b0,o0,A0,c0,rfl,hb0,d0,_,hT,hnil⟩:=HP.out.below hC.b i hlt
     have hft:=z8r hlt
     have hfl2:=z6j ps (i+1)
     rw [hft,List.length_append,HN.out,←hn] at hfl2
     have HF:=(show Hid (_=_) from hft)
     have HO:Hid (q1o w.heap.size (.slice A n c2) (ps.take i).flatten wr):=hC.o
     have HB:Hid (Below w.heap.size w wr):=hC.b
     have hsz:=hC.b.size
     have HT:Hid (Tds wr A0 ps[i]):=hT
     have HNI:Hid (A0=none→ps[i].length=0∧c0=0):=hnil
     have HL:Hid ((ps.take i).flatten.length=n):=hn.symm
     have HPL:Hid (∃ m,ps[i].length=m):=⟨_,rfl⟩
     generalize hpn:ps[i].length=pn at d0 hfl2 HNI
     have HPN:Hid (ps[i].length=pn):=hpn
     clear hft hT hnil hn hC hpn HPL hfl
     go_wp2_with (at_builtin;refine k0w rfl _ _ rfl w.heap.size _ (ps.take i).flatten rfl HO.out A0 pn ps[i] HPN.out c0 rfl HT.out HNI.out (n+pn) (by rw [HL.out]) (by omega) hsz ?_)
     intro A3 c3 w3 hown3 hgrow3
     have HX3:Hid (y4g w ps (i+1) (.slice A3 (n+pn) c3) w3):=by
      refine ⟨hlt,?_,HB.out.grown hgrow3 hsz (fun k hk=>(World.ownsRow.lt HO.out k hk).1)⟩
      rw [HF.out]
      exact hown3
     clear hown3 hgrow3
     go_wp2
     refine ⟨⟨i+1,A3,n+pn,c3,by go_num,rfl,?_,HX3.out⟩,?_⟩
     ·rw [HF.out,List.length_append,HL.out,HPN.out]
     ·simp [intOf];omega
    ·have hii:¬ (i:Int)<(ps.length:Int):=by omega
     have hie:ps.take i=ps:=List.take_of_length_le (by omega)
     obtain ⟨_,ho,hb⟩:=hC
     rw [hie] at ho hn
     rw [HN.out] at hn
     subst hn
     have HO:Hid (q1o w.heap.size (.slice A n c2) ps.flatten wr):=ho
     have HB:Hid (Below w.heap.size w wr):=hb
     clear ho hb hie
     go_wp2
     go_ret
     exact ⟨A,c2,rfl,HO.out,HB.out⟩
end Go.Proofs.YtchdplceopegoaaGreatDoor
namespace Go.Proofs.YtchdplceopegoaaGreatDoor
open Go Go.RowKit
set_option maxRecDepth 100000
set_option maxHeartbeats 16000000
theorem q0e {ws:List Wd} {p:Nat}:(ws.drop p).length=ws.length - p:=List.length_drop
theorem q1q (ws:List Wd) (p:Nat):(ws.drop p).head? = ws[p]?:=List.head?_drop
theorem q5s {ws:List Wd} {p:Nat} {r:List Wd} (h:r <:+ ws.drop p):ws.drop (ws.length - r.length)=r:=by
 obtain ⟨t,ht⟩:=h.trans (List.drop_suffix p ws)
 have hl:=congrArg List.length ht
 rw [List.length_append] at hl
 have e:ws.length - r.length=t.length:=by omega
 rw [e,←ht,List.drop_left]
structure j7b (K:LwK) (ws:List Wd) (pl:Nat→Nat) (b:Nat) (j:Job) (p:Nat) (w:World) (m:Nat) (ns:List Td) (u:List Wd) (v:Value) (w':World):Prop where
 pr:PR j (ws.drop p) (.ok m ns u)
 o:q1o w.heap.size v ns w'
 n:ns.length+u.length≤(ws.drop p).length
 rd:Ry K ws pl b (ws.length - u.length) w'
 bt:But w.heap.size b w w'
inductive q3n (K:LwK) (ws:List Wd) (pl:Nat→Nat) (b:Nat) (j:Job) (p:Nat) (w:World):Ending→World→Prop where
 | ok {m ns u A c w'} (h:j7b K ws pl b j p w m ns u (.slice A ns.length c) w'):q3n K ws pl b j p w (.returned (.slice A ns.length c)) w'
 | bad {u w'} (pr:PR j (ws.drop p) (.bad u)) (bt:But w.heap.size b w w'):q3n K ws pl b j p w (.panicked [q4a (pl (ws.length - u.length))]) w'
abbrev k8h (K:LwK) (ws:List Wd) (pl:Nat→Nat) (b p:Nat):Prop:=∀ w:World,Ry K ws pl b p w→Calls Tryz.prog 109 #[.pointer (some ⟨b,0,none⟩)] w fun e w'=>q3n K ws pl b (.level 0) p w e w'
abbrev v9n (K:LwK) (ws:List Wd) (pl:Nat→Nat) (b p:Nat):Prop:=∀ w:World,Ry K ws pl b p w→Calls Tryz.prog 149 #[.pointer (some ⟨b,0,none⟩)] w fun e w'=>q3n K ws pl b (.level 1) p w e w'
abbrev v9m (K:LwK) (ws:List Wd) (pl:Nat→Nat) (b p:Nat):Prop:=∀ w:World,Ry K ws pl b p w→Calls Tryz.prog 179 #[.pointer (some ⟨b,0,none⟩)] w fun e w'=>q3n K ws pl b (.level 2) p w e w'
def k7c (w:World) (b:Nat):Nat:=match w.cell? ⟨b,0,none⟩ with
 | some (.slice _ n _)=>n
 | _=>0
section
variable {K:LwK} {ws:List Wd} {pl:Nat→Nat} {b q p:Nat} {w w':World}
theorem Ry.len_eq (h:Ry K ws pl b q w):k7c w b=ws.length+1 - q:=by
 unfold k7c
 rw [h.c0]
theorem q1o.but2 {B:Nat} {v:Value} {xs:List Td} (h:q1o B v xs w) (hb:But w.heap.size b w w') (hB:b<B):q1o B v xs w':=h.kept fun g _ h2=>hb.block g h2 (by omega)
structure k5q (K:LwK) (ws:List Wd) (pl:Nat→Nat) (b k p:Nat) (w:World) (q:Nat) (acc:List Td) (v:Value) (wr:World):Prop where
 lt:p<q
 n:acc.length+(ws.length - q)≤ws.length - p
 o:q1o w.heap.size v acc wr
 rd:Ry K ws pl b q wr
 bt:But w.heap.size b w wr
 ok:∀ r,PR (.loop k acc) (ws.drop q) r→PR (.level k) (ws.drop p) r
theorem j9p {k m:Nat} {ns:List Td} {u:List Wd} {v:Value} {w1:World} (hk:k<2) (h:j7b K ws pl b (.level (k+1)) p w m ns u v w1):k5q K ws pl b k p w (ws.length - u.length) ns v w1:=by
 have hsf:=q9r h.pr
 have h1:ws.drop (ws.length - u.length)=u:=q5s hsf.1
 have hn:=h.n
 have h2:=hsf.2 m ns u rfl
 rw [q0e] at h2 hn
 simp only [Job.eats] at h2
 exact ⟨by omega,by omega,h.o,h.rd,h.bt,fun r hr=>by rw [h1] at hr;exact .levO hk h.pr hr⟩
theorem v7e {k q m:Nat} {acc ns:List Td} {u:List Wd} {v v4 v5:Value} {wr w3 w4 w5:World} (hV:k5q K ws pl b k p w q acc v wr) (hq:q<ws.length) (hd:ws.drop q=sgn k::ws.drop (q+1)) (bt3:But w.heap.size b w w3) (hs3:w.heap.size≤w3.heap.size)
  (hG:j7b K ws pl b (.level (k+1)) (q+1) w3 m ns u v4 w4) (b5:Below w4.heap.size w4 w5) (ho:q1o w.heap.size v5 (sgT k::(acc++ns)) w5) :
  k5q K ws pl b k p w (ws.length - u.length) (sgT k::(acc++ns)) v5 w5∧q<ws.length - u.length:=by
 have hsf:=q9r hG.pr
 have h1:ws.drop (ws.length - u.length)=u:=q5s hsf.1
 have hn:=hG.n
 have h2:=hsf.2 m ns u rfl
 rw [q0e] at hn h2
 simp only [Job.eats] at h2
 have hVn:=hV.n
 have hVp:=hV.lt
 have hal:(sgT k::(acc++ns)).length=1+acc.length+ns.length:=by simp;omega
 have hs4:=hG.bt.size
 exact ⟨⟨by omega,by rw [hal];omega,ho,hG.rd.keep b5,(bt3.trans (hG.bt.mono hs3)).trans (But.of (b5.mono (by omega))),fun r hr=>by rw [h1] at hr;exact hV.ok _ (by rw [hd];exact .lopO hG.pr hr)⟩,by omega⟩
end
theorem z5n (k F:Nat) (s:UInt8) (o:Int) (hk:k=0∧F=149∧s=43∧o=5∨k=1∧F=179∧s=42∧o=6) {K:LwK} {ws:List Wd} {pl:Nat→Nat} {b p:Nat} (hL:∀ q,p≤q→q≤ws.length→∀ w:World,Ry K ws pl b q w→Calls Tryz.prog F #[.pointer (some ⟨b,0,none⟩)] w fun e w'=>q3n K ws pl b (.level (k+1)) q w e w') (w:World) (h:Ry K ws pl b p w) :
  Calls Tryz.prog 148 #[.pointer (some ⟨b,0,none⟩),.string ⟨#[s]⟩,.int .i64 o,.func (.func F) #[.pointer (some ⟨b,0,none⟩)] #[]] w fun e w'=>q3n K ws pl b (.level k) p w e w':=by
 have tg:Tag k:=.mk
 rcases hk with ⟨rfl,rfl,rfl,rfl⟩ | ⟨rfl,rfl,rfl,rfl⟩
 all_goals
  have HL:=hid hL
  have HL0:Hid (Calls Tryz.prog ↑(z1x tg 149 179) #[.pointer (some ⟨b,0,none⟩)] w fun e w'=>q3n K ws pl b (.level (↑(z1x tg 0 1)+1)) p w e w'):=hL p (Nat.le_refl _) h.le w h
  have hbw:b<w.heap.size:=h.row.lt
  have hle:=h.le
  have hfew:=h.few
  clear h hL
  go_enter Tryz.func148,Tryz.ntmps148
  go_wp2_with fail
  refine HL0.out.mono ?_
  intro e w1 hG
  cases hG with
  | bad pr bt=>
   have HB:Hid (q3n K ws pl b (.level ↑(z1x tg 0 1)) p w (.panicked [q4a (pl (ws.length - _))]) w1):=.bad (.levB (by omega) pr) bt
   clear pr bt
   go_wp2
   exact ⟨rfl,HB.out⟩
  | @ok m ns u A c _ hg=>
   have HV0:Hid (k5q K ws pl b ↑(z1x tg 0 1) p w (ws.length - u.length) ns (.slice A ns.length c) w1):=j9p (by omega) hg
   clear hg HL0
   generalize hnl:ns.length=nl at HV0
   have HNL:Hid (ns.length=nl):=hnl
   clear hnl
   go_wp2_with fail
   go_loopw [9] (fun x wr=>∃ (q:Nat) (acc:List Td) (A':Option Addr) (n' c':Nat),x = .slice A' n' c'∧acc.length=n'∧k5q K ws pl b ↑(z1x tg 0 1) p w q acc (.slice A' n' c') wr) (fun _ wr=>k7c wr b)
   case atStart=>exact ⟨_,ns,A,nl,c,rfl,HNL.out,HV0.out⟩
   case round=>
    obtain ⟨q,acc,A1,n1,c1,rfl,hal,hV⟩:=hrel
    have HV:=(show Hid (_) from hV)
    have HAL:Hid (acc.length=n1):=hal
    have hqle:=hV.rd.le
    have hn:=hV.n
    have hwb:=hV.bt.size
    rw [hal] at hn
    by_cases hmr:ws[q]? = some (sgn ↑(z1x tg 0 1))
    ·obtain ⟨hqlt,hqe⟩:=List.getElem?_eq_some_iff.1 hmr
     have HDR:Hid (ws.drop q=sgn ↑(z1x tg 0 1)::ws.drop (q+1)):=by
      show _=_
      rw [List.drop_eq_getElem_cons hqlt,hqe]
     have HH:Hid (Calls Tryz.prog 106 #[.pointer (some ⟨b,0,none⟩),.string ⟨#[↑(sel tg (43:UInt8) 42)]⟩] wr fun e w'=>e = .returned (.bool true)∧Ry K ws pl b (q+1) w'∧But wr.heap.size b wr w'):=q6a hV.rd (sgn ↑(z1x tg 0 1)) hmr
     clear hV hal hmr hqe
     go_wp2_with fail
     refine HH.out.mono ?_
     rintro e w2 ⟨rfl,h2,b2⟩
     have HB2:Hid (But wr.heap.size b wr w2):=b2
     have hs2:=b2.size
     have hb2:b<w2.heap.size:=h2.row.lt
     have HPC:Hid (∃ w3,w2.alloc (.cells #[.int .i64 ↑(sel tg (5:Int) 6),.string ⟨#[]⟩,.int .i64 0] 71)=w3∧Calls Tryz.prog ↑(z1x tg 149 179) #[.pointer (some ⟨b,0,none⟩)] w3 (fun e w'=>q3n K ws pl b (.level (↑(z1x tg 0 1)+1)) (q+1) w3 e w')∧q1o w2.heap.size (.slice (some ⟨w2.heap.size,0,none⟩) 1 1) [sgT ↑(z1x tg 0 1)] w3∧q1o w.heap.size (.slice A1 n1 c1) acc w3∧But w.heap.size b w w3∧w3.heap.size=w2.heap.size+1):=by
      refine ⟨_,rfl,HL.out (q+1) (by have:=HV.out.lt;omega) (by omega) _ (h2.keep (q1j w2 _)),q1o.one w2 (sgT ↑(z1x tg 0 1)),?_,(HV.out.bt.trans (HB2.out.mono hwb)).alloc (by omega) _,World.size_alloc ..⟩
      have ho:=HV.out.o.but2 HB2.out hbw
      exact ho.kept fun g _ h5=>Lib.alloc_old w2 _ g h5
     clear h2 b2 HH
     go_wp2_with fail
     obtain ⟨w3,hw3,hcal,ht0,ho1,hbt,hsz3⟩:=HPC.out
     rw [hw3]
     have HT0:Hid (q1o w2.heap.size (.slice (some ⟨w2.heap.size,0,none⟩) 1 1) [sgT ↑(z1x tg 0 1)] w3):=ht0
     have HO1:Hid (q1o w.heap.size (.slice A1 n1 c1) acc w3):=ho1
     have HBT:Hid (But w.heap.size b w w3):=hbt
     clear ht0 ho1 hbt HPC hw3
     refine hcal.mono ?_
     clear hcal
     intro e w4 hG
     cases hG with
     | @bad u4 _ pr bt=>
      have HB:Hid (q3n K ws pl b (.level ↑(z1x tg 0 1)) p w (.panicked [q4a (pl (ws.length - u4.length))]) w4):=.bad (HV.out.ok _ (by rw [HDR.out];exact .lopB pr)) (HBT.out.trans (bt.mono (by omega)))
      clear pr bt
      go_wp2
      exact ⟨rfl,HB.out⟩
     | @ok m4 ns4 u4 A4 c4 _ hg=>
      have HG:=(show Hid (_) from hg)
      have hs4:=hg.bt.size
      have hn4:=hg.n
      rw [q0e] at hn4
      have HTW:Hid (q1o w2.heap.size (.slice (some ⟨w2.heap.size,0,none⟩) 1 1) [sgT ↑(z1x tg 0 1)] w4):=HT0.out.but2 hg.bt hb2
      have HO4:Hid (q1o w.heap.size (.slice A1 n1 c1) acc w4):=HO1.out.but2 hg.bt hbw
      have HP5:Hid (∀ W,Below w4.heap.size w4 W→W.heap[w4.heap.size]? = some (.cells #[.slice (some ⟨w2.heap.size,0,none⟩) 1 1,.slice A1 n1 c1,.slice A4 ns4.length c4] 59 (0,0))→v9l W (some ⟨w4.heap.size,0,none⟩) [[sgT ↑(z1x tg 0 1)],acc,ns4]):=by
       intro W hW hk
       have hlt:w4.heap.size<W.heap.size:=(Array.getElem?_eq_some_iff.1 hk).1
       have hcell:∀ i,W.cell? ⟨w4.heap.size,i,none⟩=#[Value.slice (some ⟨w2.heap.size,0,none⟩) 1 1,.slice A1 n1 c1,.slice A4 ns4.length c4][i]?:=fun i=>by simp [World.cell?,hk]
       intro i hi
       have h3:i=0∨i=1∨i=2:=by simp at hi;omega
       have e1:=k2l HO4.out
       have e2:=k2l HG.out.o
       rcases h3 with rfl | rfl | rfl
       ·exact ⟨w4.heap.size,0,some ⟨w2.heap.size,0,none⟩,1,rfl,hlt,hcell 0,Nat.le_refl _,HTW.out.tds.below hW,fun e=>by cases e⟩
       ·exact ⟨w4.heap.size,0,A1,c1,rfl,hlt,by rw [show (([[sgT ↑(z1x tg 0 1)],acc,ns4]:List (List Td))[1]).length=n1 from HAL.out];exact hcell 1,e1.2.1,e1.2.2.below hW,fun e=>by
         have:=HO4.out.none.2 e
         exact ⟨by show acc.length=0;rw [HAL.out];exact this.1,this.2⟩⟩
       ·exact ⟨w4.heap.size,0,A4,c4,rfl,hlt,hcell 2,e2.2.1,e2.2.2.below hW,fun e=>HG.out.o.none.2 e⟩
      have hfl:[[sgT ↑(z1x tg 0 1)],acc,ns4].flatten=sgT ↑(z1x tg 0 1)::(acc++ns4):=by simp
      have hfn:(sgT ↑(z1x tg 0 1)::(acc++ns4)).length=1+n1+ns4.length:=by rw [List.length_cons,List.length_append,HAL.out];omega
      have HCC:Hid (∀ W,Below w4.heap.size w4 W→W.heap[w4.heap.size]? = some (.cells #[.slice (some ⟨w2.heap.size,0,none⟩) 1 1,.slice A1 n1 c1,.slice A4 ns4.length c4] 59 (0,0))→Calls Tryz.prog 178 #[.slice (some ⟨w4.heap.size,0,none⟩) 3 3] W fun e w'=>∃ A c',e = .returned (.slice A (1+n1+ns4.length) c')∧k5q K ws pl b ↑(z1x tg 0 1) p w (ws.length - u4.length) (sgT ↑(z1x tg 0 1)::(acc++ns4)) (.slice A (1+n1+ns4.length) c') w'∧q<ws.length - u4.length):=by
       intro W hW hk
       have h9:=k3a [[sgT ↑(z1x tg 0 1)],acc,ns4] (some ⟨w4.heap.size,0,none⟩) 3 W (HP5.out W hW hk) (by rw [hfl,hfn];omega) (by rw [hfl,hfn];omega) (by simp)
       rw [hfl,hfn] at h9
       refine h9.mono ?_
       rintro e w6 ⟨A6,c6,rfl,ho6,hb6⟩
       have hsW:=hW.size
       exact ⟨A6,c6,rfl,v7e HV.out hqlt HDR.out HBT.out (by omega) HG.out (hW.trans (hb6.mono hsW)) (ho6.down (by omega))⟩
      have HFN:=(show Hid (_=_) from hfn)
      clear hg hfl hfn hn4
      generalize ns4.length=n4 at HCC HFN ⊢
      go_wp2_with fail
      refine (HCC.out _ (q1j w4 _) (heap_alloc_new w4 _)).mono ?_
      rintro e w6 ⟨A6,c6,rfl,h6,hq6⟩
      have H6:=(show Hid (_) from And.intro h6 hq6)
      clear h6 hq6
      go_wp2
      refine ⟨⟨_,_,A6,_,c6,rfl,HFN.out,H6.out.1⟩,?_⟩
      rw [H6.out.1.rd.len_eq,HV.out.rd.len_eq]
      have:=H6.out.2
      omega
    ·have HNE:Hid ((ws.drop q).head?≠some (sgn ↑(z1x tg 0 1))):=by
      show _≠_
      rw [q1q];exact hmr
     have HH:Hid (Calls Tryz.prog 106 #[.pointer (some ⟨b,0,none⟩),.string ⟨#[↑(sel tg (43:UInt8) 42)]⟩] wr fun e w'=>e = .returned (.bool false)∧w'=wr):=q7a hV.rd (sgn ↑(z1x tg 0 1)) (by decide) hmr
     clear hV hal hmr
     go_wp2_with fail
     refine HH.out.mono ?_
     rintro e w2 ⟨rfl,rfl⟩
     go_wp2
     go_ret
     have hV:=HV.out
     obtain rfl:=HAL.out
     have hdl:(ws.drop q).length=ws.length - q:=q0e
     refine .ok (m:=0) (u:=ws.drop q) ⟨hV.ok _ (.lopE HNE.out),hV.o,?_,?_,hV.bt⟩
     ·rw [hdl,q0e];have:=hV.n;omega
     ·rw [hdl,show ws.length - (ws.length - q)=q by omega]
      exact hV.rd
theorem j6w {K:LwK} {ws:List Wd} {pl:Nat→Nat} {b p:Nat} (hL:∀ q,p≤q→q≤ws.length→v9n K ws pl b q):k8h K ws pl b p:=by
 intro w h
 have hmf:∀ (fn:Fn) (first cap:Array Value) (w:World),(Instr.makeFunc fn first cap).run Tryz.prog w = .ok (.func fn first cap) w:=fun _ _ _ _=>rfl
 have HC:Hid (Calls Tryz.prog 148 #[.pointer (some ⟨b,0,none⟩),.string ⟨#[43]⟩,.int .i64 5,.func (.func 149) #[.pointer (some ⟨b,0,none⟩)] #[]] w fun e w'=>q3n K ws pl b (.level 0) p w e w'):=z5n 0 _ _ _ (.inl ⟨rfl,rfl,rfl,rfl⟩) hL w h
 clear h hL
 go_enter Tryz.func109,Tryz.ntmps109
 go_wp2_with fail
 refine HC.out.mono ?_
 intro e w1 hG
 cases hG with
 | @bad u _ pr bt=>
  have HB:Hid (q3n K ws pl b (.level 0) p w (.panicked [q4a (pl (ws.length - u.length))]) w1):=.bad pr bt
  clear pr bt
  go_wp2
  exact ⟨rfl,HB.out⟩
 | @ok m ns u A c _ hg=>
  have HB:Hid (q3n K ws pl b (.level 0) p w (.returned (.slice A ns.length c)) w1):=.ok hg
  clear hg
  generalize ns.length=nl at HB ⊢
  go_wp2
  go_ret
  exact HB.out
theorem k0p {K:LwK} {ws:List Wd} {pl:Nat→Nat} {b p:Nat} (hL:∀ q,p≤q→q≤ws.length→v9m K ws pl b q):v9n K ws pl b p:=by
 intro w h
 have hmf:∀ (fn:Fn) (first cap:Array Value) (w:World),(Instr.makeFunc fn first cap).run Tryz.prog w = .ok (.func fn first cap) w:=fun _ _ _ _=>rfl
 have HC:Hid (Calls Tryz.prog 148 #[.pointer (some ⟨b,0,none⟩),.string ⟨#[42]⟩,.int .i64 6,.func (.func 179) #[.pointer (some ⟨b,0,none⟩)] #[]] w fun e w'=>q3n K ws pl b (.level 1) p w e w'):=z5n 1 _ _ _ (.inr ⟨rfl,rfl,rfl,rfl⟩) hL w h
 clear h hL
 go_enter Tryz.func149,Tryz.ntmps149
 go_wp2_with fail
 refine HC.out.mono ?_
 intro e w1 hG
 cases hG with
 | @bad u _ pr bt=>
  have HB:Hid (q3n K ws pl b (.level 1) p w (.panicked [q4a (pl (ws.length - u.length))]) w1):=.bad pr bt
  clear pr bt
  go_wp2
  exact ⟨rfl,HB.out⟩
 | @ok m ns u A c _ hg=>
  have HB:Hid (q3n K ws pl b (.level 1) p w (.returned (.slice A ns.length c)) w1):=.ok hg
  clear hg
  generalize ns.length=nl at HB ⊢
  go_wp2
  go_ret
  exact HB.out
end Go.Proofs.YtchdplceopegoaaGreatDoor
