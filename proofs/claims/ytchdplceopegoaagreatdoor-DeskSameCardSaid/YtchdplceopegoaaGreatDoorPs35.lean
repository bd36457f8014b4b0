/- Texts as one: SyN, NodApp, AppN, LyS, LayD. -/
import Derived.Test.YtchdplceopegoaaGreatDoorPs34
namespace Go.Proofs.YtchdplceopegoaaGreatDoor
open Go Go.RowKit
set_option maxRecDepth 100000
set_option maxHeartbeats 4000000
theorem j1r (s:ByteArray) (w:World):Calls Tryz.prog 86 #[.slice none 0 0,.string s] w fun e w'=>e = .returned (.string ⟨#[]⟩)∧Below w.heap.size w w':=by
 go_enter Tryz.func86,Tryz.ntmps86
 go_wp2
 go_ret
 exact ⟨rfl,Below.refl _ _⟩
theorem z9z {B:Nat} {w:World} {A:Option Addr} {n c:Nat} {xs:List ByteArray} (h:q1x B (.slice A n c) xs w):n=xs.length∧n≤c∧((A=none∧n=0∧c=0)∨∃ g,A=some ⟨g,0,none⟩∧g<w.heap.size):=by
 rcases h.2 with ⟨hv,h0⟩ | ⟨g,c',cur,hv,_,hg,hnc,_⟩
 ·simp only [Value.slice.injEq] at hv
  obtain ⟨rfl,rfl,rfl⟩:=hv
  exact ⟨h0.symm,Nat.le_refl _,.inl ⟨rfl,rfl,rfl⟩⟩
 ·simp only [Value.slice.injEq] at hv
  obtain ⟨rfl,rfl,rfl⟩:=hv
  exact ⟨rfl,hnc,.inr ⟨g,rfl,(Array.getElem?_eq_some_iff.1 hg).1⟩⟩
theorem j1q {B:Nat} {A:Option Addr} {n c:Nat} {W:List Wd} {w:World} (h:q1x B (.slice A n c) (W.map wbS) w) (hs:szW W≤1000000):Calls Tryz.prog 86 #[.slice A n c,.string ⟨#[32]⟩] w fun e w'=>e = .returned (.string (wbS (jb W)))∧Below w.heap.size w w':=by
 obtain ⟨hn,hc,hA⟩:=z9z h
 have hl:=z7n W
 have hj:=v6i W
 have hml:(W.map wbS).length=W.length:=List.length_map ..
 rcases hA with ⟨rfl,rfl,rfl⟩ | ⟨g,rfl,hg⟩
 ·have:W=[]:=List.eq_nil_of_length_eq_zero (by omega)
  subst this
  exact j1r _ w
 ·subst hn
  have e1:(W.map wbS).map (fun x=>x.data.toList)=W:=by
   rw [List.map_map]
   exact List.map_id W
  have e2:Lib.join ((W.map wbS).map (fun x=>x.data.toList)) (⟨#[32]⟩:ByteArray).data.toList=jb W:=by
   rw [e1]
   exact j1l W
  have h1:=join_sh g 0 c (W.map wbS) ⟨#[32]⟩ w ?_ hg (by omega) hc (by rw [e2];omega)
  ·rw [e2] at h1
   exact h1
  ·intro j x hx
   obtain ⟨hj,rfl⟩:=List.getElem?_eq_some_iff.1 hx
   obtain ⟨b',o',e,_,c1⟩:=z3n h j hj
   simp only [Option.some.injEq,Addr.mk.injEq,and_true] at e
   obtain ⟨rfl,rfl⟩:=e
   exact c1
theorem v9j {w:Wd} {S:ByteArray} (h:wbS w=S):S.extract 1 S.size=wbS (w.drop 1):=by
 subst h
 rw [k2u]
 congr 1
 rw [List.take_of_length_le]
 ·rfl
 ·rw [List.length_drop,q0b];omega
theorem k6g {x:Wd} (hx:v3a x) (hl:x.length≤60000) (w:World) (ht:q7d w):Calls Tryz.prog 118 #[.string (wbS (x.drop 1))] w fun e w'=>∃ g,e = .returned (.slice (some ⟨g,0,none⟩) (q8q x).length (q8q x).length)∧Wds w' (some ⟨g,0,none⟩) ((q8q x).map wbS)∧Below w.heap.size w w':=by
 have hb:btL (wbS (x.drop 1))=x.drop 1:=rfl
 refine (fields_sh (wbS (x.drop 1)) w (by rw [←q0b,hb,List.length_drop];omega) ?_ ht.spc).mono ?_
 ·intro j c hj
  have hm:c∈x:=List.mem_of_mem_drop (List.mem_of_getElem? (show (x.drop 1)[j]? = some c from hj))
  have:=hx.2 c hm
  simp only [prB,Bool.and_eq_true,decide_eq_true_eq] at this
  omega
 ·rintro e w' ⟨rfl,rfl⟩
  refine ⟨w.heap.size,rfl,?_,q1j w _⟩
  intro i hi
  have hi2:i<(q8q x).length:=by simpa using hi
  refine ⟨w.heap.size,0,rfl,by rw [World.size_alloc];omega,?_⟩
  rw [Nat.zero_add]
  have hk:=heap_alloc_new w (.cells ((Lib.fields (btL (wbS (x.drop 1)))).map fun l=>Value.string ⟨l.toArray⟩).toArray 9)
  rw [Lib.cell_of_heap hk]
  show ((Lib.fields (x.drop 1)).map fun l=>Value.string ⟨l.toArray⟩).toArray[i]? = _
  rw [List.getElem?_toArray,List.getElem?_map,show (Lib.fields (x.drop 1))[i]? = some (q8q x)[i] from List.getElem?_eq_getElem hi2]
  simp [wbS]
theorem z9l:∀ (ws:List Wd) (x:Wd),x∈ws→x.length≤(ws.map List.length).sum
 | y::r,x,h=>by
  rw [List.map_cons,List.sum_cons]
  rcases List.mem_cons.1 h with rfl | h
  ·omega
  ·have:=z9l r x h
   omega
structure y4m (K:LwK) (ws:List Wd) (pl:Nat→Nat) (b p:Nat) (w:World) (q:Nat) (W:List Wd) (v:Value) (wr:World):Prop where
 pq:p≤q
 o:q1x w.heap.size v (W.map wbS) wr
 rd:Ry K ws pl b q wr
 bt:But w.heap.size b w wr
 eq:W=((ws.drop p).take (q - p)).flatMap q8q
 nt:∀ x∈(ws.drop p).take (q - p),v3a x
structure v9u (K:LwK) (ws:List Wd) (pl:Nat→Nat) (b p:Nat) (w:World) (q:Nat) (n:Bool) (t:List Td) (v:Value) (w':World):Prop where
 lt:p<q
 o:q1o w.heap.size v t w'
 ne:t≠[]
 l:t.length≤100000
 rd:Ry K ws pl b q w'
 bt:But w.heap.size b w w'
 pg:∀ pv acc r,(pv=true→∀ x,ws[p]? = some x→x.headD 0≠35)→PG n (acc++[t]) (ws.drop q) r→PG pv acc (ws.drop p) r
 nx:n=true→∀ x,ws[q]? = some x→x.headD 0≠35
inductive z0d (K:LwK) (ws:List Wd) (pl:Nat→Nat) (b p:Nat) (w:World):Ending→World→Prop where
 | ok {q n t A c w'} (h:v9u K ws pl b p w q n t (.slice A t.length c) w'):z0d K ws pl b p w (.returned (.slice A t.length c)) w'
 | bad {u w'} (pg:∀ pv acc,PG pv acc (ws.drop p) (.bad u)) (bt:But w.heap.size b w w'):z0d K ws pl b p w (.panicked [q4a (pl (ws.length - u.length))]) w'
theorem z7o {ws:List Wd} {p q:Nat} (h:p≤q) (hq:q<ws.length):(ws.drop p).take (q+1 - p)=(ws.drop p).take (q - p)++[ws[q]]:=by
 rw [show q+1 - p=q - p+1 by omega,List.take_succ_eq_append_getElem (by rw [List.length_drop];omega)]
 congr 2
 rw [List.getElem_drop]
 congr 1
 omega
theorem k6c (ws:List Wd) {p q:Nat} (h:p≤q):ws.drop p=(ws.drop p).take (q - p)++ws.drop q:=by
 have e:ws.drop q=(ws.drop p).drop (q - p):=by rw [List.drop_drop];congr 1;omega
 rw [e,List.take_append_drop]
theorem k8a {K:LwK} {ws:List Wd} {pl:Nat→Nat} {b p:Nat} {w:World} (htk:∀ x∈ws,q3p x) (htot:(ws.map List.length).sum≤60000) (hp:p<ws.length) (hn:ws[p].headD 0=35) (hbV:∀ w',But w.heap.size b w w'→q7d w') (h:Ry K ws pl b p w) :
  Calls Tryz.prog 105 #[.pointer (some ⟨b,0,none⟩)] w fun e w'=>z0d K ws pl b p w e w':=by
 have HTK:Hid (∀ x∈ws,q3p x):=htk
 have HTV:Hid (∀ w',But w.heap.size b w w'→q7d w'):=hbV
 have HLW:Hid (∀ x∈ws,x.length≤60000):=fun x hx=>by
  have:=z9l ws x hx
  omega
 have HSZ:Hid (∀ q,szW (((ws.drop p).take (q - p)).flatMap q8q)≤120000):=fun q=>by
  have h1:=j0z ((ws.drop p).take (q - p))
  have h2:=v1b ws p (q - p)
  omega
 have hbw:b<w.heap.size:=h.row.lt
 have hgw:=h.gwlt
 have hga:=h.galt
 have HV0:Hid (y4m K ws pl b p w p [] (.slice none 0 0) w):=⟨Nat.le_refl _,World.ownsRow_nil _ _ _ _,h,But.refl _ _ _,by simp,fun x hx=>by simp at hx⟩
 clear h htk hbV
 go_enter Tryz.func105,Tryz.ntmps105
 go_wp2_with fail
 go_loopw [3] (fun x wr=>∃ (q:Nat) (W:List Wd) (A:Option Addr) (n c:Nat),x = .slice A n c∧W.length=n∧y4m K ws pl b p w q W (.slice A n c) wr) (fun _ wr=>k7c wr b)
 case atStart=>exact ⟨p,[],_,_,_,rfl,rfl,HV0.out⟩
 case round=>
  obtain ⟨q,W,A,n,c,rfl,hWn,hV⟩:=hrel
  have hqle:=hV.rd.le
  have HV:=(show Hid (_) from hV)
  have HWN:Hid (W.length=n):=hWn
  have hwb:=hV.bt.size
  have HL1:Hid (Calls Tryz.prog 79 #[.pointer (some ⟨b,0,none⟩)] wr fun e w'=>e = .returned (.string (wbS (ws.getD q [])))∧wr=w'):=(q5i hV.rd).mono fun _ _ h=>⟨h.1,h.2.symm⟩
  have HL2:Hid (Calls Tryz.prog 104 #[.string (wbS (ws.getD q []))] wr fun e w'=>e = .returned (.bool (decide ((ws.getD q []).headD 0=35)))∧wr=w'):=(z4b _ wr).mono fun _ _ h=>⟨h.1,h.2.symm⟩
  by_cases hnt:(ws.getD q []).headD 0=35
  ·have hq:q<ws.length:=by
    rcases Nat.lt_or_ge q ws.length with h' | h'
    ·exact h'
    ·rw [q5m h'] at hnt;simp at hnt
   rw [decide_eq_true hnt] at HL2
   rw [q3a hq] at hnt HL1 HL2
   have hisn:=y3a (HTK.out _ (List.getElem_mem hq)) hnt
   have HN:Hid (Calls Tryz.prog 145 #[.pointer (some ⟨b,0,none⟩)] wr fun e w'=>e = .returned (.string (wbS ws[q]))∧Ry K ws pl b (q+1) w'∧But wr.heap.size b wr w'):=q7b hV.rd hq
   have hszx:1≤(wbS ws[q]).size:=by
    have:=j5g (HTK.out _ (List.getElem_mem hq))
    rw [←q0b];exact this
   have HF:Hid (∀ W',But w.heap.size b w W'→Calls Tryz.prog 118 #[.string ((wbS ws[q]).extract 1 (wbS ws[q]).size)] W' fun e w'=>∃ g,e = .returned (.slice (some ⟨g,0,none⟩) (q8q ws[q]).length (q8q ws[q]).length)∧Wds w' (some ⟨g,0,none⟩) ((q8q ws[q]).map wbS)∧Below W'.heap.size W' w'):=fun W' hB=>by
    rw [v9j rfl]
    exact k6g hisn (HLW.out _ (List.getElem_mem hq)) W' (HTV.out W' hB)
   have hsz:=HSZ.out (q+1)
   rw [z7o hV.pq hq,List.flatMap_append,←hV.eq,List.flatMap_singleton,k2q] at hsz
   have hl1:=z7n W
   have hl2:=z7n (q8q ws[q])
   have hnl:n+(q8q ws[q]).length≤1000000:=by omega
   have HX:Hid (∀ A2 c2 w2,q1x w.heap.size (.slice A2 (n+(q8q ws[q]).length) c2) (W.map wbS++(q8q ws[q]).map wbS) w2→Ry K ws pl b (q+1) w2→But w.heap.size b w w2→(W++q8q ws[q]).length=n+(q8q ws[q]).length∧y4m K ws pl b p w (q+1) (W++q8q ws[q]) (.slice A2 (n+(q8q ws[q]).length) c2) w2):=fun A2 c2 w2 h1 h2 h3=>by
    refine ⟨by rw [List.length_append,HWN.out],Nat.le_succ_of_le HV.out.pq,by rw [List.map_append];exact h1,h2,h3,?_,?_⟩
    ·rw [z7o HV.out.pq hq,List.flatMap_append,←HV.out.eq,List.flatMap_singleton]
    ·rw [z7o HV.out.pq hq]
     intro x hx
     rcases List.mem_append.1 hx with hx | hx
     ·exact HV.out.nt x hx
     ·rw [List.mem_singleton] at hx
      rw [hx];exact hisn
   have HFL:Hid (((q8q ws[q]).map wbS).length=(q8q ws[q]).length):=List.length_map ..
   have HML:Hid ((W.map wbS).length=n):=(show _=_ by rw [List.length_map];exact hWn)
   generalize wbS ws[q]=S at HL1 HL2 HN HF hszx
   generalize (q8q ws[q]).map wbS=FS at HF HX HFL
   generalize (q8q ws[q]).length=fn at HF HX hnl HFL hsz hl2
   clear hV hWn hnt hisn hsz hl1 hl2
   go_wp2_with fail
   refine HL1.out.mono ?_
   rintro e w1 ⟨rfl,rfl⟩
   go_wp2_with fail
   refine HL2.out.mono ?_
   rintro e w1 ⟨rfl,rfl⟩
   go_wp2_with fail
   refine HN.out.mono ?_
   rintro e w3 ⟨rfl,h3,b3⟩
   have hs3:=b3.size
   have HB3:Hid (But w.heap.size b w w3):=HV.out.bt.trans (b3.mono hwb)
   have HR3:Hid (Ry K ws pl b (q+1) w3):=h3
   have HO3:Hid (q1x w.heap.size (.slice A n c) (W.map wbS) w3):=by
    refine ⟨HV.out.o.1,?_⟩
    rcases HV.out.o.2 with h0 | ⟨g,c',cur,hv,hB,hg,rest⟩
    ·exact .inl h0
    ·exact .inr ⟨g,c',cur,hv,hB,(b3.block g (Array.getElem?_eq_some_iff.1 hg).1 (by omega)).trans hg,rest⟩
   clear h3 b3 HN HL1 HL2
   go_wp2_with fail
   refine (HF.out w3 HB3.out).mono ?_
   rintro e w4 ⟨g,rfl,hW4,b4⟩
   have hs4:=b4.size
   have HO4:Hid (q1x w.heap.size (.slice A n c) (W.map wbS) w4):=q1w HO3.out b4
   have HW4:Hid (Wds w4 (some ⟨g,0,none⟩) FS):=hW4
   have HR4:Hid (Ry K ws pl b (q+1) w4):=HR3.out.keep b4
   have HB4:Hid (But w.heap.size b w w4):=HB3.out.trans (But.of (b4.mono (by omega)))
   have hb4:b<w4.heap.size:=HR4.out.row.lt
   clear hW4 b4 HO3 HR3 HB3
   go_wp2_with (at_builtin;refine z5u rfl _ _ rfl w.heap.size _ (W.map wbS) rfl HO4.out (some ⟨g,0,none⟩) fn FS HFL.out fn rfl HW4.out (fun e=>by cases e) (n+fn) (by rw [HML.out]) hnl (by omega) ?_)
   intro A5 c5 w5 hown5 hgrow5
   have hX5:=HX.out A5 c5 w5 hown5 ?rd5 ?bt5
   case rd5=>exact HR4.out.keepB ((Below.refl w.heap.size w4).grown hgrow5 (by omega) (fun k hk=>(World.ownsRow.lt HO4.out k hk).1)) hbw hgw hga
   case bt5=>exact HB4.out.grown hgrow5 (by omega) (fun k hk=>(World.ownsRow.lt HO4.out k hk).1)
   have HX5:=(show Hid (_) from hX5)
   clear hX5 hown5 hgrow5
   go_wp2
   refine ⟨⟨q+1,_,A5,n+fn,c5,rfl,HX5.out.1,HX5.out.2⟩,?_⟩
   rw [HX5.out.2.rd.len_eq,HV.out.rd.len_eq]
   omega
  ·rw [decide_eq_false hnt] at HL2
   have hpq:p<q:=by
    rcases Nat.eq_or_lt_of_le hV.pq with e | e
    ·subst e
     rw [q3a hp] at hnt
     exact absurd hn hnt
    ·exact e
   have hszq:=HSZ.out q
   rw [←hV.eq] at hszq
   have HJ:Hid (Calls Tryz.prog 86 #[.slice A n c,.string ⟨#[32]⟩] wr fun e w'=>e = .returned (.string (wbS (jb W)))∧Below wr.heap.size wr w'):=j1q hV.o (by omega)
   have HX:Hid (∀ w1,Below wr.heap.size wr w1→z0d K ws pl b p w (.returned (.slice (some ⟨w1.heap.size,0,none⟩) 1 1)) (w1.alloc (.cells #[.int .i64 9,.string (wbS (jb W)),.int .i64 0] 71))):=fun w1 hb1=>by
    have hV:=HV.out
    have hs1:=hb1.size
    have hbt:But w.heap.size b w w1:=hV.bt.trans (But.of (hb1.mono hwb))
    refine z0d.ok (q:=q) (n:=true) (t:=[ntT (jb W)]) ⟨hpq,(q1o.one w1 (ntT (jb W))).down (by omega),by simp,by simp,(hV.rd.keep hb1).keep (q1j w1 _),hbt.alloc (by omega) _,fun pv acc r hpv hr=>?_,fun _ x hx=>?_⟩
    ·have hpf:pv=false:=by
      cases pv with
      | false=>rfl
      | true=>exact absurd hn (hpv rfl _ (List.getElem?_eq_getElem hp))
     subst hpf
     rw [k6c ws hV.pq]
     refine v0l (fun e=>?_) hV.nt ?_
     ·have:=congrArg List.length e
      rw [List.length_take,List.length_drop] at this
      simp only [List.length_nil] at this
      omega
     ·rw [←hV.eq];exact hr
    ·obtain ⟨hq,rfl⟩:=List.getElem?_eq_some_iff.1 hx
     rw [q3a hq] at hnt
     exact hnt
   generalize wbS (jb W)=J at HJ HX
   generalize wbS (ws.getD q [])=S at HL1 HL2
   clear hV hWn hnt hszq
   go_wp2_with fail
   refine HL1.out.mono ?_
   rintro e w1 ⟨rfl,rfl⟩
   go_wp2_with fail
   refine HL2.out.mono ?_
   rintro e w1 ⟨rfl,rfl⟩
   go_wp2_with fail
   refine HJ.out.mono ?_
   rintro e w1 ⟨rfl,b1⟩
   have HX1:=(show Hid (_) from HX.out w1 b1)
   clear b1
   go_wp2
   go_ret
   exact HX1.out
def q1d (ds:List Nd):List Value:=ds.flatMap fun x=>[.int .i64 x.op,.string x.tx,.int .i64 x.n]
theorem q8j:∀ ds:List Nd,(q1d ds).length=ds.length*3
 | []=>rfl
 | x::r=>by
  have:=q8j r
  unfold q1d at this ⊢
  rw [List.flatMap_cons,List.length_append,this,List.length_cons]
  simp
  omega
theorem k1z (a b:List Nd):q1d (a++b)=q1d a++q1d b:=by simp [q1d,List.flatMap_append]
theorem z1a:∀ (ds:List Nd) (i:Nat) (h:i<ds.length),(q1d ds)[i*3]? = some (.int .i64 ds[i].op)∧(q1d ds)[i*3+1]? = some (.string ds[i].tx)∧(q1d ds)[i*3+2]? = some (.int .i64 ds[i].n)
 | x::r,0,_=>by simp [q1d]
 | x::r,i+1,h=>by
  have h1:=z1a r i (by simpa using h)
  have e:q1d (x::r) = .int .i64 x.op::.string x.tx::.int .i64 x.n::q1d r:=by simp [q1d]
  rw [e,show (i+1)*3=i*3+1+1+1 by omega]
  exact h1
theorem k2b (ds:List Nd):∀ u∈q1d ds,u.oneCell'=true:=by
 intro u hu
 obtain ⟨x,_,hx⟩:=List.mem_flatMap.1 hu
 simp at hx
 rcases hx with rfl | rfl | rfl<;>rfl
theorem k2a (ds:List Nd) (j:Nat) (u:Value) (h:(q1d ds)[j]? = some u):∃ i,∃ hi:i<ds.length,(j=i*3∧u = .int .i64 ds[i].op)∨(j=i*3+1∧u = .string ds[i].tx)∨(j=i*3+2∧u = .int .i64 ds[i].n):=by
 have hj:j<ds.length*3:=by rw [←q8j];exact (List.getElem?_eq_some_iff.1 h).1
 have hi:j / 3<ds.length:=by omega
 obtain ⟨h0,h1,h2⟩:=z1a ds (j / 3) hi
 refine ⟨j / 3,hi,?_⟩
 have h3:j=j / 3*3∨j=j / 3*3+1∨j=j / 3*3+2:=by omega
 rcases h3 with e | e | e
 ·rw [←e,h] at h0;exact .inl ⟨e,Option.some.inj h0⟩
 ·rw [←e,h] at h1;exact .inr (.inl ⟨e,Option.some.inj h1⟩)
 ·rw [←e,h] at h2;exact .inr (.inr ⟨e,Option.some.inj h2⟩)
theorem v3k:(Tryz.prog.info? 131).map (fun i=>(i.zero,i.size,i.bytes))=some (some (.agg #[.int .i64 0,.string ⟨#[]⟩,.int .i64 0]),3,32):=by kernel_rfl
theorem k4u {B:Nat} {w:World} {a:Option Addr} {n cap:Nat} {ds:List Nd} (h:w.ownsRow B 131 3 (.slice a n cap) ds.length (q1d ds)):n=ds.length∧ds.length≤cap∧q2y w a ds:=by
 rcases h.2 with ⟨hv,h0⟩ | ⟨g,c,cur,hv,_,hg,hnc,_,hsz,htake⟩
 ·simp only [Value.slice.injEq] at hv
  obtain ⟨rfl,rfl,rfl⟩:=hv
  refine ⟨h0.symm,by omega,fun i hi=>?_⟩
  omega
 ·simp only [Value.slice.injEq] at hv
  obtain ⟨rfl,rfl,rfl⟩:=hv
  refine ⟨rfl,hnc,fun i hi=>?_⟩
  have hlt:g<w.heap.size:=by
   rcases Nat.lt_or_ge g w.heap.size with h' | h'
   ·exact h'
   ·simp [Array.getElem?_eq_none h'] at hg
  have hcell:∀ k u,(q1d ds)[k]? = some u→w.cell? ⟨g,k,none⟩=some u:=by
   intro k u hk
   rw [←htake] at hk
   have hk2:k<ds.length*3:=by
    have:=(List.getElem?_eq_some_iff.1 hk).1
    simp at this
    omega
   rw [List.getElem?_take_of_lt hk2] at hk
   simp only [World.cell?,hg]
   simpa using hk
  obtain ⟨h0,h1,h2⟩:=z1a ds i hi
  refine ⟨g,0,rfl,hlt,?_,?_,?_⟩
  ·rw [Nat.zero_add];exact hcell _ _ h0
  ·rw [Nat.zero_add];exact hcell _ _ h1
  ·rw [Nat.zero_add];exact hcell _ _ h2
theorem j3b {w:World} {b o:Nat} {ds:List Nd} (h:q2y w (some ⟨b,o,none⟩) ds):∀ j u,(q1d ds)[j]? = some u→w.cell? ((⟨b,o,none⟩:Addr).add j)=some u:=by
 intro j u hj
 obtain ⟨i,hi,hc⟩:=k2a ds j u hj
 obtain ⟨b',o',e,_,c1,c2,c3⟩:=h i hi
 simp only [Option.some.injEq,Addr.mk.injEq,and_true] at e
 obtain ⟨rfl,rfl⟩:=e
 have ha:∀ k,(⟨b,o,none⟩:Addr).add k=⟨b,o+k,none⟩:=by
  intro k
  unfold Addr.add
  split
  ·rename_i h;subst h;rfl
  ·rfl
 rw [ha]
 rcases hc with ⟨rfl,rfl⟩ | ⟨rfl,rfl⟩ | ⟨rfl,rfl⟩
 ·exact c1
 ·rw [show o+(i*3+1)=o+i*3+1 by omega];exact c2
 ·rw [show o+(i*3+2)=o+i*3+2 by omega];exact c3
def q8p (B:Nat) (v:Value) (xs:List Nd) (w:World):Prop:=w.ownsRow B 131 3 v xs.length (q1d xs)
theorem q8p.nods {B:Nat} {w:World} {A:Option Addr} {n c:Nat} {xs:List Nd} (h:q8p B (.slice A n c) xs w):q2y w A xs:=(k4u h).2.2
theorem q8p.none {B:Nat} {w:World} {A:Option Addr} {n c:Nat} {xs:List Nd} (h:q8p B (.slice A n c) xs w):n=xs.length∧(A=none→n=0∧c=0):=by
 rcases h.2 with ⟨hv,h0⟩ | ⟨g,c',cur,hv,_⟩
 ·simp only [Value.slice.injEq] at hv
  obtain ⟨rfl,rfl,rfl⟩:=hv
  exact ⟨h0.symm,fun _=>⟨rfl,rfl⟩⟩
 ·simp only [Value.slice.injEq] at hv
  obtain ⟨rfl,rfl,rfl⟩:=hv
  exact ⟨rfl,fun e=>by cases e⟩
theorem v4q {w:World} {ops:Array Oper} {rest:List Oper} {o:Oper} {a:Act} {Q:Exit→Act→World→Prop} (hgd:o.guard=none) (s x:Operand)
  (ho:o.op = .call { callee:=.builtin .append,args:=#[s,x],argTypes:=#[91,91] })
  (base:Nat) (v:Value) (xs:List Nd) (hs:a.eval s=v) (hown:q8p base v xs w)
  (wa:Option Addr) (n:Nat) (ws:List Nd) (hn:ws.length=n) (wc:Nat) (hx:a.eval x = .slice wa n wc) (hW:q2y w wa ws) (hnil:wa=none→n=0∧wc=0)
  (m:Nat) (hm:xs.length+n=m) (hb:m≤1000000) (hbase:base≤w.heap.size)
  (h:∀ A c w',q8p base (.slice A m c) (xs++ws) w'→w.grownBy w' v.ownBlock→wpList Tryz.prog ops Q rest (a.put o.dst (.slice A m c)) w'):wpList Tryz.prog ops Q (o::rest) a w:=by
 subst hn hm
 obtain ⟨i0,hi,hz0,hz1,hz2⟩:=info_parts v3k
 have h':∀ v' w',q8p base v' (xs++ws) w'→w.grownBy w' v.ownBlock→wpList Tryz.prog ops Q rest (a.put o.dst v') w':=by
  intro v' w' h1 h2
  obtain ⟨A,c,rfl⟩:∃ A c,v' = .slice A (xs.length+ws.length) c:=by
   rcases h1.2 with ⟨hv,h0⟩ | ⟨g,c,cur,hv,_⟩
   ·rw [List.length_append] at h0;exact ⟨.none,0,by rw [hv,h0]⟩
   ·rw [List.length_append] at hv;exact ⟨_,c,hv⟩
  exact h A c w' h1 h2
 cases wa with
 | none=>
  obtain ⟨h0,rfl⟩:=hnil rfl
  obtain rfl:ws=[]:=List.eq_nil_of_length_eq_zero h0
  refine wpList_append_own_none hgd s x 91 ho base 131 i0 3 Tryz.underlying91 hi v xs.length (q1d xs) hs hown hx ?_
  refine h' v w ?_ ⟨rfl,rfl,rfl,Nat.le_refl _,fun _ _ _=>rfl⟩
  rw [List.append_nil]
  exact hown
 | some ad=>
  have hsp:ws=[]∨∃ b o,ad=⟨b,o,Option.none⟩:=by
   rcases Nat.eq_zero_or_pos ws.length with h0 | h0
   ·exact .inl (List.eq_nil_of_length_eq_zero h0)
   ·obtain ⟨b,o,e,_⟩:=hW 0 h0
    exact .inr ⟨b,o,by simpa using e⟩
  refine wpList_append_own w hgd s x 91 ho base 131 i0 _ 3 32 Tryz.underlying91 hi hz0 hz1 hz2 rfl (by decide) v xs.length (q1d xs) hs hown ad ws.length wc (q1d ws) hx (q8j ws) ?_ (k2b ws) (by unfold maxLen;omega) (by omega) hbase ?_
  ·rcases hsp with rfl | ⟨b,o,rfl⟩
   ·intro j u hj;simp [q1d] at hj
   ·exact j3b hW
  ·intro v' w' h1 h2 _
   rw [←k1z] at h1
   refine h' v' w' ?_ h2
   show w'.ownsRow _ _ _ _ _ _
   rw [List.length_append]
   exact h1
theorem q8p.down {B B':Nat} {v:Value} {xs:List Nd} {w:World} (h:q8p B v xs w) (hB:B'≤B):q8p B' v xs w:=by
 refine ⟨h.1,?_⟩
 rcases h.2 with h0 | ⟨g,c,cur,hv,hg,rest⟩
 ·exact .inl h0
 ·exact .inr ⟨g,c,cur,hv,by omega,rest⟩
theorem q8p.kept {B:Nat} {v:Value} {xs:List Nd} {w w':World} (h:q8p B v xs w) (hk:∀ g,B≤g→g<w.heap.size→w'.heap[g]? = w.heap[g]?):q8p B v xs w':=by
 refine ⟨h.1,?_⟩
 rcases h.2 with h0 | ⟨g,c,cur,hv,hB,hg,rest⟩
 ·exact .inl h0
 ·exact .inr ⟨g,c,cur,hv,hB,(hk g hB (Array.getElem?_eq_some_iff.1 hg).1).trans hg,rest⟩
theorem q8p.one (w:World) (x:Nd):q8p w.heap.size (.slice (some ⟨w.heap.size,0,Option.none⟩) 1 1) [x] (w.alloc (.cells #[.int .i64 x.op,.string x.tx,.int .i64 x.n] 131)):=by
 have h1:(w.alloc (.cells #[.int .i64 x.op,.string x.tx,.int .i64 x.n] 131)).heap[w.heap.size]? = some (.cells #[.int .i64 x.op,.string x.tx,.int .i64 x.n] 131 (0,0)):=by
  show (w.heap.push _)[w.heap.size]? = _
  simp
 exact ⟨rfl,.inr ⟨w.heap.size,1,_,rfl,Nat.le_refl _,h1,Nat.le_refl _,by unfold maxLen;decide,rfl,rfl⟩⟩
theorem j2i (n:Nat) (h1:0<n) (hn:n≤1000000) (w:World) :
  Calls Tryz.prog 238 #[.slice none 0 0,.int .i64 (n:Int)] w fun e w'=>∃ c,e = .returned (.slice (some ⟨w.heap.size,0,none⟩) 0 c)∧q8p w.heap.size (.slice (some ⟨w.heap.size,0,none⟩) 0 c) [] w'∧Below w.heap.size w w':=by
 obtain ⟨i0,hi,hz0,hz1,hz2⟩:=info_parts v3k
 have hrz:∀ ty,(Builtin.append_ #[91,3] ty #[.slice none 0 0,.int .i64 (n:Int)]).run Tryz.prog w =
   .ok (.slice (some ⟨w.heap.size,0,none⟩) n (grownCap w n 0 131)) (w.drew.alloc (.cells (#[]++Builtin.zeroCells (Value.agg #[.int .i64 0,.string ⟨#[]⟩,.int .i64 0]).cells n++Builtin.zeroCells (Value.agg #[.int .i64 0,.string ⟨#[]⟩,.int .i64 0]).cells (grownCap w n 0 131 - n)) 131)):=fun ty=>by
  have hold:(Builtin.firstCells i0.size 0 (.slice none 0 0)).run Tryz.prog w.drew = .ok ([]:List Value).toArray w.drew:=run_firstCells_none w.drew i0.size 0 0 0
  have h:=Lib.run_append_grow_zeros w 91 3 ty 131 i0 _ .i64 .i64 Tryz.underlying91 Tryz.underlying3 hi hz0 none 0 0 [] hold n h1 (by omega) (by omega) (by omega) (by rw [hz2];omega) (growslice_fits (by omega) (by rw [hz2];omega))
  simp only [Nat.zero_add] at h
  exact h
 have hGn:n≤grownCap w n 0 131:=grownCap_ge w _ _ _
 have hGm:=grownCap_le_maxLen w n 0 131 (by unfold maxLen;omega)
 generalize grownCap w n 0 131=G at hrz hGn hGm
 have hG63:G≤9223372036854775807:=by unfold maxLen at hGm;omega
 have HO:Hid (q8p w.heap.size (.slice (some ⟨w.heap.size,0,none⟩) 0 G) [] (w.drew.alloc (.cells (#[]++Builtin.zeroCells (Value.agg #[.int .i64 0,.string ⟨#[]⟩,.int .i64 0]).cells n++Builtin.zeroCells (Value.agg #[.int .i64 0,.string ⟨#[]⟩,.int .i64 0]).cells (G - n)) 131))):=by
  refine ⟨rfl,.inr ⟨w.heap.size,G,_,rfl,Nat.le_refl _,heap_alloc_new w.drew _,Nat.zero_le _,hGm,?_,rfl⟩⟩
  simp only [Array.size_append,size_zeroCells,Array.size_empty]
  show 0+n*3+(G - n)*3=G*3
  omega
 have hni:(0:Int)<(n:Int):=by omega
 generalize (#[]++Builtin.zeroCells (Value.agg #[.int .i64 0,.string ⟨#[]⟩,.int .i64 0]).cells n++Builtin.zeroCells (Value.agg #[.int .i64 0,.string ⟨#[]⟩,.int .i64 0]).cells (G - n))=Z at hrz HO
 clear hi hz0 hz1 hz2 hGm
 go_enter Tryz.func238,Tryz.ntmps238
 go_wp2_with (at_builtin;refine Lib.wpList_append_run _ rfl _ _ _ _ rfl _ _ rfl rfl _ _ (hrz _) ?_)
 go_ret
 exact ⟨G,rfl,HO.out,Below.drew ((Below.refl _ _).alloc (Nat.le_refl _) _)⟩
def v4m (w:World) (a:Option Addr) (ps:List (List Nd)):Prop:=
 ∀ i (h:i<ps.length),∃ b o a' c',a=some ⟨b,o,none⟩∧b<w.heap.size∧w.cell? ⟨b,o+i,none⟩=some (.slice a' ps[i].length c')∧q2y w a' ps[i]∧(a'=none→ps[i].length=0∧c'=0)
theorem v4m.below {w w':World} {a:Option Addr} {ps:List (List Nd)} (h:v4m w a ps) (hb:Below w.heap.size w w'):v4m w' a ps:=by
 intro i hi
 obtain ⟨b,o,a',c',e,hlt,c1,c3,c4⟩:=h i hi
 exact ⟨b,o,a',c',e,Nat.lt_of_lt_of_le hlt hb.size,(hb.cell (p:=⟨b,_,none⟩) hlt).trans c1,c3.below hb,c4⟩
theorem z4p {ps:List (List Nd)} {i:Nat} (h:i<ps.length):(ps.take (i+1)).flatten=(ps.take i).flatten++ps[i]:=by
 rw [List.take_succ_eq_append_getElem h,List.flatten_append];simp
theorem z3d (ps:List (List Nd)) (i:Nat):(ps.take i).flatten.length≤ps.flatten.length:=by
 have h:ps.flatten=(ps.take i).flatten++(ps.drop i).flatten:=by rw [←List.flatten_append,List.take_append_drop]
 rw [h,List.length_append];omega
structure y4h (w:World) (ps:List (List Nd)) (i:Nat) (v:Value) (wr:World):Prop where
 le:i≤ps.length
 o:q8p w.heap.size v (ps.take i).flatten wr
 b:Below w.heap.size w wr
theorem z3g (ps:List (List Nd)) (a:Option Addr) (c:Nat) (w:World) (hP:v4m w a ps) (h0:0<ps.flatten.length) (hl:ps.flatten.length≤900000) (hp:ps.length≤10) :
  Calls Tryz.prog 218 #[.slice a ps.length c] w fun e w'=>∃ A c',e = .returned (.slice A ps.flatten.length c')∧q8p w.heap.size (.slice A ps.flatten.length c') ps.flatten w'∧Below w.heap.size w w':=by
 have HP:Hid (v4m w a ps):=hP
 have HG:Hid (Calls Tryz.prog 238 #[.slice none 0 0,.int .i64 (ps.flatten.length:Int)] w fun e w'=>∃ c,e = .returned (.slice (some ⟨w.heap.size,0,none⟩) 0 c)∧q8p w.heap.size (.slice (some ⟨w.heap.size,0,none⟩) 0 c) [] w'∧Below w.heap.size w w'):=j2i ps.flatten.length h0 (by omega) w
 clear hP
 generalize hN:ps.flatten.length=N at HG h0 hl ⊢
 have HN:Hid (ps.flatten.length=N):=hN
 clear hN
 go_enter Tryz.func218,Tryz.ntmps218
 go_wp2_with fail
 go_loopw [3,11] (fun s x wr=>w=wr∧∃ i:Nat,i≤ps.length∧x = .int .i64 (i:Int)∧s = .int .i64 ((ps.take i).flatten.length:Int)) (fun _ x _=>ps.length - (intOf x).toNat)
 case atStart=>exact ⟨rfl,0,Nat.zero_le _,rfl,rfl⟩
 case round=>
  obtain ⟨rfl,i,hi,rfl,rfl⟩:=hrel
  by_cases hlt:i<ps.length
  ·have hii:(i:Int)<(ps.length:Int):=by omega
   obtain ⟨b0,o0,A0,c0,rfl,hb0,d0,_,_⟩:=HP.out i hlt
   have hft:=congrArg List.length (z4p hlt)
   rw [List.length_append] at hft
   have hfl:=z3d ps (i+1)
   rw [HN.out] at hfl
   have HF:=(show Hid (_=_) from hft)
   have hs1:(ps.take i).flatten.length+ps[i].length≤900000:=by omega
   clear hft hfl
   generalize ps[i].length=pn at HF d0 hs1
   generalize (ps.take i).flatten.length=sn at HF hs1 ⊢
   have hs2:¬ (sn:Int)+(pn:Int)<0:=by omega
   go_wp2
   refine ⟨⟨trivial,i+1,hlt,by go_num,?_⟩,?_⟩
   ·rw [HF.out];go_num
   ·simp [intOf];omega
  ·have hii:¬ (i:Int)<(ps.length:Int):=by omega
   have hie:(ps.take i).flatten.length=N:=by rw [List.take_of_length_le (by omega)];exact HN.out
   rw [hie]
   clear hie
   go_wp2_with fail
   refine HG.out.mono ?_
   rintro e w1 ⟨c1,rfl,ho1,b1⟩
   have HC1:Hid (y4h w ps 0 (.slice (some ⟨w.heap.size,0,none⟩) 0 c1) w1):=⟨Nat.zero_le _,ho1,b1⟩
   clear ho1 b1
   go_wp2_with fail
   go_loopw [6,27] (fun v x w'=>∃ (i:Nat) (A:Option Addr) (n c:Nat),x = .int .i64 (i:Int)∧v = .slice A n c∧n=(ps.take i).flatten.length∧y4h w ps i (.slice A n c) w') (fun _ x _=>ps.length - (intOf x).toNat)
   case atStart=>exact ⟨0,_,_,_,rfl,rfl,rfl,HC1.out⟩
   case round=>
    obtain ⟨i,A,n,c2,rfl,rfl,hn,hC⟩:=hrel
    have hfl:=z3d ps i
    rw [HN.out,←hn] at hfl
    by_cases hlt:i<ps.length
    ·have hii:(i:Int)<(ps.length:Int):=by omega
     obtain ⟨b0,o0,A0,c0,rfl,hb0,d0,hT,hnil⟩:=HP.out.below hC.b i hlt
     have hft:=z4p hlt
     have hfl2:=z3d ps (i+1)
     rw [hft,List.length_append,HN.out,←hn] at hfl2
     have HF:=(show Hid (_=_) from hft)
     have HO:Hid (q8p w.heap.size (.slice A n c2) (ps.take i).flatten wr):=hC.o
     have HB:Hid (Below w.heap.size w wr):=hC.b
     have hsz:=hC.b.size
     have HT:Hid (q2y wr A0 ps[i]):=hT
     have HNI:Hid (A0=none→ps[i].length=0∧c0=0):=hnil
     have HL:Hid ((ps.take i).flatten.length=n):=hn.symm
     have HPL:Hid (∃ m,ps[i].length=m):=⟨_,rfl⟩
     generalize hpn:ps[i].length=pn at d0 hfl2 HNI
     have HPN:Hid (ps[i].length=pn):=hpn
     clear hft hT hnil hn hC hpn HPL hfl
     go_wp2_with (at_builtin;refine v4q rfl _ _ rfl w.heap.size _ (ps.take i).flatten rfl HO.out A0 pn ps[i] HPN.out c0 rfl HT.out HNI.out (n+pn) (by rw [HL.out]) (by omega) hsz ?_)
     intro A3 c3 w3 hown3 hgrow3
     have HX3:Hid (y4h w ps (i+1) (.slice A3 (n+pn) c3) w3):=by
      refine ⟨hlt,?_,HB.out.grown hgrow3 hsz (fun k hk=>(World.ownsRow.lt HO.out k hk).1)⟩
      rw [HF.out]
      exact hown3
     clear hown3 hgrow3
     go_wp2
     refine ⟨⟨i+1,A3,n+pn,c3,by go_num,rfl,?_,HX3.out⟩,?_⟩
     ·rw [HF.out,List.length_append,HL.out,HPN.out]
     ·simp [intOf];omega
    ·have hii:¬ (i:Int)<(ps.length:Int):=by omega
     have hie:ps.take i=ps:=List.take_of_length_le (by omega)
     obtain ⟨_,ho,hb⟩:=hC
     rw [hie] at ho hn
     rw [HN.out] at hn
     subst hn
     have HO:Hid (q8p w.heap.size (.slice A n c2) ps.flatten wr):=ho
     have HB:Hid (Below w.heap.size w wr):=hb
     clear ho hb hie
     go_wp2
     go_ret
     exact ⟨A,c2,rfl,HO.out,HB.out⟩
def NdV (w:World) (v:Value) (xs:List Nd):Prop:=∃ A c,v = .slice A xs.length c∧q2y w A xs∧(A=none→xs.length=0∧c=0)
theorem q8p.val {B:Nat} {w:World} {A:Option Addr} {c:Nat} {xs:List Nd} (h:q8p B (.slice A xs.length c) xs w):NdV w (.slice A xs.length c) xs:=⟨A,c,rfl,h.nods,h.none.2⟩
def NdR (w:World) (xs:List Nd) (e:Ending) (w':World):Prop:=∃ A c,e = .returned (.slice A xs.length c)∧q8p w.heap.size (.slice A xs.length c) xs w'∧Below w.heap.size w w'
theorem NdR.val {w:World} {xs:List Nd} {e:Ending} {w':World} (h:NdR w xs e w'):∃ v,e = .returned v∧NdV w' v xs∧Below w.heap.size w w':=by
 obtain ⟨A,c,e,h1,h2⟩:=h
 exact ⟨_,e,h1.val,h2⟩
end Go.Proofs.YtchdplceopegoaaGreatDoor
