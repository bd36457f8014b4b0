import Derived.StringKeys
import Derived.Test.YthcpdohdppkmkaaGreatDoorPu44
open Go.Proofs.Tryz
namespace Go.Proofs.YthcpdohdppkmkaaGreatDoor
open Go Go.RowKit Go.Maps
def kyB(t:List Td):ByteArray:=wbS (q1o [t])
theorem k6h{t u:List Td}(ht:q0d t=0)(hu:q0d u=0)(h:kyB t=kyB u):t=u:=by
 have e:∀v:List Td,btL (kyB v)=q3g v++[10]:=fun v=>(show q1o [v]=_ by simp[q1o])
 have h1:btL (kyB t)=btL (kyB u):=by rw[h]
 rw[e,e]at h1;exact j1p ht hu (List.append_cancel_right h1)
theorem k6i{t:List Td}(h:q0d t=0):(kyB t).size<=2001:=by
 rw[kyB,y8p]
 have:=j1q h
 simp[q1o];omega
theorem k9q{a b:ByteArray}(h:a.data.toList=b.data.toList):a=b:=by
 cases a;cases b
 congr 1
 exact Array.toList_inj.1 h
theorem y4u:Keyed prog 9:=string_keyed Tryz.underlying9
theorem g4g{s:ByteArray}(h:s.size<=1000000):keyOf prog 9 (.string s)=some (.string s.data.toList):=WideMaps.keyOf_string_mk Tryz.underlying9 (by unfold maxLen;omega)
abbrev enV(A:Option Addr)(l c:Nat)(s:ByteArray):Value:=.agg #[.slice A l c,.string s]
abbrev zEn:Value:=enV none 0 0 ⟨#[]⟩
theorem v6c(w:World):(zeroValue 195).run prog w=.ok zEn w:=by kernel_rfl
structure Blk(w:World)(x:Nat):Prop where
 cs:∃c T f,w.heap[x]?=some (.cells c T f)
 str:∀o s,w.cell? ⟨x,o,none⟩≠some (.string s)
section
variable {w w':World} {x:Nat}
theorem Tds.apart{a:Option Addr}{ds:List Td}(h:Tds w a ds)(hx:q0p w x w w')(hn:Blk w x):Tds w' a ds:=by
 intro i hi;obtain⟨b,o,e,hlt,c1,c2,c3⟩:=h i hi
 have hb:b≠x:=by
  rintro rfl;exact hn.str _ _ c2
 have:=hx.size
 exact⟨b,o,e,by omega,(hx.cell (p:=⟨b,_,none⟩) hlt hb).trans c1,(hx.cell (p:=⟨b,_,none⟩) hlt hb).trans c2,(hx.cell (p:=⟨b,_,none⟩) hlt hb).trans c3⟩
theorem Wds.apart{a:Option Addr}{ws:List ByteArray}(h:Wds w a ws)(hx:q0p w x w w')(hn:Blk w x):Wds w' a ws:=by
 intro i hi;obtain⟨b,o,e,hlt,c1⟩:=h i hi
 have hb:b≠x:=by
  rintro rfl;exact hn.str _ _ c1
 have:=hx.size
 exact⟨b,o,e,by omega,(hx.cell (p:=⟨b,_,none⟩) hlt hb).trans c1⟩
end
def KnM(w0 w:World)(b:Nat)(qs:List (List Td))(n:Nat):Prop:=
 ∃D m,w.ownsMap prog 9 cvR b m D/\m<=qs.length/\
  (∀t∈qs,∃A c,has D (.string (kyB t).data.toList)=true/\D.atKey (.string (kyB t).data.toList) (.held zEn)=.held (enV A t.length c (wbS (q4r n t)))/\t.length<=c/\Tds w0 A t)/\
  ∀k:ByteArray,(∀t∈qs,kyB t≠k)->has D (.string k.data.toList)=false/\D.atKey (.string k.data.toList) (.held zEn)=.held zEn
section
variable {w0 w w':World} {b n:Nat} {qs:List (List Td)} {t:List Td}
theorem KnM.lt(h:KnM w0 w b qs n):b<w.heap.size:=by
 obtain⟨D,m,h,_⟩:=h;exact h.lt
theorem KnM.isMap(h:KnM w0 w b qs n):∃es cl,w.heap[b]?=some (.map es cl):=by
 obtain⟨D,m,⟨es,cl,h1,_⟩,_⟩:=h;exact⟨es,cl,h1⟩
theorem KnM.kept(h:KnM w0 w b qs n)(hb:w'.heap[b]?=w.heap[b]?):KnM w0 w' b qs n:=by
 obtain⟨D,m,⟨es,cl,h1,h2⟩,h3⟩:=h;exact⟨D,m,⟨es,cl,hb.trans h1,h2⟩,h3⟩
theorem KnM.up{w1:World}(h:KnM w0 w b qs n)(hT:∀A t,Tds w0 A t->Tds w1 A t):KnM w1 w b qs n:=by
 obtain⟨D,m,h2,h3,h4,h5⟩:=h;refine⟨D,m,h2,h3,fun t ht=>?_,h5⟩;obtain⟨A,c,q1,q2,q3,q4⟩:=h4 t ht;exact⟨A,c,q1,q2,q3,hT A t q4⟩
theorem KnM.W(h:KnM w w b qs n)(hb:Below w w w'):KnM w' w' b qs n:=(h.kept (hb.block b h.lt)).up fun _ _ q=>q.W hb
theorem KnM.apart{x:Nat}(h:KnM w w b qs n)(hx:q0p w x w w')(hn:Blk w x):KnM w' w' b qs n:=by
 refine(h.kept (hx.block b h.lt ?_)).up fun _ _ q=>q.apart hx hn
 rintro rfl;obtain⟨es,cl,h1⟩:=h.isMap;obtain⟨c,T,f,h2⟩:=hn.cs;rw[h1]at h2;cases h2
theorem KnM.made(w0 w:World)(n:Nat):KnM w0 (w.alloc (.map #[] 0)) w.heap.size [] n:=
 ⟨.map [],0,World.ownsMap_made _ _ _ _,Nat.zero_le _,fun t ht=>by simp at ht,fun _ _=>⟨rfl,rfl⟩⟩
theorem KnM.look(h:KnM w0 w b qs n)(ht:t∈qs)(h0:q0d t=0):∃A c,(Instr.lookup 139 (.map (some b)) (.string (kyB t)) false).run prog w=.ok (enV A t.length c (wbS (q4r n t))) w/\
  (Instr.lookup 139 (.map (some b)) (.string (kyB t)) true).run prog w=.ok (.tuple #[enV A t.length c (wbS (q4r n t)),.bool true]) w/\t.length<=c/\Tds w0 A t:=by
 obtain⟨D,m,h,_,h2,_⟩:=h;obtain⟨A,c,q1,q2,q3,q4⟩:=h2 t ht;have hk:=g4g (s:=kyB t) (by have:=k6i h0;omega);refine⟨A,c,?_,?_,q3,q4⟩
 ·obtain⟨v,ps,hrun,hv⟩:=h.lookup y4u Tryz.underlying139 (v6c w) (zd:=.held zEn) (zp:=[]) rfl hk;rw[q2]at hv;simp only[cvR,Option.some.injEq,Prod.mk.injEq,DataW.held.injEq]at hv;rw[hrun,hv.1]
 ·obtain⟨v,ps,hrun,hv⟩:=h.look_ok y4u Tryz.underlying139 (v6c w) (zd:=.held zEn) (zp:=[]) rfl hk;rw[q2]at hv;simp only[cvR,Option.some.injEq,Prod.mk.injEq,DataW.held.injEq]at hv;rw[hrun,hv.1,q1]
theorem KnM.miss(h:KnM w0 w b qs n){k:ByteArray}(hl:k.size<=1000000)(hno:∀t∈qs,kyB t≠k):
  (Instr.lookup 139 (.map (some b)) (.string k) true).run prog w=.ok (.tuple #[zEn,.bool false]) w:=by
 obtain⟨D,m,h,_,_,h3⟩:=h;obtain⟨q1,q2⟩:=h3 k hno;obtain⟨v,ps,hrun,hv⟩:=h.look_ok y4u Tryz.underlying139 (v6c w) (zd:=.held zEn) (zp:=[]) rfl (g4g hl);rw[q2]at hv;simp only[cvR,Option.some.injEq,Prod.mk.injEq,DataW.held.injEq]at hv;rw[hrun,hv.1,q1]
theorem v8c(w:World){k:ByteArray}(hl:k.size<=1000000):
  (Instr.lookup 139 (.map none) (.string k) true).run prog w=.ok (.tuple #[zEn,.bool false]) w:=by
 rw[Maps.look_nil true y4u Tryz.underlying139 (v6c w) (g4g hl)];rfl
theorem KnM.again(h:KnM w0 w b qs n)(ht:t∈qs):KnM w0 w b (qs++[t]) n:=by
 obtain⟨D,m,h,hm,h2,h3⟩:=h;refine⟨D,m,h,by rw[List.length_append];omega,fun u hu=>?_,fun k hk=>h3 k fun u hu=>hk u (by simp[hu])⟩;rcases List.mem_append.1 hu with e|e
 ·exact h2 u e
 ·simp at e;exact h2 u (e ▸ ht)
theorem KnM.put(h:KnM w0 w b qs n)(hok:∀u∈qs,q0d u=0)(hl:qs.length<=20)(h0:q0d t=0)(hno:t∉qs){A:Option Addr}{c:Nat}(hc:t.length<=c)(hT:Tds w0 A t):
  ∃w',(Instr.mapUpdate 139 (.map (some b)) (.string (kyB t)) (enV A t.length c (wbS (q4r n t)))).run prog w=.ok () w'/\KnM w0 w' b (qs++[t]) n/\w.grownBy w' (some b):=by
 obtain⟨D,m,h,hm,h2,h3⟩:=h;have hk:=g4g (s:=kyB t) (by have:=k6i h0;omega);obtain⟨w1,hrun,hown,hg⟩:=h.update y4u Tryz.underlying139 (by unfold maxLen;omega) hk (d:=.held (enV A t.length c (wbS (q4r n t)))) (ps:=[]) (val:=enV A t.length c (wbS (q4r n t))) rfl;refine⟨w1,hrun,⟨_,_,hown,by rw[List.length_append,List.length_singleton];omega,fun u hu=>?_,fun k hkn=>?_⟩,hg⟩
 ·by_cases e:u=t
  ·subst e;exact⟨A,c,has_put_same h.isMap (y4u.key hk) _,atKey_put_same h.isMap (y4u.key hk) _ _,hc,hT⟩
  ·have hu':u∈qs:=by
    rcases List.mem_append.1 hu with e2|e2
    ·exact e2
    ·simp at e2;exact absurd e2 e
   obtain⟨A',c',q1,q2,q3,q4⟩:=h2 u hu'
   have ne:(Lit.string (kyB u).data.toList)≠.string (kyB t).data.toList:=by
    intro e2;simp only[Lit.string.injEq]at e2;exact e (k6h (hok u hu') h0 (k9q e2))
   refine⟨A',c',?_,?_,q3,q4⟩
   ·rw[has_put_other ne];exact q1
   ·rw[atKey_put_other ne];exact q2
 ·have ne:(Lit.string k.data.toList)≠.string (kyB t).data.toList:=by
   intro e2;simp only[Lit.string.injEq]at e2;exact hkn t (by simp) (k9q e2).symm
  rw[has_put_other ne,atKey_put_other ne];exact h3 k fun u hu=>hkn u (by simp[hu])
end
structure ShM(w:World)(ov mv:Value)(qs:List (List Td))(n:Nat):Prop where
 ok:∀t∈qs,q0d t=0
 pg:∀t∈qs,pgE t=0
 ni:∀t∈qs,z4e t
 len:qs.length<=20
 w1:10<=n
 w2:n<=100
 ord:∃A c,ov=.slice A qs.length c/\Wds w A (qs.map kyB)
 kn:(mv=.map none/\qs=[])\/∃b,mv=.map (some b)/\KnM w w b qs n
section
variable {w w':World} {ov mv:Value} {n:Nat} {qs:List (List Td)}
theorem ShM.W(h:ShM w ov mv qs n)(hb:Below w w w'):ShM w' ov mv qs n:=by
 refine⟨h.ok,h.pg,h.ni,h.len,h.w1,h.w2,?_,?_⟩
 ·obtain⟨A,c,e,q⟩:=h.ord;exact⟨A,c,e,q.W hb⟩
 ·rcases h.kn with e|⟨b,e,q⟩
  ·exact .inl e
  ·exact .inr ⟨b,e,q.W hb⟩
theorem ShM.apart{x:Nat}(h:ShM w ov mv qs n)(hx:q0p w x w w')(hn:Blk w x):ShM w' ov mv qs n:=by
 refine⟨h.ok,h.pg,h.ni,h.len,h.w1,h.w2,?_,?_⟩
 ·obtain⟨A,c,e,q⟩:=h.ord;exact⟨A,c,e,q.apart hx hn⟩
 ·rcases h.kn with e|⟨b,e,q⟩
  ·exact .inl e
  ·exact .inr ⟨b,e,q.apart hx hn⟩
end
def z1s(T:TypeId)(w:World)(d:Nat)(qs:List (List Td))(n:Nat):Prop:=∃ov mv,w.heap[d]?=some (.cells #[.int .i64 (n:Int),ov,mv] T (0,0))/\ShM w ov mv qs n
section
variable {T:TypeId} {w w':World} {d n:Nat} {qs:List (List Td)}
theorem z1s.lt(h:z1s T w d qs n):d<w.heap.size:=by
 obtain⟨ov,mv,h1,_⟩:=h;exact(Array.getElem?_eq_some_iff.1 h1).1
theorem z1s.W(h:z1s T w d qs n)(hb:Below w w w'):z1s T w' d qs n:=by
 have hl:=h.lt;obtain⟨ov,mv,h1,h2⟩:=h;exact⟨ov,mv,(hb.block d hl).trans h1,h2.W hb⟩
theorem z1s.cell(h:z1s T w d qs n):∃A c m,w.cell? ⟨d,0,none⟩=some (.int .i64 (n:Int))/\w.cell? ⟨d,1,none⟩=some (.slice A qs.length c)/\w.cell? ⟨d,2,none⟩=some (.map m)/\(∀o,w.frozen? ⟨d,o,none⟩=false)/\Wds w A (qs.map kyB)/\((m=none/\qs=[])\/∃b,m=some b/\KnM w w b qs n):=by
 obtain⟨ov,mv,h1,h2⟩:=h;obtain⟨A,c,rfl,h3⟩:=h2.ord;rcases h2.kn with⟨rfl,e⟩|⟨b,rfl,q⟩
 ·exact⟨A,c,none,by simp[World.cell?,h1],by simp[World.cell?,h1],by simp[World.cell?,h1],fun o=>by simp[World.frozen?,h1],h3,.inl ⟨rfl,e⟩⟩
 ·exact⟨A,c,some b,by simp[World.cell?,h1],by simp[World.cell?,h1],by simp[World.cell?,h1],fun o=>by simp[World.frozen?,h1],h3,.inr ⟨b,rfl,q⟩⟩
theorem j4b{a b c:Value}{o:Nat}{v:Value}{f:Nat × Nat}(h:w.heap[d]?=some (.cells #[a,b,c] T f))(hv:w.cell? ⟨d,o,none⟩=some v):v=a\/v=b\/v=c:=by
 simp only[World.cell?,h]at hv;rcases o with _|_|_|o<;>simp at hv
 ·exact .inl hv.symm
 ·exact .inr (.inl hv.symm)
 ·exact .inr (.inr hv.symm)
theorem z1s.blk(h:z1s T w d qs n):Blk w d:=by
 obtain⟨ov,mv,h1,h2⟩:=h;obtain⟨A,c,rfl,h3⟩:=h2.ord;refine⟨⟨_,_,_,h1⟩,fun o s hs=>?_⟩;rcases j4b h1 hs with e|e|e
 ·cases e
 ·cases e
 ·rcases h2.kn with⟨rfl,_⟩|⟨b,rfl,_⟩<;>cases e
theorem z1s.put{ps:List (List Td)}{m:Nat}{ov mv:Value}(h:z1s T w d qs n)(hs:ShM w ov mv ps m):
  z1s T (((w.setCell ⟨d,0,none⟩ (.int .i64 (m:Int))).setCell ⟨d,1,none⟩ ov).setCell ⟨d,2,none⟩ mv) d ps m/\q0p w d w (((w.setCell ⟨d,0,none⟩ (.int .i64 (m:Int))).setCell ⟨d,1,none⟩ ov).setCell ⟨d,2,none⟩ mv):=by
 have hx:q0p w d w (((w.setCell ⟨d,0,none⟩ (.int .i64 (m:Int))).setCell ⟨d,1,none⟩ ov).setCell ⟨d,2,none⟩ mv):=(((q0p.refl _ _ w).setCell (p:=⟨d,0,none⟩) (.inl rfl) _).setCell (p:=⟨d,1,none⟩) (.inl rfl) _).setCell (p:=⟨d,2,none⟩) (.inl rfl) _;refine⟨?_,hx⟩;have hb:=h.blk;obtain⟨ov0,mv0,h1,_⟩:=h;exact⟨ov,mv,by simp[World.setCell,Array.getElem?_modify,h1],hs.apart hx hb⟩
end
theorem k6a:∀ps:List (List Td),(∀t∈ps,pgE t=0)->fmE ps=0
 | [],_=>rfl
 | t::r,h=>by rw[q4o (h t (by simp))];exact k6a r fun u hu=>h u (by simp[hu])
theorem z9f:∀ps:List (List Td),fmE ps=0->∀t∈ps,pgE t=0
 | [],_,t,ht=>by simp at ht
 | u::r,h,t,ht=>by
  have hp:pgE u=0:=by
   rcases Classical.em (pgE u=0)with e|e
   ·exact e
   ·rw[z5a e]at h;exact h
  rw[q4o hp]at h;rcases List.mem_cons.1 ht with rfl|ht
  ·exact hp
  ·exact z9f r h t ht
set_option maxRecDepth 100000
set_option maxHeartbeats 4000000
theorem v5y{t:List Td}(h0:q0d t=0)(hf:z4e t)(A:Option Addr)(c:Nat)(hc:t.length<=c)(w:World)(hT:Tds w A t)(ht:q5u w):
  Calls prog 118 #[.slice A t.length c] w fun e w'=>e=.returned (.tuple #[.string (kyB t),.nilIface])/\Below w w w':=by
 have HP:Hid (Calls prog 21 #[.slice (some ⟨w,0,none⟩) 1 1] (w.alloc (.cells #[.slice A t.length c] 51)) fun e w'=>e=.returned (.tuple #[.string (kyB t),.nilIface])/\Below w w w'):=by
  have h1:=z1h [t] (some ⟨w,0,none⟩) 1 (w.alloc (.cells #[.slice A t.length c] 51)) (by simp) (y7v hc hT) (fun u hu=>by simp at hu;rw[hu];exact hf) (ht.W (q1t w _));rw[k7f (by rw[y2s h0]),y2s h0]at h1;exact h1.mono fun e w' hh=>⟨hh.1,(q1t w _).trans (hh.2.mono (by rw[World.size_alloc];omega))⟩
 clear h0 hf hT ht hc;generalize kyB t=K at HP⊢;generalize t.length=nt at HP⊢;go_in;go_wp2_with fail;refine HP.o.mono ?_;rintro e w1⟨rfl,b1⟩;go_wp2;go_ret2;exact⟨rfl,b1⟩
theorem y4w{t:List Td}(h0:q0d t=0)(hf:z4e t)(hp:pgE t=0){n:Nat}(hw1:10<=n)(hw2:n<=100)(A:Option Addr)(c:Nat)(hc:t.length<=c)(w:World)(hT:Tds w A t)(ht:q5u w):
  Calls prog 119 #[.slice A t.length c,.int .i64 (n:Int)] w fun e w'=>e=.returned (.tuple #[enV A t.length c (wbS (q4r n t)),.nilIface])/\Below w w w':=by
 have HO:Hid (∀W,Below w w W->Calls prog 22 #[.slice A t.length c,.int .i64 (n:Int)] W fun e w'=>e=.returned (.tuple #[.string (wbS (q4r n t)),.nilIface])/\Below W W w'):=fun W hb=>by
  have h1:=z5o t A c (n:Int) W hc (hT.W hb) hf (ht.W hb);have e1:z5m t (n:Int)=0:=(z2r (q8q hw1 hw2) h0).trans hp;rw[z5n e1,e1,q0e]at h1;exact h1
 clear h0 hf hT ht hc hp;generalize wbS (q4r n t)=S at HO⊢;generalize t.length=nt at HO⊢;go_in;go_wp2_with fail;refine(HO.o _ (q1t w _)).mono ?_;rintro e w1⟨rfl,b1⟩;have hs:=b1.size;rw[World.size_alloc]at hs;have r0:w1.cell? ⟨w,0,none⟩=some (.slice none 0 0):=((q1c b1).1 _ _ (by simp)).trans (by simp[go_sem]);have r1:w1.cell? ⟨w,1,none⟩=some (.string ⟨#[]⟩):=((q1c b1).1 _ _ (by simp)).trans (by simp[go_sem]);have f0:w1.frozen? ⟨w,0,none⟩=false:=((q1c b1).2 _ _ (by simp)).trans (by simp[go_sem]);have f1:w1.frozen? ⟨w,1,none⟩=false:=((q1c b1).2 _ _ (by simp)).trans (by simp[go_sem]);have HB:Hid (Below w w w1):=q7o Zb Zl b1;clear b1;go_wp2;exact bodyPost_ret (v:=.tuple #[enV A nt c S,.nilIface]) (by simp[results,Tryz.results119,go_sem,r0,r1]) rfl ⟨rfl,(HB.o.setCell (p:=⟨w,0,none⟩) Zl _).setCell (p:=⟨w,1,none⟩) Zl _⟩
theorem y4v{t:List Td}(h0:q0d t=0)(hf:z4e t)(hp:pgE t≠0){n:Nat}(hw1:10<=n)(hw2:n<=100)(A:Option Addr)(c:Nat)(hc:t.length<=c)(w:World)(hT:Tds w A t)(ht:q5u w):
  Calls prog 119 #[.slice A t.length c,.int .i64 (n:Int)] w fun e w'=>e=.returned (.tuple #[zEn,.iface 22 (.int .i64 (pgE t))])/\Below w w w':=by
 have HO:Hid (∀W,Below w w W->Calls prog 22 #[.slice A t.length c,.int .i64 (n:Int)] W fun e w'=>e=.returned (.tuple #[.string ⟨#[]⟩,.iface 22 (.int .i64 (pgE t))])/\Below W W w'):=fun W hb=>by
  have h1:=z5o t A c (n:Int) W hc (hT.W hb) hf (ht.W hb);have e1:z5m t (n:Int)=pgE t:=z2r (q8q hw1 hw2) h0;rw[k0d (by rw[e1];exact hp),e1,q0f hp]at h1;exact h1
 clear h0 hf hT ht hc hp;generalize pgE t=S at HO⊢;generalize t.length=nt at HO⊢;go_in;go_wp2_with fail;refine(HO.o _ (q1t w _)).mono ?_;rintro e w1⟨rfl,b1⟩;have hs:=b1.size;rw[World.size_alloc]at hs;have r0:w1.cell? ⟨w,0,none⟩=some (.slice none 0 0):=((q1c b1).1 _ _ (by simp)).trans (by simp[go_sem]);have r1:w1.cell? ⟨w,1,none⟩=some (.string ⟨#[]⟩):=((q1c b1).1 _ _ (by simp)).trans (by simp[go_sem]);have f0:w1.frozen? ⟨w,0,none⟩=false:=((q1c b1).2 _ _ (by simp)).trans (by simp[go_sem]);have f1:w1.frozen? ⟨w,1,none⟩=false:=((q1c b1).2 _ _ (by simp)).trans (by simp[go_sem]);have HB:Hid (Below w w w1):=q7o Zb Zl b1;clear b1;go_wp2;exact bodyPost_ret (v:=.tuple #[zEn,.iface 22 (.int .i64 S)]) (by simp[results,Tryz.results119,go_sem,r0,r1]) rfl ⟨rfl,(HB.o.setCell (p:=⟨w,0,none⟩) Zl _).setCell (p:=⟨w,1,none⟩) Zl _⟩
structure q8i(ps old:List (List Td))(n:Nat)(w:World)(j i k:Nat)(wr:World):Prop where
 le:j<=ps.length
 cnt:k+frs (old.map q3g++(ps.map q3g).take i) ((ps.map q3g).drop i)=frP ps old
 z:fmE (ps.drop i)=fmE ps
 pg:∀t∈ps.take i,pgE t=0
 nx:∃A c,wr.heap[w.heap.size]?=some (.cells #[.int .i64 (n:Int),.slice A j c,.map (some (w.heap.size+1))] 141 (0,0))/\q1j (w.heap.size+2) (.slice A j c) ((ps.take j).map kyB) wr
 kn:KnM w wr (w.heap.size+1) (ps.take i) n
 bl:Below w w wr
theorem g2h{B e size n:Nat}{v:Value}{xs:List Value}{w:World}(h:w.ownsRow B e size v n xs){k:Nat}(hk:v.ownBlock=some k):B<=k:=by
 rcases h.2 with⟨rfl,_⟩|⟨g,c,cur,rfl,hB,_⟩
 ·cases hk
 ·have:g=k:=by simpa[Value.ownBlock]using hk
  omega
section
variable {ps old:List (List Td)} {n j i k:Nat} {w wr w':World}
theorem q8i.sz(h:q8i ps old n w j i k wr):w.heap.size+2<=wr.heap.size:=h.kn.lt
theorem q8i.grow(h:q8i ps old n w j i k wr)(hb:Below wr wr w'):q8i ps old n w j i k w':=by
 have hs:=h.sz;obtain⟨A,c,q1,q2⟩:=h.nx;exact⟨h.le,h.cnt,h.z,h.pg,⟨A,c,(hb.block _ (by omega)).trans q1,q2r q2 hb⟩,h.kn.kept (hb.block _ (by omega)),q0c h.bl Zl hb⟩
theorem q8i.key{A A':Option Addr}{c c':Nat}{O:Obj}(h:q8i ps old n w i i k wr)(hi:i<ps.length)(hq:wr.heap[w.heap.size]?=some (.cells #[.int .i64 (n:Int),.slice A i c,.map (some (w.heap.size+1))] 141 (0,0)))(hown:q1j (w.heap.size+2) (.slice A i c) ((ps.take i).map kyB) wr)
  (hg:(wr.alloc O).grownBy w' (Value.slice A i c).ownBlock) (hS:q1j (w.heap.size+2) (.slice A' (i+1) c') ((ps.take i).map kyB++[kyB ps[i]]) w'):
  q8i ps old n w (i+1) i k (w'.setCell ⟨w,1,none⟩ (.slice A' (i+1) c'))/\w'.heap[w.heap.size]?=some (.cells #[.int .i64 (n:Int),.slice A i c,.map (some (w.heap.size+1))] 141 (0,0)):=by
 have hs:=h.sz
 have hne:∀x,x<w.heap.size+2->some x≠(Value.slice A i c).ownBlock:=fun x hx e=>by
  have:=g2h hown e.symm
  omega
 have hk:∀x,x<w.heap.size+2->w'.heap[x]?=wr.heap[x]?:=fun x hx=>by
  have q1:=hg.block x (by rw[World.size_alloc];omega) (hne x hx);have q2:=(q1t wr O).block x (by omega);exact q1.trans q2
 have hb0:=(hk w.heap.size (by omega)).trans hq;have e1:(ps.take i).map kyB++[kyB ps[i]]=(ps.take (i+1)).map kyB:=by rw[List.take_succ_eq_append_getElem hi,List.map_append];rfl
 rw[e1]at hS;refine⟨⟨by omega,h.cnt,h.z,h.pg,⟨A',c',?_,?_⟩,?_,?_⟩,hb0⟩
 ·simp[World.setCell,Array.getElem?_modify,hb0]
 ·refine⟨hS.1,?_⟩;rcases hS.2 with h0|⟨g,c2,cur,hv,hB,hgg,rest⟩
  ·exact .inl h0
  ·exact .inr ⟨g,c2,cur,hv,hB,(Below.heap_setCell _ _ _ _ (by simp;omega)).trans hgg,rest⟩
 ·exact h.kn.kept ((Below.heap_setCell _ _ _ _ (by simp)).trans (hk _ (by omega)))
 ·refine Below.setCell (p:=⟨w,1,none⟩) ?_ Zl _;have hz:=hg.size;rw[World.size_alloc]at hz;exact h.bl.trans ⟨hg.os,hg.tape,hg.output,by omega,fun x hx=>hk x (by omega)⟩
theorem y2d{t:List Td}{qs:List (List Td)}(ht:q0d t=0)(hq:∀u∈qs,q0d u=0):q3g t∈qs.map q3g↔t∈qs:=by
 constructor
 ·intro h;obtain⟨u,hu,e⟩:=List.mem_map.1 h;rw[<-j1p (hq u hu) ht e];exact hu
 ·intro h;exact List.mem_map.2 ⟨t,h,rfl⟩
theorem k5x(hi:i<ps.length)(hok:∀t∈ps,q0d t=0)(hold:∀t∈old,q0d t=0)(h:k+frs (old.map q3g++(ps.map q3g).take i) ((ps.map q3g).drop i)=frP ps old):
  (ps[i]∈old\/ps[i]∈ps.take i->k+frs (old.map q3g++(ps.map q3g).take (i+1)) ((ps.map q3g).drop (i+1))=frP ps old)/\(¬(ps[i]∈old\/ps[i]∈ps.take i)->(k+1)+frs (old.map q3g++(ps.map q3g).take (i+1)) ((ps.map q3g).drop (i+1))=frP ps old):=by
 have hl:i<(ps.map q3g).length:=by simpa using hi
 rw[g0w hl]at h;have h0:=hok _ (List.getElem_mem hi)
 have e1:((ps.map q3g)[i]∈old.map q3g\/(ps.map q3g)[i]∈(ps.map q3g).take i)↔(ps[i]∈old\/ps[i]∈ps.take i):=by
  rw[List.getElem_map,<-List.map_take,y2d h0 hold,y2d h0 fun u hu=>hok u (List.mem_of_mem_take hu)]
 constructor
 ·intro hh;rw[if_pos (e1.2 hh)]at h;omega
 ·intro hh;rw[if_neg fun q=>hh (e1.1 q)]at h;omega
theorem q8i.same(h:q8i ps old n w (i+1) i k wr)(hok:∀t∈ps,q0d t=0)(hold:∀t∈old,q0d t=0)(hm:ps[i]'(h.le)∈ps.take i):q8i ps old n w (i+1) (i+1) k wr:=by
 have hi:i<ps.length:=h.le;have hp:=h.pg _ hm;refine⟨h.le,(k5x hi hok hold h.cnt).1 (.inr hm),?_,fun t ht=>?_,h.nx,?_,h.bl⟩
 ·have hz:=h.z;rw[List.drop_eq_getElem_cons hi,q4o hp]at hz;exact hz
 ·rw[List.take_succ_eq_append_getElem hi]at ht;rcases List.mem_append.1 ht with q|q
  ·exact h.pg t q
  ·simp at q;rw[q];exact hp
 ·rw[List.take_succ_eq_append_getElem hi];exact h.kn.again hm
theorem q8i.put(h:q8i ps old n w (i+1) i k wr){k':Nat}(hp:pgE (ps[i]'(h.le))=0)(hc:k'+frs (old.map q3g++(ps.map q3g).take (i+1)) ((ps.map q3g).drop (i+1))=frP ps old)(hk:KnM w w' (w.heap.size+1) (ps.take i++[ps[i]'(h.le)]) n)(hg:wr.grownBy w' (some (w.heap.size+1))):q8i ps old n w (i+1) (i+1) k' w':=by
 have hi:i<ps.length:=h.le;have hs:=h.sz;have hkk:∀x,x<wr.heap.size->x≠w.heap.size+1->w'.heap[x]?=wr.heap[x]?:=fun x h1 h2=>hg.block x h1 (by simpa using h2)
 obtain⟨A,c,q1,q2⟩:=h.nx;refine⟨h.le,hc,?_,fun t ht=>?_,⟨A,c,(hkk _ (by omega) (by omega)).trans q1,?_⟩,?_,?_⟩
 ·have hz:=h.z;rw[List.drop_eq_getElem_cons hi,q4o hp]at hz;exact hz
 ·rw[List.take_succ_eq_append_getElem hi]at ht;rcases List.mem_append.1 ht with q|q
  ·exact h.pg t q
  ·simp at q;rw[q];exact hp
 ·refine⟨q2.1,?_⟩;rcases q2.2 with h0|⟨g,c2,cur,hv,hB,hgg,rest⟩
  ·exact .inl h0
  ·exact .inr ⟨g,c2,cur,hv,hB,(hkk g (Array.getElem?_eq_some_iff.1 hgg).1 (by omega)).trans hgg,rest⟩
 ·rw[List.take_succ_eq_append_getElem hi];exact hk
 ·exact h.bl.trans ⟨hg.os,hg.tape,hg.output,hg.size,fun x hx=>hkk x (by omega) (by omega)⟩
theorem q8i.sheet(h:q8i ps old n w ps.length ps.length k wr)(hok:∀t∈ps,q0d t=0)(hni:∀t∈ps,z4e t)(hl:ps.length<=20)(hw1:10<=n)(hw2:n<=100):fmE ps=0/\k=frP ps old/\∃A c,wr.heap[w.heap.size]?=some (.cells #[.int .i64 (n:Int),.slice A ps.length c,.map (some (w.heap.size+1))] 141 (0,0))/\ShM wr (.slice A ps.length c) (.map (some (w.heap.size+1))) ps n:=by
 have hc:=h.cnt;have hp:=h.pg;have hk:=h.kn;obtain⟨A,c,q1,q2⟩:=h.nx;rw[List.drop_eq_nil_of_le (by simp),frs]at hc;rw[List.take_length]at hp hk q2;exact⟨k6a ps hp,by omega,A,c,q1,hok,hp,hni,hl,hw1,hw2,⟨A,c,rfl,q6g q2⟩,.inr ⟨_,rfl,hk.up fun _ _ q=>q.W h.bl⟩⟩
end
end Go.Proofs.YthcpdohdppkmkaaGreatDoor
