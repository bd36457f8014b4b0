import Derived.StringKeys
import Derived.Test.YtchdplceopegoaaGreatDoorPi16
import Derived.Lib.AppendIntMem
import Derived.Lib.ItoaNum
import Derived.Test.YtchdplceopegoaaGreatDoorPi14
import Derived.Test.YtchdplceopegoaaGreatDoorPi13
import Derived.Test.YtchdplceopegoaaGreatDoorPi18
open Go.Proofs.Tryz
open List (length_append length_cons length_map length_nil map_cons sum_cons)
open Nat (add_zero le_refl zero_le)
namespace Go.Proofs.YtchdplceopegoaaGreatDoor
open Go Go.RowKit
theorem k0o{t u:List Td}(ht:q0b t=0)(hu:q0b u=0)(h:q2p t=q2p u):t=u:=by
 have A:∀{v:List Td},q0b v=0->okP 0 [v]:=fun{v}hv=>by
  refine⟨hv,?_,trivial⟩;rintro⟨_,e⟩;cases e
 have E:q2w [t]=q2w [u]:=by simp[q2w,h]
 obtain⟨B,_⟩:=k6h [t] 0 0 (A ht);obtain⟨D,_⟩:=k6h [u] 0 0 (A hu);rw[E,D]at B;have G:=k0h [t] 0 false [] (A ht) (fun h=>by cases h);have C:=k0h [u] 0 false [] (A hu) (fun h=>by cases h);rw[B]at C
 have:=q9q G C
 simp only[List.nil_append,Rp.ok.injEq,List.cons.injEq,and_true]at this;exact this
def frs:List Wd->List Wd->Nat
 | _,[]=>0
 | known,t::r=>(if t∈known then 0 else 1)+frs (known++[t]) r
theorem y0i:∀(p known:List Wd),frs known p<=p.length
 | [],_=>le_refl _
 | t::r,known=>by
  have:=y0i r (known++[t])
  rw[frs,length_cons]
  split<;>omega
def frP(p old:List (List Td)):Nat:=frs (old.map q2p) (p.map q2p)
theorem y0h(p A:List (List Td)):frP p A<=p.length:=by
 have:=y0i (p.map q2p) (A.map q2p)
 rwa[length_map]at this
theorem y8a{p:List Wd}{i:Nat}(h:i<p.length)(A:List Wd):frs (A++p.take i) (p.drop i)=(if p[i]∈A\/p[i]∈p.take i then 0 else 1)+frs (A++p.take (i+1)) (p.drop (i+1)):=by
 rw[List.drop_eq_getElem_cons h,frs,List.take_succ_eq_append_getElem h];simp only[List.mem_append,List.append_assoc]
end Go.Proofs.YtchdplceopegoaaGreatDoor
namespace Go.Proofs.YtchdplceopegoaaGreatDoor
open Go Go.RowKit Go.Maps
def kyB(t:List Td):ByteArray:=wbS (q2w [t])
theorem k6a{t u:List Td}(ht:q0b t=0)(hu:q0b u=0)(h:kyB t=kyB u):t=u:=by
 have e:∀v:List Td,btL (kyB v)=q2p v++[10]:=fun v=>(show q2w [v]=_ by simp[q2w])
 have A:btL (kyB t)=btL (kyB u):=by rw[h]
 rw[e,e]at A;exact k0o ht hu (List.append_cancel_right A)
theorem k6b{t:List Td}(h:q0b t=0):(kyB t).size<=2001:=by
 rw[kyB,q1m]
 have:=j0e h
 simp[q2w];omega
theorem k8g{a b:ByteArray}(h:a.data.toList=b.data.toList):a=b:=by
 cases a;cases b
 congr 1
 exact Array.toList_inj.1 h
theorem y3e:Keyed prog 9:=string_keyed Tryz.underlying9
theorem g0z{s:ByteArray}(h:s.size<=1000000):keyOf prog 9 (.string s)=some (.string s.data.toList):=WideMaps.keyOf_string_mk Tryz.underlying9 (by unfold maxLen;omega)
abbrev enV(A:Option Addr)(l c:Nat)(s:ByteArray):Value:=.agg #[.slice A l c,.string s]
abbrev zEn:Value:=enV none 0 0 ⟨#[]⟩
theorem v5f(w:World):(zeroValue 100).run prog w=.ok zEn w:=by kernel_rfl
structure Blk(w:World)(x:Nat):Prop where
 cs:∃c T f,w.heap[x]?=some (.cells c T f)
 str:∀o s,w.cell? ⟨x,o,none⟩≠some (.string s)
section
variable {w w':World} {x:Nat}
theorem Tds.apart{a:Option Addr}{ds:List Td}(h:Tds w a ds)(hx:q0n w x w w')(hn:Blk w x):Tds w' a ds:=by
 intro i G;obtain⟨b,o,e,A,D,C,E⟩:=h i G
 have B:b≠x:=by
  rintro rfl;exact hn.str _ _ C
 have:=hx.size
 exact⟨b,o,e,by omega,(hx.cell (p:=⟨b,_,none⟩) A B).trans D,(hx.cell (p:=⟨b,_,none⟩) A B).trans C,(hx.cell (p:=⟨b,_,none⟩) A B).trans E⟩
theorem Wds.apart{a:Option Addr}{ws:List ByteArray}(h:Wds w a ws)(hx:q0n w x w w')(hn:Blk w x):Wds w' a ws:=by
 intro i D;obtain⟨b,o,e,A,B⟩:=h i D
 have C:b≠x:=by
  rintro rfl;exact hn.str _ _ B
 have:=hx.size
 exact⟨b,o,e,by omega,(hx.cell (p:=⟨b,_,none⟩) A C).trans B⟩
def g0u(w:World)(x:Nat):Prop:=∀o b o' k c z,w.cell? ⟨x,o,none⟩=some (.slice (some ⟨b,o',none⟩) k c)->w.cell? ⟨b,o',none⟩=some (.int .i64 z)->k=0
theorem Prg.apart{a:Option Addr}{ps:List (List Td)}(h:Prg w a ps)(C:∀t∈ps,q0b t=0)(hx:q0n w x w w')(hn:Blk w x)(ht:g0u w x):Prg w' a ps:=by
 intro i H;obtain⟨b,o,I,J,e,B,D,K,E⟩:=h i H
 have M:b≠x:=by
  rintro rfl;have G:=C _ (List.getElem_mem H)
  have N:0<ps[i].length:=by
   rcases Nat.eq_zero_or_pos ps[i].length with A|A
   ·rw[List.eq_nil_of_length_eq_zero A]at G;exact absurd G (by decide)
   ·exact A
  obtain⟨O,P,rfl,_,L,_⟩:=E 0 N
  have:=ht _ _ _ _ _ _ D (by simpa using L)
  omega
 have:=hx.size
 exact⟨b,o,I,J,e,by omega,(hx.cell (p:=⟨b,_,none⟩) B M).trans D,K,E.apart hx hn⟩
end
def KnM(w0 w:World)(b:Nat)(qs:List (List Td))(n:Nat):Prop:=
 ∃D m,w.ownsMap prog 9 cvR b m D/\m<=qs.length/\
  (∀t∈qs,∃A c,has D (.string (kyB t).data.toList)=true/\D.atKey (.string (kyB t).data.toList) (.held zEn)=.held (enV A t.length c (wbS (q7c n t)))/\t.length<=c/\Tds w0 A t)/\
  ∀k:ByteArray,(∀t∈qs,kyB t≠k)->has D (.string k.data.toList)=false/\D.atKey (.string k.data.toList) (.held zEn)=.held zEn
section
variable {w0 w w':World} {b n:Nat} {qs:List (List Td)} {t:List Td}
theorem KnM.lt(h:KnM w0 w b qs n):b<w.heap.size:=by
 obtain⟨D,m,h,_⟩:=h;exact h.lt
theorem KnM.isMap(h:KnM w0 w b qs n):∃es cl,w.heap[b]?=some (.map es cl):=by
 obtain⟨D,m,⟨es,cl,A,_⟩,_⟩:=h;exact⟨es,cl,A⟩
theorem KnM.kept(h:KnM w0 w b qs n)(hb:w'.heap[b]?=w.heap[b]?):KnM w0 w' b qs n:=by
 obtain⟨D,m,⟨B,A,C,E⟩,G⟩:=h;exact⟨D,m,⟨B,A,hb.trans C,E⟩,G⟩
theorem KnM.up{w1:World}(h:KnM w0 w b qs n)(hT:∀A t,Tds w0 A t->Tds w1 A t):KnM w1 w b qs n:=by
 obtain⟨D,m,B,C,E,G⟩:=h;refine⟨D,m,B,C,fun t ht=>?_,G⟩;obtain⟨A,c,H,I,J,K⟩:=E t ht;exact⟨A,c,H,I,J,hT A t K⟩
theorem KnM.W(h:KnM w w b qs n)(hb:Below w w w'):KnM w' w' b qs n:=(h.kept (hb.block b h.lt)).up fun _ _ q=>q.W hb
theorem KnM.apart{x:Nat}(h:KnM w w b qs n)(hx:q0n w x w w')(hn:Blk w x):KnM w' w' b qs n:=by
 refine(h.kept (hx.block b h.lt ?_)).up fun _ _ q=>q.apart hx hn
 rintro rfl;obtain⟨D,C,B⟩:=h.isMap;obtain⟨c,T,f,A⟩:=hn.cs;rw[B]at A;cases A
theorem KnM.made(w0 w:World)(n:Nat):KnM w0 (w.alloc (.map #[] 0)) w.heap.size [] n:=
 ⟨.map [],0,World.ownsMap_made _ _ _ _,zero_le _,fun t ht=>by simp at ht,fun _ _=>⟨rfl,rfl⟩⟩
theorem KnM.look(h:KnM w0 w b qs n)(ht:t∈qs)(h0:q0b t=0):∃A c,(Instr.lookup 52 (.map (some b)) (.string (kyB t)) false).run prog w=.ok (enV A t.length c (wbS (q7c n t))) w/\
  (Instr.lookup 52 (.map (some b)) (.string (kyB t)) true).run prog w=.ok (.tuple #[enV A t.length c (wbS (q7c n t)),.bool true]) w/\t.length<=c/\Tds w0 A t:=by
 obtain⟨D,m,h,_,H,_⟩:=h;obtain⟨A,c,J,G,K,L⟩:=H t ht;have E:=g0z (s:=kyB t) (by have:=k6b h0;omega);refine⟨A,c,?_,?_,K,L⟩
 ·obtain⟨v,I,B,C⟩:=h.lookup y3e Tryz.underlying52 (v5f w) (zd:=.held zEn) (zp:=[]) rfl E;rw[G]at C;simp only[cvR,Option.some.injEq,Prod.mk.injEq,DataW.held.injEq]at C;rw[B,C.1]
 ·obtain⟨v,I,B,C⟩:=h.look_ok y3e Tryz.underlying52 (v5f w) (zd:=.held zEn) (zp:=[]) rfl E;rw[G]at C;simp only[cvR,Option.some.injEq,Prod.mk.injEq,DataW.held.injEq]at C;rw[B,C.1,J]
theorem KnM.miss(h:KnM w0 w b qs n){k:ByteArray}(hl:k.size<=1000000)(B:∀t∈qs,kyB t≠k):
  (Instr.lookup 52 (.map (some b)) (.string k) true).run prog w=.ok (.tuple #[zEn,.bool false]) w:=by
 obtain⟨D,m,h,_,_,E⟩:=h;obtain⟨G,H⟩:=E k B;obtain⟨v,I,A,C⟩:=h.look_ok y3e Tryz.underlying52 (v5f w) (zd:=.held zEn) (zp:=[]) rfl (g0z hl);rw[H]at C;simp only[cvR,Option.some.injEq,Prod.mk.injEq,DataW.held.injEq]at C;rw[A,C.1,G]
theorem v6x(w:World){k:ByteArray}(hl:k.size<=1000000):
  (Instr.lookup 52 (.map none) (.string k) true).run prog w=.ok (.tuple #[zEn,.bool false]) w:=by
 rw[Maps.look_nil true y3e Tryz.underlying52 (v5f w) (g0z hl)];rfl
theorem KnM.again(h:KnM w0 w b qs n)(ht:t∈qs):KnM w0 w b (qs++[t]) n:=by
 obtain⟨D,m,h,C,A,B⟩:=h;refine⟨D,m,h,by rw[length_append];omega,fun u hu=>?_,fun k hk=>B k fun u hu=>hk u (by simp[hu])⟩;rcases List.mem_append.1 hu with e|e
 ·exact A u e
 ·simp at e;exact A u (e ▸ ht)
theorem KnM.put(h:KnM w0 w b qs n)(I:∀u∈qs,q0b u=0)(hl:qs.length<=20)(h0:q0b t=0)(O:t∉qs){A:Option Addr}{c:Nat}(hc:t.length<=c)(hT:Tds w0 A t):
  ∃w',(Instr.mapUpdate 52 (.map (some b)) (.string (kyB t)) (enV A t.length c (wbS (q7c n t)))).run prog w=.ok () w'/\KnM w0 w' b (qs++[t]) n/\w.grownBy w' (some b):=by
 obtain⟨D,m,h,V,L,M⟩:=h;have H:=g0z (s:=kyB t) (by have:=k6b h0;omega);obtain⟨U,E,C,N⟩:=h.update y3e Tryz.underlying52 (by unfold maxLen;omega) H (d:=.held (enV A t.length c (wbS (q7c n t)))) (ps:=[]) (val:=enV A t.length c (wbS (q7c n t))) rfl;refine⟨U,E,⟨_,_,C,by rw[length_append,List.length_singleton];omega,fun u hu=>?_,fun k hkn=>?_⟩,N⟩
 ·by_cases e:u=t
  ·subst e;exact⟨A,c,has_put_same h.isMap (y3e.key H) _,atKey_put_same h.isMap (y3e.key H) _ _,hc,hT⟩
  ·have G:u∈qs:=by
    rcases List.mem_append.1 hu with B|B
    ·exact B
    ·simp at B;exact absurd B e
   obtain⟨J,K,P,Q,R,S⟩:=L u G
   have ne:(Lit.string (kyB u).data.toList)≠.string (kyB t).data.toList:=by
    intro B;simp only[Lit.string.injEq]at B;exact e (k6a (I u G) h0 (k8g B))
   refine⟨J,K,?_,?_,R,S⟩
   ·rw[has_put_other ne];exact P
   ·rw[atKey_put_other ne];exact Q
 ·have ne:(Lit.string k.data.toList)≠.string (kyB t).data.toList:=by
   intro B;simp only[Lit.string.injEq]at B;exact hkn t (by simp) (k8g B).symm
  rw[has_put_other ne,atKey_put_other ne];exact M k fun u hu=>hkn u (by simp[hu])
end
structure ShM(w:World)(ov mv:Value)(qs:List (List Td))(n:Nat):Prop where
 ok:∀t∈qs,q0b t=0
 pg:∀t∈qs,pgE t=0
 ni:∀t∈qs,z8j t
 len:qs.length<=20
 w1:10<=n
 w2:n<=100
 ord:∃A c,ov=.slice A qs.length c/\Wds w A (qs.map kyB)
 kn:(mv=.map none/\qs=[])\/∃b,mv=.map (some b)/\KnM w w b qs n
section
variable {w w':World} {ov mv:Value} {n:Nat} {qs:List (List Td)}
theorem ShM.W(h:ShM w ov mv qs n)(hb:Below w w w'):ShM w' ov mv qs n:=by
 refine⟨h.ok,h.pg,h.ni,h.len,h.w1,h.w2,?_,?_⟩
 ·obtain⟨A,c,e,q⟩:=h.ord;exact⟨A,c,e,q.W hb⟩
 ·rcases h.kn with e|⟨b,e,q⟩
  ·exact .inl e
  ·exact .inr ⟨b,e,q.W hb⟩
theorem ShM.apart{x:Nat}(h:ShM w ov mv qs n)(hx:q0n w x w w')(hn:Blk w x):ShM w' ov mv qs n:=by
 refine⟨h.ok,h.pg,h.ni,h.len,h.w1,h.w2,?_,?_⟩
 ·obtain⟨A,c,e,q⟩:=h.ord;exact⟨A,c,e,q.apart hx hn⟩
 ·rcases h.kn with e|⟨b,e,q⟩
  ·exact .inl e
  ·exact .inr ⟨b,e,q.apart hx hn⟩
end
def q4p(T:TypeId)(w:World)(d:Nat)(qs:List (List Td))(n:Nat):Prop:=∃ov mv,w.heap[d]?=some (.cells #[(n:Int),ov,mv] T (0,0))/\ShM w ov mv qs n
section
variable {T:TypeId} {w w':World} {d n:Nat} {qs:List (List Td)}
theorem q4p.lt(h:q4p T w d qs n):d<w.heap.size:=by
 obtain⟨C,B,A,_⟩:=h;exact(Array.getElem?_eq_some_iff.1 A).1
theorem q4p.W(h:q4p T w d qs n)(hb:Below w w w'):q4p T w' d qs n:=by
 have C:=h.lt;obtain⟨E,D,A,B⟩:=h;exact⟨E,D,(hb.block d C).trans A,B.W hb⟩
theorem q4p.apart{x:Nat}(h:q4p T w d qs n)(hx:q0n w x w w')(hn:Blk w x)(hd:d≠x):q4p T w' d qs n:=by
 have C:=h.lt;obtain⟨E,D,A,B⟩:=h;exact⟨E,D,(hx.block d C hd).trans A,B.apart hx hn⟩
theorem q4p.cell(h:q4p T w d qs n):∃A c m,w.cell? ⟨d,0,none⟩=some (.int .i64 (n:Int))/\w.cell? ⟨d,1,none⟩=some (.slice A qs.length c)/\w.cell? ⟨d,2,none⟩=some (.map m)/\(∀o,w.frozen? ⟨d,o,none⟩=false)/\Wds w A (qs.map kyB)/\((m=none/\qs=[])\/∃b,m=some b/\KnM w w b qs n):=by
 obtain⟨G,E,B,C⟩:=h;obtain⟨A,c,rfl,D⟩:=C.ord;rcases C.kn with⟨rfl,e⟩|⟨b,rfl,q⟩
 ·exact⟨A,c,none,by simp[World.cell?,B],by simp[World.cell?,B],by simp[World.cell?,B],fun o=>by simp[World.frozen?,B],D,.inl ⟨rfl,e⟩⟩
 ·exact⟨A,c,some b,by simp[World.cell?,B],by simp[World.cell?,B],by simp[World.cell?,B],fun o=>by simp[World.frozen?,B],D,.inr ⟨b,rfl,q⟩⟩
theorem z7y{a b c:Value}{o:Nat}{v:Value}{f:Nat × Nat}(h:w.heap[d]?=some (.cells #[a,b,c] T f))(hv:w.cell? (d,o)=some v):v=a\/v=b\/v=c:=by
 simp only[World.cell?,h]at hv;rcases o with _|_|_|o<;>simp at hv
 ·exact .inl hv.symm
 ·exact .inr (.inl hv.symm)
 ·exact .inr (.inr hv.symm)
theorem q4p.blk(h:q4p T w d qs n):Blk w d:=by
 obtain⟨G,E,B,C⟩:=h;obtain⟨A,c,rfl,D⟩:=C.ord;refine⟨⟨_,_,_,B⟩,fun o s hs=>?_⟩;rcases z7y B hs with e|e|e
 ·cases e
 ·cases e
 ·rcases C.kn with⟨rfl,_⟩|⟨b,rfl,_⟩<;>cases e
theorem q4p.noTr(h:q4p T w d qs n):g0u w d:=by
 obtain⟨O,L,E,D⟩:=h;obtain⟨A,c,rfl,G⟩:=D.ord;intro o b M k K z H I;rcases z7y E H with e|e|e
 ·cases e
 ·simp only[Value.slice.injEq]at e;obtain⟨rfl,rfl,rfl⟩:=e;rcases Nat.eq_zero_or_pos qs.length with B|B
  ·exact B
  ·obtain⟨J,N,C,_,q⟩:=G 0 (by simpa using B);simp only[Option.some.injEq,Addr.mk.injEq,and_true]at C;obtain⟨rfl,rfl⟩:=C;rw[add_zero,I]at q;cases q
 ·rcases D.kn with⟨rfl,_⟩|⟨b,rfl,_⟩<;>cases e
theorem q4p.put{ps:List (List Td)}{m:Nat}{ov mv:Value}(h:q4p T w d qs n)(hs:ShM w ov mv ps m):
  q4p T (((w.setCell ⟨d,0,none⟩ (.int .i64 (m:Int))).setCell ⟨d,1,none⟩ ov).setCell ⟨d,2,none⟩ mv) d ps m/\q0n w d w (((w.setCell ⟨d,0,none⟩ (.int .i64 (m:Int))).setCell ⟨d,1,none⟩ ov).setCell ⟨d,2,none⟩ mv):=by
 have A:q0n w d w (((w.setCell ⟨d,0,none⟩ (.int .i64 (m:Int))).setCell ⟨d,1,none⟩ ov).setCell ⟨d,2,none⟩ mv):=(((q0n.refl _ _ w).setCell (p:=⟨d,0,none⟩) (.inl rfl) _).setCell (p:=⟨d,1,none⟩) (.inl rfl) _).setCell (p:=⟨d,2,none⟩) (.inl rfl) _;refine⟨?_,A⟩;have C:=h.blk;obtain⟨E,D,B,_⟩:=h;exact⟨ov,mv,by simp[World.setCell,Array.getElem?_modify,B],hs.apart A C⟩
end
theorem z9l:∀ps:List (List Td),(∀t∈ps,pgE t=0)->fmE ps=0
 | [],_=>rfl
 | t::r,h=>by rw[z0v (h t (by simp))];exact z9l r fun u hu=>h u (by simp[hu])
end Go.Proofs.YtchdplceopegoaaGreatDoor
namespace Go.Proofs.YtchdplceopegoaaGreatDoor
open Go Go.RowKit
set_option maxRecDepth 100000
set_option maxHeartbeats 4000000
theorem j8m(n:Nat)(h1:0<n)(hn:n<=1000000)(w:World):
  Calls prog 238 #[.slice none 0 0,(n:Int)] w fun e w'=>∃c,e=.returned (.slice w.heap.size 0 c)/\q7s w.heap.size (.slice w.heap.size 0 c) [] w'/\Below w w w':=by
 obtain⟨J,M,E,I,C⟩:=info_parts y0s
 have B:∀ty,(Builtin.append_ #[91,3] ty #[.slice none 0 0,(n:Int)]).run prog w=
   .ok (.slice w.heap.size n (grownCap w n 0 131)) (w.drew.alloc (.cells (#[]++Builtin.zeroCells (Value.agg #[.int .i64 0,.string ⟨#[]⟩,.int .i64 0]).cells n++Builtin.zeroCells (Value.agg #[.int .i64 0,.string ⟨#[]⟩,.int .i64 0]).cells (grownCap w n 0 131-n)) 131)):=fun ty=>by
  have D:(Builtin.firstCells J.size 0 (.slice none 0 0)).run prog w.drew=.ok ([]:List Value).toArray w.drew:=run_firstCells_none w.drew J.size 0 0 0;have h:=Lib.run_append_grow_zeros w 91 3 ty 131 J _ .i64 .i64 Tryz.underlying91 Tryz.underlying3 M E none 0 0 [] D n h1 (by omega) (by omega) (by omega) (by rw[C];omega) (growslice_fits (by omega) (by rw[C];omega));simp only[Nat.zero_add]at h;exact h
 have H:n<=grownCap w n 0 131:=grownCap_ge w _ _ _;have A:=grownCap_le_maxLen w n 0 131 (by unfold maxLen;omega);generalize grownCap w n 0 131=G at B H A;have L:G<=9223372036854775807:=by unfold maxLen at A;omega
 have K:Hid (q7s w.heap.size (.slice w.heap.size 0 G) [] (w.drew.alloc (.cells (#[]++Builtin.zeroCells (Value.agg #[.int .i64 0,.string ⟨#[]⟩,.int .i64 0]).cells n++Builtin.zeroCells (Value.agg #[.int .i64 0,.string ⟨#[]⟩,.int .i64 0]).cells (G-n)) 131))):=by
  refine⟨rfl,.inr ⟨w.heap.size,G,_,rfl,le_refl _,heap_alloc_new w.drew _,zero_le _,A,?_,rfl⟩⟩;simp only[Array.size_append,size_zeroCells,Array.size_empty];show 0+n*3+(G-n)*3=G*3;omega
 have N:(0:Int)<(n:Int):=by omega
 generalize(#[]++Builtin.zeroCells (Value.agg #[.int .i64 0,.string ⟨#[]⟩,.int .i64 0]).cells n++Builtin.zeroCells (Value.agg #[.int .i64 0,.string ⟨#[]⟩,.int .i64 0]).cells (G-n))=Z at B K
 clear M E I C A;go_in;go_wp2_with(at_builtin;refine Lib.wpList_append_run _ rfl _ _ _ _ rfl _ _ rfl rfl _ _ (B _) ?_);go_ret;exact⟨G,rfl,K.o,Below.drew (Zb.alloc Zl _)⟩
def y6i(w:World)(a:Option Addr)(ps:List (List Nd)):Prop:=
 ∀i(h:i<ps.length),∃b o a' c',a=some ⟨b,o,none⟩/\b<w.heap.size/\w.cell? ⟨b,o+i,none⟩=some (.slice a' ps[i].length c')/\q2b w a' ps[i]/\(a'=none->ps[i].length=0/\c'=0)
theorem y6i.W{w w':World}{a:Option Addr}{ps:List (List Nd)}(h:y6i w a ps)(hb:Below w w w'):y6i w' a ps:=by
 intro i H;obtain⟨b,o,B,C,e,A,D,E,G⟩:=h i H;exact⟨b,o,B,C,e,Nat.lt_of_lt_of_le A hb.size,(hb.cell (p:=⟨b,_,none⟩) A).trans D,E.W hb,G⟩
theorem z7b{ps:List (List Nd)}{i:Nat}(h:i<ps.length):(ps.take (i+1)).flatten=(ps.take i).flatten++ps[i]:=by
 rw[List.take_succ_eq_append_getElem h,List.flatten_append];simp
theorem z4y(ps:List (List Nd))(i:Nat):(ps.take i).flatten.length<=ps.flatten.length:=by
 have h:ps.flatten=(ps.take i).flatten++(ps.drop i).flatten:=by rw[<-List.flatten_append,List.take_append_drop]
 rw[h,length_append];omega
structure g1f(w:World)(ps:List (List Nd))(i:Nat)(v:Value)(wr:World):Prop where
 le:i<=ps.length
 o:q7s w.heap.size v (ps.take i).flatten wr
 b:Below w w wr
theorem z5c(ps:List (List Nd))(a:Option Addr)(c:Nat)(w:World)(hP:y6i w a ps)(h0:0<ps.flatten.length)(hl:ps.flatten.length<=900000)(hp:ps.length<=10):
  Calls prog 218 #[.slice a ps.length c] w fun e w'=>∃A c',e=.returned (.slice A ps.flatten.length c')/\q7s w.heap.size (.slice A ps.flatten.length c') ps.flatten w'/\Below w w w':=by
 have u:=hid hP;have r:=hid (j8m ps.flatten.length h0 (by omega) w);clear hP;generalize hN:ps.flatten.length=N at r h0 hl⊢;have P:=hid hN;clear hN;go_in;go_wp2_with fail
 go_loopw [3,11] (fun s x wr=>w=wr/\∃i:Nat,i<=ps.length/\x=(i:Int)/\s=((ps.take i).flatten.length:Int)) (fun _ x _=>ps.length-(intOf x).toNat)
 case atStart=>exact⟨rfl,0,zero_le _,rfl,rfl⟩
 case round=>
  obtain⟨rfl,i,hi,rfl,rfl⟩:=hrel;by_cases C:i<ps.length
  ·have K:(i:Int)<(ps.length:Int):=by omega
   obtain⟨b0,o0,p,z,rfl,j,h,_,_⟩:=u.o i C;have B:=congrArg List.length (z7b C);rw[length_append]at B;have E:=z4y ps (i+1);rw[P.o]at E;have M:=(show Hid (_=_)from B);have V:(ps.take i).flatten.length+ps[i].length<=900000:=by omega
   clear B E;generalize ps[i].length=pn at M h V
   generalize(ps.take i).flatten.length=sn at M V⊢
   have Aa:¬(sn:Int)+(pn:Int)<0:=by omega
   go_wp2;refine⟨⟨trivial,i+1,C,by go_num,?_⟩,?_⟩
   ·rw[M.o];go_num
   ·simp[intOf];omega
  ·have K:¬(i:Int)<(ps.length:Int):=by omega
   have G:(ps.take i).flatten.length=N:=by rw[List.take_of_length_le (by omega)];exact P.o
   rw[G];clear G;go_wp2_with fail;refine r.o.mono ?_;rintro e w1⟨c1,rfl,S,y⟩;have d:Hid (g1f w ps 0 (.slice w.heap.size 0 c1) w1):=⟨zero_le _,S,y⟩;clear S y;go_wp2_with fail
   go_loopw [6,27] (fun v x w'=>∃(i:Nat)(A:Option Addr)(n c:Nat),x=(i:Int)/\v=.slice A n c/\n=(ps.take i).flatten.length/\g1f w ps i (.slice A n c) w') (fun _ x _=>ps.length-(intOf x).toNat)
   case atStart=>exact⟨0,_,_,_,rfl,rfl,rfl,d.o⟩
   case round=>
    obtain⟨i,A,n,c2,rfl,rfl,L,O⟩:=hrel;have E:=z4y ps i;rw[P.o,<-L]at E;by_cases C:i<ps.length
    ·have K:(i:Int)<(ps.length:Int):=by omega
     obtain⟨b0,o0,p,z,rfl,j,h,hT,J⟩:=u.o.W O.b i C;have B:=z7b C;have I:=z4y ps (i+1);rw[B,length_append,P.o,<-L]at I;have M:=(show Hid (_=_)from B);have Y:=hid O.o;have Z:=hid O.b;have X:=O.b.size;have HT:=hid hT;have Q:=hid J;have t:=hid L.symm;have f:Hid (∃m,ps[i].length=m):=⟨_,rfl⟩;generalize U:ps[i].length=pn at h I Q;have R:=hid U;clear B hT J L O U f E;go_wp2_with(at_builtin;refine z8p rfl _ _ rfl w.heap.size _ (ps.take i).flatten rfl Y.o p pn ps[i] R.o z rfl HT.o Q.o (n+pn) (by rw[t.o]) (by omega) X ?_);intro q c3 w3 H D
     have g:Hid (g1f w ps (i+1) (.slice q (n+pn) c3) w3):=by
      refine⟨C,?_,Z.o.grown D X (fun k hk=>(World.ownsRow.lt Y.o k hk).1)⟩;rw[M.o];exact H
     clear H D;go_wp2;refine⟨⟨i+1,q,n+pn,c3,by go_num,rfl,?_,g.o⟩,?_⟩
     ·rw[M.o,length_append,t.o,R.o]
     ·simp[intOf];omega
    ·have K:¬(i:Int)<(ps.length:Int):=by omega
     have G:ps.take i=ps:=List.take_of_length_le (by omega);obtain⟨_,l,hb⟩:=O;rw[G]at l L;rw[P.o]at L;subst L;have Y:=hid l;have Z:=hid hb;clear l hb G;go_wp2;go_ret;exact⟨A,c2,rfl,Y.o,Z.o⟩
theorem j4z(w:World)(o p:Obj):Below w w ((w.alloc o).alloc p):=((Below.refl _ w).alloc Zl o).alloc (by rw[World.size_alloc];omega) p
theorem z2m(w:World)(o p:Obj):((w.alloc o).alloc p).heap[w.heap.size]?=some o:=by
 have A:((w.heap.push o).push p)[w.heap.size]?=some o:=by
  rw[Array.getElem?_push,if_neg (by simp),Array.getElem?_push,if_pos rfl]
 exact A
theorem q9x(w:World)(o p:Obj):((w.alloc o).alloc p).heap[w.heap.size+1]?=some p:=by
 have A:((w.heap.push o).push p)[w.heap.size+1]?=some p:=by
  rw[Array.getElem?_push,if_pos (by simp)]
 exact A
abbrev ndO(x:Nd):Obj:=.cells #[.int .i64 x.op,.string x.tx,.int .i64 x.n] 131 (0,0)
theorem k9o{x:Nd}{W:World}{k:Nat}(h:W.heap[k]?=some (ndO x)):q2b W k [x]:=by
 intro i B;have C:i=0:=by simp at B;exact B
 subst C;have A:k<W.heap.size:=(Array.getElem?_eq_some_iff.1 h).1;refine⟨k,0,rfl,A,?_,?_,?_⟩<;>rw[Lib.cell_of_heap h]<;>rfl
theorem v9z{x:Nd}{xs:List Nd}{A:Option Addr}{c:Nat}(w W:World)(hb:Below w w W)(h0:W.heap[w.heap.size]?=some (ndO x))(h1:W.heap[w.heap.size+1]?=some (.cells #[.slice w.heap.size 1 1,.slice A xs.length c] 91 (0,0)))
  (hN:q2b w A xs) (E:A=none->xs.length=0/\c=0) (hl:xs.length<=100000):
  Calls prog 218 #[.slice ↑(w.heap.size+1) 2 2] W fun e w'=>NdR w (x::xs) e w':=by
 have D:w.heap.size+1<W.heap.size:=(Array.getElem?_eq_some_iff.1 h1).1;have B:∀i,W.cell? ⟨w.heap.size+1,i,none⟩=#[Value.slice (some ⟨w,0,none⟩) 1 1,.slice A xs.length c][i]?:=fun i=>by simp[World.cell?,h1]
 have M:y6i W ↑(w.heap.size+1) [[x],xs]:=by
  intro i N;have L:i=0\/i=1:=by simp at N;omega
  rcases L with rfl|rfl
  ·exact⟨w.heap.size+1,0,some ↑w.heap.size,1,rfl,D,B 0,k9o h0,fun e=>by cases e⟩
  ·exact⟨w.heap.size+1,0,A,c,rfl,D,B 1,hN.W hb,E⟩
 have C:[[x],xs].flatten=x::xs:=by simp
 have I:=z5c [[x],xs] ↑(w.heap.size+1) 2 W M (by rw[C];simp) (by rw[C,length_cons];omega) (by simp);rw[C]at I;refine I.mono ?_;rintro e O⟨J,K,rfl,H,G⟩;exact⟨J,K,rfl,H.down hb.size,q0e hb Zl G⟩
theorem v4x{x:Nd}{xs ys:List Nd}{A A':Option Addr}{c c':Nat}(w W:World)(hb:Below w w W)(h0:W.heap[w.heap.size]?=some (ndO x))(h1:W.heap[w.heap.size+1]?=some (.cells #[.slice w.heap.size 1 1,.slice A xs.length c,.slice A' ys.length c'] 91 (0,0)))
  (hN:q2b w A xs) (G:A=none->xs.length=0/\c=0) (hM:q2b w A' ys) (E:A'=none->ys.length=0/\c'=0) (hl:xs.length+ys.length<=100000):
  Calls prog 218 #[.slice ↑(w.heap.size+1) 3 3] W fun e w'=>NdR w (x::(xs++ys)) e w':=by
 have D:w.heap.size+1<W.heap.size:=(Array.getElem?_eq_some_iff.1 h1).1;have B:∀i,W.cell? ⟨w.heap.size+1,i,none⟩=#[Value.slice (some ⟨w,0,none⟩) 1 1,.slice A xs.length c,.slice A' ys.length c'][i]?:=fun i=>by simp[World.cell?,h1]
 have N:y6i W ↑(w.heap.size+1) [[x],xs,ys]:=by
  intro i O;have M:i=0\/i=1\/i=2:=by simp at O;omega
  rcases M with rfl|rfl|rfl
  ·exact⟨w.heap.size+1,0,some ↑w.heap.size,1,rfl,D,B 0,k9o h0,fun e=>by cases e⟩
  ·exact⟨w.heap.size+1,0,A,c,rfl,D,B 1,hN.W hb,G⟩
  ·exact⟨w.heap.size+1,0,A',c',rfl,D,B 2,hM.W hb,E⟩
 have C:[[x],xs,ys].flatten=x::(xs++ys):=by simp
 have J:=z5c [[x],xs,ys] ↑(w.heap.size+1) 3 W N (by rw[C];simp) (by rw[C,length_cons,length_append];omega) (by simp);rw[C]at J;refine J.mono ?_;rintro e P⟨K,L,rfl,I,H⟩;exact⟨K,L,rfl,I.down hb.size,q0e hb Zl H⟩
theorem q2j(s:ByteArray)(w:World):Calls prog 186 #[.string s] w fun e w'=>NdR w [⟨1,s,0⟩] e w':=by
 have B:=hid (q7s.one w ⟨1,s,0⟩);have A:Hid (∀O:Obj,Below w w (w.alloc O)):=fun O=>(Below.refl _ w).alloc Zl O
 go_in;go_wp2;go_ret;exact⟨_,1,rfl,B.o,A.o _⟩
theorem z2o(w:World):Calls prog 189 #[] w fun e w'=>NdR w [⟨2,⟨#[]⟩,0⟩] e w':=by
 have B:=hid (q7s.one w ⟨2,⟨#[]⟩,0⟩);have A:Hid (∀O:Obj,Below w w (w.alloc O)):=fun O=>(Below.refl _ w).alloc Zl O
 go_in;go_wp2;go_ret;exact⟨_,1,rfl,B.o,A.o _⟩
theorem k3c(w:World):Calls prog 239 #[] w fun e w'=>NdR w [⟨3,⟨#[]⟩,0⟩] e w':=by
 have B:=hid (q7s.one w ⟨3,⟨#[]⟩,0⟩);have A:Hid (∀O:Obj,Below w w (w.alloc O)):=fun O=>(Below.refl _ w).alloc Zl O
 go_in;go_wp2;go_ret;exact⟨_,1,rfl,B.o,A.o _⟩
theorem q9z{xs:List Nd}{v:Value}(w:World)(hx:NdV w v xs)(hl:xs.length<=100000):Calls prog 188 #[v] w fun e w'=>NdR w (⟨7,⟨#[]⟩,2⟩::xs) e w':=by
 obtain⟨A,c,rfl,G,B⟩:=hx;have D:=hid (fun W C h2 h3=>v9z (x:=⟨7,⟨#[]⟩,2⟩) (c:=c) w W C h2 h3 G B hl);generalize xs.length=n at D⊢;go_in;go_wp2_with fail;refine(D.o _ (j4z w _ _) (z2m w _ _) (q9x w _ _)).mono ?_;rintro e I C;have E:=hid C;obtain⟨H,rfl,_,_⟩:=C.val;go_wp2;go_ret;exact E.o
theorem z2p{xs:List Nd}{v:Value}(w:World)(hx:NdV w v xs)(hl:xs.length<=100000):Calls prog 187 #[v] w fun e w'=>NdR w (⟨8,⟨#[]⟩,0⟩::xs) e w':=by
 obtain⟨A,c,rfl,G,B⟩:=hx;have D:=hid (fun W C h2 h3=>v9z (x:=⟨8,⟨#[]⟩,0⟩) (c:=c) w W C h2 h3 G B hl);generalize xs.length=n at D⊢;go_in;go_wp2_with fail;refine(D.o _ (j4z w _ _) (z2m w _ _) (q9x w _ _)).mono ?_;rintro e I C;have E:=hid C;obtain⟨H,rfl,_,_⟩:=C.val;go_wp2;go_ret;exact E.o
theorem q1p{xs ys:List Nd}{v u:Value}(w:World)(hx:NdV w v xs)(hy:NdV w u ys)(hl:xs.length+ys.length<=100000):Calls prog 184 #[v,u] w fun e w'=>NdR w (⟨6,⟨#[]⟩,0⟩::(xs++ys)) e w':=by
 obtain⟨A,c,rfl,I,C⟩:=hx;obtain⟨J,c',rfl,H,B⟩:=hy;have E:=hid (fun W D h2 h3=>v4x (x:=⟨6,⟨#[]⟩,0⟩) (c:=c) (c':=c') w W D h2 h3 I C H B hl);generalize xs.length=n at E⊢;generalize ys.length=m at E⊢;go_in;go_wp2_with fail;refine(E.o _ (j4z w _ _) (z2m w _ _) (q9x w _ _)).mono ?_;rintro e L D;have G:=hid D;obtain⟨K,rfl,_,_⟩:=D.val;go_wp2;go_ret;exact G.o
structure Ly(w0:World)(b:Nat)(ds:List Td)(w:World)(A:Option Addr)(c:Nat):Prop where
 x:w.heap[b]?=some (.cells #[.slice A ds.length c] 243 (0,0))
 le:ds.length<=c
 td:Tds w0 A ds
 bl:Below w0 w0 w
 lt:w0.heap.size<=b
def LyE(w0:World)(b:Nat)(ds:List Td)(w:World):Prop:=∃A c,Ly w0 b ds w A c
theorem Ly.in{w0:World}{b:Nat}{ds:List Td}{w:World}{A:Option Addr}{c:Nat}(h:Ly w0 b ds w A c):b<w.heap.size:=(Array.getElem?_eq_some_iff.1 h.x).1
theorem LyE.grew{w0:World}{b:Nat}{ds:List Td}{w w':World}(h:LyE w0 b ds w)(hb:Below w w w'):LyE w0 b ds w':=by
 obtain⟨A,c,h⟩:=h;exact⟨A,c,(hb.block b h.in).trans h.x,h.le,h.td,q0e h.bl Zl hb,h.lt⟩
structure Lk(w0:World)(b:Nat)(w:World)(rest:List Td)(wk:World):Prop where
 bt:But w b w wk
 ly:LyE w0 b rest wk
 lt:b<w.heap.size
theorem Lk.step{w0:World}{b:Nat}{w:World}{rest:List Td}{wk w':World}(h:Lk w0 b w rest wk)(hb:Below wk wk w'):Lk w0 b w rest w':=
 ⟨h.bt.trans (But.of (hb.mono h.bt.size)),h.ly.grew hb,h.lt⟩
theorem Lk.in{w0:World}{b:Nat}{w:World}{rest:List Td}{wk:World}(h:Lk w0 b w rest wk):b<wk.heap.size:=Nat.lt_of_lt_of_le h.lt h.bt.size
def NdB(b:Nat)(w:World)(v:Value)(xs:List Nd):Prop:=∃A c B,v=.slice A xs.length c/\b<B/\q7s B (.slice A xs.length c) xs w
theorem NdB.but{b:Nat}{w w':World}{v:Value}{xs:List Nd}(h:NdB b w v xs)(hb:But w b w w'):NdB b w' v xs:=by
 obtain⟨A,c,B,e,C,D⟩:=h;exact⟨A,c,B,e,C,D.kept fun g h1 h2=>hb.block g h2 (by omega)⟩
theorem NdB.bel{b:Nat}{w w':World}{v:Value}{xs:List Nd}(h:NdB b w v xs)(hb:Below w w w'):NdB b w' v xs:=h.but (.of hb)
theorem NdB.val{b:Nat}{w:World}{v:Value}{xs:List Nd}(h:NdB b w v xs):NdV w v xs:=by
 obtain⟨A,c,B,rfl,D,C⟩:=h;exact C.val
theorem NdR.valB{w:World}{xs:List Nd}{e:Ending}{w':World}{b:Nat}(h:NdR w xs e w')(hb:b<w.heap.size):∃v,e=.returned v/\NdB b w' v xs/\Below w w w':=by
 obtain⟨A,c,e,B,C⟩:=h;exact⟨_,e,⟨A,c,_,rfl,hb,B⟩,C⟩
def NdG(w0:World)(b:Nat)(w:World)(xs:List Nd)(rest:List Td)(e:Ending)(w':World):Prop:=∃A c,e=.returned (.slice A xs.length c)/\q7s w.heap.size (.slice A xs.length c) xs w'/\Lk w0 b w rest w'
theorem NdR.gof{w0:World}{b:Nat}{w wk:World}{xs:List Nd}{rest:List Td}{e:Ending}{w':World}(h:NdR wk xs e w')(hk:Lk w0 b w rest wk):NdG w0 b w xs rest e w':=by
 obtain⟨A,c,e,B,C⟩:=h;exact⟨A,c,e,B.down hk.bt.size,hk.step C⟩
theorem NdG.val{w0:World}{b:Nat}{w:World}{xs:List Nd}{rest:List Td}{e:Ending}{w':World}(h:NdG w0 b w xs rest e w'):∃v,e=.returned v/\NdB b w' v xs/\Lk w0 b w rest w':=by
 obtain⟨A,c,e,C,B⟩:=h;exact⟨_,e,⟨A,c,_,rfl,B.lt,C⟩,B⟩
theorem Lk.then{w0:World}{b:Nat}{w wk w':World}{r1 r2:List Td}(h:Lk w0 b w r1 wk)(k:Lk w0 b wk r2 w'):Lk w0 b w r2 w':=⟨h.bt.trans (k.bt.mono h.bt.size),k.ly,h.lt⟩
theorem NdG.then{w0:World}{b:Nat}{w wk w':World}{r1 r2:List Td}{xs:List Nd}{e:Ending}(h:Lk w0 b w r1 wk)(k:NdG w0 b wk xs r2 e w'):NdG w0 b w xs r2 e w':=by
 obtain⟨A,c,e,B,C⟩:=k;exact⟨A,c,e,B.down h.bt.size,h.then C⟩
theorem y2k{w:World}{k:Nat}{a a':Value}{T:TypeId}(h:w.heap[k]?=some (.cells #[a] T (0,0))):(w.setCell k a').heap[k]?=some (.cells #[a'] T (0,0)):=by
 simp[World.setCell,Array.getElem?_modify,h]
theorem q4j{w0:World}{b:Nat}{x:Td}{ds:List Td}{w:World}(h:LyE w0 b (x::ds) w):
  Calls prog 183 #[.pointer b] w fun e w'=>e=.returned (tdV x)/\Lk w0 b w ds w':=by
 obtain⟨A,c,h⟩:=h;obtain⟨C,J,rfl,B,K,L,M⟩:=h.td 0 (by simp);obtain⟨G,D,E⟩:=v2k h.td h.le;simp only[List.getElem_cons_zero,Nat.zero_mul,add_zero]at K L M;obtain⟨I,_⟩:=q0s h.bl;have a:w.cell? (C,J)=some ↑x.op:=(I _ _ B).trans K;have d:w.cell? (C,J+1)=some (.string x.tx):=(I _ _ B).trans L;have f:w.cell? (C,J+2)=some ↑x.n:=(I _ _ B).trans M;have N:b<w.heap.size:=h.in;have Z:C<w.heap.size:=Nat.lt_of_lt_of_le B h.bl.size;have U:w.cell? b=some (.slice (some ↑(C,J)) (x::ds).length c):=by rw[Lib.cell_of_heap h.x];rfl
 have g:w.frozen? b=false:=Lib.frozen_of_heap h.x 0;have X:¬C=b:=by have:=h.lt;omega
 have H:=hid h;have S:Hid (Tds w0 G ds):=E;have O:=h.le;generalize Q:(x::ds).length=n at U D O;have V:0<n:=by rw[<-Q];simp
 clear h E K L M I Q;generalize P:ds.length=m at D;have R:Hid (ds.length=m):=P;clear P;go_in;go_wp2;refine bodyPost_ret (v:=tdV x) (by simp[results,Tryz.results183,go_sem]) rfl ?_;have h:=H.o
 have Y:LyE w0 b ds (w.setCell b (.slice G m (c-1))):=by
  refine⟨G,c-1,?_,?_,S.o,h.bl.setCell (p:=b) h.lt _,h.lt⟩
  ·rw[R.o];exact y2k h.x
  ·have:=h.le;simp only[length_cons]at this;omega
 have W:Lk w0 b w ds (w.setCell b (.slice G m (c-1))):=⟨(But.refl _ _ _).setCell (p:=b) (.inl rfl) _,Y,N⟩;exact⟨rfl,W.step (j4z _ _ _)⟩
theorem y3d(n:Nat):Lib.decDigits n=q3o n:=by
 induction n using Nat.strongRecOn with
 | ind n ih=>
  rw[Lib.decDigits,q3o];by_cases h:n<10
  ·rw[dif_pos h,dif_pos (by omega)]
  ·rw[dif_neg h,dif_neg (by omega),ih (n / 10) (by omega)]
theorem k8u(n:Int)(h0:0<=n)(h1:n<=999999)(w:World)(ht:k1h w):Cb 168 #[n] w (.string (wbS (q3o n.toNat))):=by
 unfold Cb;refine(itoa_sh n (by omega) (by omega) w ht).mono ?_;rintro e w'⟨rfl,k,A,rfl⟩;refine⟨?_,Lib.below_grow _ _ Zl _ _⟩;rw[Lib.itoa,if_neg (by omega),y3d];rfl
abbrev ExC(w0:World)(b:Nat)(x:Td)(k:Fo):Prop:=∀(bs:List UInt8)(rest:List Td)(w:World),bs.length+(q2z x k.R).length<=500000->WyE w0 b bs (x::(k.N++rest)) w->
 Calls prog 136 #[.pointer (some ⟨b,0,none⟩)] w fun e w'=>e=.returned (.tuple #[])/\WyE w0 b (bs++q2z x k.R) rest w'
def y6h(w0:World)(b:Nat):Fo->Prop
 | .nil=>True
 | .cons x k n=>ExC w0 b x k/\y6h w0 b n
theorem v9a{w0:World}{b:Nat}(ht:k1h w0)(n:Int)(h0:0<=n)(h9:n<=999999)(tx:ByteArray):ExC w0 b ⟨1,tx,n⟩ .nil:=by
 intro J B w P O;obtain⟨A,c,h⟩:=O;have H:Hid (Cp 134 #[.pointer b] w fun e C=>e=.returned (tdV ⟨1,tx,n⟩)/\WyE w0 b J B C):=q5q h;have K:Hid (q2z ⟨1,tx,n⟩ Fo.nil.R=q3o n.toNat):=rfl;rw[K.o]at P⊢;have L:Hid (k1h w0):=ht;clear h ht;go_in;go_wp2_with fail;refine H.o.mono ?_;rintro e D⟨rfl,Q,U,E⟩;have G:Hid (∀W:World,Below D D W->Cp 168 #[n] W fun e C=>e=.returned (.string (wbS (q3o n.toNat)))/\Below W W C):=fun W hb=>k8u n h0 h9 W ((L.o.W E.bl).W hb)
 have I:Hid (∀W:World,Below D D W->Cp 33 #[.pointer b,.string (wbS (q3o n.toNat))] W fun e C=>(∃z,e=.returned (.tuple #[z,.nilIface]))/\WyE w0 b (J++q3o n.toNat) B C):=fun W hb=>by
  refine(q5r (E.grew hb) (wbS (q3o n.toNat)) (by omega) (by rw[<-q0c,g1s];omega)).mono ?_;rintro e C⟨rfl,h,_⟩;exact⟨⟨_,rfl⟩,_,_,h⟩
 generalize wbS (q3o n.toNat)=S at G I;clear E H;go_wp2_with fail
 go_region_with (first|(go_at_call 168;refine(G.o _ (z3s D _)).mono ?_;rintro e V⟨rfl,M⟩)|(go_at_call 33;refine(I.o _ (q0e (z3s D _) Zl M)).mono ?_;rintro e X⟨⟨z,rfl⟩,N⟩))
 all_goals
  go_wp2
  go_end0
  exact⟨rfl,N⟩
theorem v3i{w0:World}{b:Nat}(tx:ByteArray)(n:Int):ExC w0 b ⟨2,tx,n⟩ .nil:=by
 intro G B w M L;obtain⟨A,c,h⟩:=L;have E:Hid (Cp 134 #[.pointer b] w fun e C=>e=.returned (tdV ⟨2,tx,n⟩)/\WyE w0 b G B C):=q5q h;have I:Hid (q2z ⟨2,tx,n⟩ Fo.nil.R=btL tx):=rfl;rw[I.o]at M⊢;clear h;go_in;go_wp2_with fail;refine E.o.mono ?_;rintro e D⟨rfl,N,O,H⟩
 have J:Hid (∀W:World,Below D D W->Cp 33 #[.pointer b,.string tx] W fun e C=>(∃z,e=.returned (.tuple #[z,.nilIface]))/\WyE w0 b (G++btL tx) B C):=fun W hb=>by
  refine(q5r (H.grew hb) tx (by omega) (by rw[<-q0c];omega)).mono ?_;rintro e C⟨rfl,h,_⟩;exact⟨⟨_,rfl⟩,_,_,h⟩
 clear H E;go_wp2_with fail
 go_region_with (go_at_call 33;refine(J.o _ (z3s D _)).mono ?_;rintro e P⟨⟨z,rfl⟩,K⟩)
 all_goals
  go_wp2
  go_end0
  exact⟨rfl,K⟩
abbrev KdC(w0:World)(b:Nat)(F:Fo)(o z:UInt8):Prop:=∀(bs:List UInt8)(rest:List Td)(w:World),bs.length+(cmx F.R).length+2<=500000->WyE w0 b bs (F.N++rest) w->
 Calls prog 169 #[.pointer (some ⟨b,0,none⟩),.int .i64 (F.len:Int),.int .u8 (o.toNat:Int),.int .u8 (z.toNat:Int)] w fun e w'=>e=.returned (.tuple #[])/\WyE w0 b (bs++o::(cmx F.R++[z])) rest w'
theorem v3h{w0:World}{b:Nat}{F:Fo}(tx:ByteArray)(hK:KdC w0 b F 91 93):ExC w0 b ⟨4,tx,(F.len:Int)⟩ F:=by
 intro C B w I M;obtain⟨A,c,h⟩:=M;have G:Hid (Cp 134 #[.pointer b] w fun e w'=>e=.returned (tdV ⟨4,tx,(F.len:Int)⟩)/\WyE w0 b C (F.N++B) w'):=q5q h;have J:Hid (q2z ⟨4,tx,(F.len:Int)⟩ F.R=91::(cmx F.R++[93])):=rfl;rw[J.o]at I⊢;have E:Hid (KdC w0 b F 91 93):=hK;clear h hK;simp only[length_cons,length_append,length_nil]at I;go_in;go_wp2_with fail;refine G.o.mono ?_;rintro e D⟨rfl,O,P,H⟩;have K:Hid (∀W:World,Below D D W->Cp 169 #[.pointer b,(F.len:Int),.int .u8 91,.int .u8 93] W fun e w'=>e=.returned (.tuple #[])/\WyE w0 b (C++91::(cmx F.R++[93])) B w'):=fun W hb=>E.o C B W (by omega) ⟨_,_,H.grew hb⟩
 clear H G E;go_wp2_with fail;refine(K.o _ (q1w D _)).mono ?_;rintro e Q⟨rfl,L⟩;go_wp2
 go_end0
 exact⟨rfl,L⟩
theorem v3g{w0:World}{b:Nat}{F:Fo}(tx:ByteArray)(hK:KdC w0 b F 40 41):ExC w0 b ⟨3,tx,(F.len:Int)⟩ F:=by
 intro I B w Q K;obtain⟨A,c,h⟩:=K;have O:Hid (Cp 134 #[.pointer b] w fun e D=>e=.returned (tdV ⟨3,tx,(F.len:Int)⟩)/\WyE w0 b I (F.N++B) D):=q5q h;have M:Hid (q2z ⟨3,tx,(F.len:Int)⟩ F.R=btL tx++40::(cmx F.R++[41])):=rfl;rw[M.o]at Q⊢;have L:Hid (KdC w0 b F 40 41):=hK;clear h hK;simp only[length_cons,length_append,length_nil]at Q;go_in;go_wp2_with fail;refine O.o.mono ?_;rintro e E⟨rfl,a,d,J⟩
 have U:Hid (∀W:World,Below E E W->Cp 33 #[.pointer b,.string tx] W fun e D=>(∃z,e=.returned (.tuple #[z,.nilIface]))/\WyE w0 b (I++btL tx) (F.N++B) D/\Lib.OthersKept 5 (some b) W D):=fun W hb=>by
  refine(q5r (J.grew hb) tx (by omega) (by rw[<-q0c];omega)).mono ?_;rintro e D⟨rfl,h,Y⟩;exact⟨⟨_,rfl⟩,⟨_,_,h⟩,Y⟩
 have G:Hid (∀W:World,WyE w0 b (I++btL tx) (F.N++B) W->Cp 169 #[.pointer b,(F.len:Int),.int .u8 40,.int .u8 41] W fun e D=>e=.returned (.tuple #[])/\WyE w0 b ((I++btL tx)++40::(cmx F.R++[41])) B D):=fun W K=>L.o _ B W (by rw[length_append];omega) K
 have X:b<E.heap.size:=J.x.lt;clear J O L;generalize F.len=fn at G M⊢;go_wp2_with fail
 go_region_with (go_at_call 33;refine(U.o _ (z3s E _)).mono ?_;rintro e S⟨⟨z,rfl⟩,V,H⟩)
 all_goals
  have C:S.heap[E.heap.size]?=some (.cells #[.int .i64 3,.string tx,(fn:Int)] 71 (0,0)):=H _ _ (heap_alloc_new E _) (by simp;omega) (fun c fz e=>by cases e);have Z:S.cell? (E.heap.size,2)=some ↑(fn:Int):=by rw[Lib.cell_of_heap C];rfl
  clear C H;go_wp2_with fail;refine(G.o _ V).mono ?_;rintro e f⟨rfl,P⟩;go_wp2
  go_end0
  rw[List.append_assoc]at P;exact⟨rfl,P⟩
set_option maxHeartbeats 8000000
abbrev ExL(w0:World)(b:Nat)(x:Td)(k:Fo):Prop:=∀(rest:List Td)(w:World),LyE w0 b (x::(k.N++rest)) w->
 Calls prog 185 #[.pointer (some ⟨b,0,none⟩)] w fun e w'=>NdG w0 b w (q0r x k.D).N rest e w'
def EAL(w0:World)(b:Nat):Fo->Prop
 | .nil=>True
 | .cons x k n=>ExL w0 b x k/\EAL w0 b n
theorem LyE.in{w0:World}{b:Nat}{ds:List Td}{w:World}(h:LyE w0 b ds w):b<w.heap.size:=by
 obtain⟨A,c,h⟩:=h;exact h.in
theorem LyE.lk{w0:World}{b:Nat}{ds:List Td}{w:World}(h:LyE w0 b ds w):Lk w0 b w ds w:=⟨But.refl _ _ _,h,h.in⟩
theorem k2z{w0:World}{b:Nat}:∀(K:Fo),EAL w0 b K->K.len≠0->z4d K.D<=1000->K.len<=1000->∀(r:List Td)(w:World),LyE w0 b (K.N++r) w->
  Calls prog 240 #[.pointer (some ⟨b,0,none⟩),.int .i64 (K.len:Int)] w fun e w'=>NdG w0 b w (kdD K.D).N r e w'
 | .nil,_,h0,_,_,_,_,_=>absurd rfl h0
 | .cons y ky .nil,hE,_,_,_,r,w,hW=>by
  have HX:Hid (Cp 185 #[.pointer (some ⟨b,0,none⟩)] w fun e w'=>NdG w0 b w (q0r y ky.D).N r e w'):=hE.1 r w (by simpa[Fo.N]using hW);show Calls prog 240 #[.pointer (some ⟨b,0,none⟩),.int .i64 1] w fun e w'=>NdG w0 b w (q0r y ky.D).N r e w'
  generalize(q0r y ky.D).N=xs at HX⊢
  clear hE hW;go_in;go_wp2_with fail;refine HX.o.mono ?_;rintro e w1 h1;have HR:Hid (NdG w0 b w xs r e w1):=h1;obtain⟨v1,rfl,_,_⟩:=h1.val;clear h1;go_wp2;go_ret;exact HR.o
 | .cons y ky (.cons z kz n),hE,_,hs,hkl,r,w,hW=>by
  have hs2:(q0r y ky.D).N.length+z4d (Fo.cons z kz n).D<=1000:=by
   rw[Fo.D,q2k]at hs;have h:(q0r y ky.D).N.length+5+z4d (Fo.cons z kz n).D<=1000:=hs;omega
  have G:=j2g (Fo.cons z kz n).D;have S:n.len<=1000:=by simp only[Fo.len]at hkl;omega
  have HX:Hid (Cp 185 #[.pointer (some ⟨b,0,none⟩)] w fun e w'=>NdG w0 b w (q0r y ky.D).N ((Fo.cons z kz n).N++r) e w'):=hE.1 _ w (by simpa[Fo.N]using hW)
  have J:Hid (∀W,LyE w0 b ((Fo.cons z kz n).N++r) W->Cp 240 #[.pointer (some ⟨b,0,none⟩),.int .i64 ((n.len:Int)+1)] W fun e w'=>NdG w0 b W (kdD (Fo.cons z kz n).D).N r e w'):=fun W hW=>by
   have h:=k2z (.cons z kz n) hE.2 (by simp[Fo.len]) (by omega) (by simp only[Fo.len]at hkl⊢;omega) r W hW;have e:(((Fo.cons z kz n).len:Nat):Int)=(n.len:Int)+1:=by simp[Fo.len]
   rw[e]at h;exact h
  have A:Hid (Lk w0 b w ((Fo.cons y ky (.cons z kz n)).N++r) w):=hW.lk;have B:Hid ((kdD (Fo.cons y ky (.cons z kz n)).D).N=⟨6,⟨#[]⟩,0⟩::((⟨6,⟨#[]⟩,0⟩::((q0r y ky.D).N++[⟨1,⟨#[44]⟩,0⟩]))++(⟨6,⟨#[]⟩,0⟩::([⟨2,⟨#[]⟩,0⟩]++(kdD (Fo.cons z kz n).D).N)))):=rfl;have E:(((Fo.cons y ky (.cons z kz n)).len:Nat):Int)=(n.len:Int)+1+1:=by simp[Fo.len]
  rw[E]
  generalize(kdD (Fo.cons y ky (.cons z kz n)).D).N=R at B⊢
  generalize(q0r y ky.D).N=xs at HX B hs2
  generalize(kdD (Fo.cons z kz n).D).N=ks at J B G
  generalize(Fo.cons z kz n).N++r=r1 at HX J
  generalize(Fo.cons y ky (.cons z kz n)).N++r=r0 at A
  generalize z4d (Fo.cons z kz n).D=sd at hs2 G;generalize n.len=nl at J S⊢;have q:((nl:Int)+1+1==1)=false:=by simp;omega
  clear hE hW hs hkl E;go_in;go_wp2_with fail;refine(HX.o).mono ?_;rintro e w1 h1;obtain⟨v1,rfl,i,g⟩:=h1.val;replace A:=hid (A.o.then g);have I:=hid i;clear h1 i g;go_wp2_with fail;refine(q2j _ _).mono ?_;rintro e w2 Z;obtain⟨s,rfl,j,M⟩:=Z.valB A.o.in;replace A:=hid (A.o.step M);replace I:=hid (I.o.bel M);have U:=hid j;clear Z j M;go_wp2_with fail;refine(q1p _ I.o.val U.o.val (by first|(simp;done)|(simp;omega))).mono ?_;rintro e w3 a;obtain⟨t,rfl,k,Y⟩:=a.valB A.o.in;replace A:=hid (A.o.step Y);clear I;clear U;have C:=hid k;clear a k Y;go_wp2_with fail;refine(z2o _).mono ?_;rintro e w4 c;obtain⟨u,rfl,l,O⟩:=c.valB A.o.in;replace A:=hid (A.o.step O);replace C:=hid (C.o.bel O);have H:=hid l;clear c l O;go_wp2_with fail;refine(J.o _ A.o.ly).mono ?_;rintro e w5 d;obtain⟨v,rfl,m,L⟩:=d.val;replace A:=hid (A.o.then L);replace C:=hid (C.o.but L.bt);replace H:=hid (H.o.but L.bt);have V:=hid m;clear d m L;go_wp2_with fail;refine(q1p _ H.o.val V.o.val (by first|(simp;done)|(simp;omega))).mono ?_;rintro e w6 f;obtain⟨x,rfl,o,P⟩:=f.valB A.o.in;replace A:=hid (A.o.step P);clear H;clear V;replace C:=hid (C.o.bel P);have X:=hid o;clear f o P;go_wp2_with fail;refine(q1p _ C.o.val X.o.val (by first|(simp;done)|(simp;omega))).mono ?_;rintro e p Q
  have HX:Hid (NdG w0 b w R r e p):=by
   have h:=Q.gof A.o;show NdG w0 b w R r e p;rw[B.o];exact h
  obtain⟨v7,rfl,_,_⟩:=Q.val;clear Q A B C X;go_wp2;go_ret;exact HX.o
theorem y8l(o c:List UInt8)(ps:List (Td × Tr))(h:ps.length=0):(q3m o c ps).N=[⟨1,wbS (o++c),0⟩]:=by rw[q3m,if_pos h];rfl
theorem y4s(o c:List UInt8)(ps:List (Td × Tr))(h:¬ps.length=0):(q3m o c ps).N=⟨8,⟨#[]⟩,0⟩::(⟨6,⟨#[]⟩,0⟩::([⟨1,wbS o,0⟩]++(⟨6,⟨#[]⟩,0⟩::((⟨7,⟨#[]⟩,2⟩::(⟨6,⟨#[]⟩,0⟩::([⟨3,⟨#[]⟩,0⟩]++(kdD ps).N)))++(⟨6,⟨#[]⟩,0⟩::([⟨3,⟨#[]⟩,0⟩]++[⟨1,wbS c,0⟩])))))):=by rw[q3m,if_neg h];rfl
theorem z3g{w0:World}{b:Nat}(K:Fo)(hE:EAL w0 b K)(hs:z4d K.D<=1000)(Z:K.len<=1000)(o c:ByteArray)(ho:o.size<=100)(hc:c.size<=100)(r:List Td)(w:World)(hW:LyE w0 b (K.N++r) w):
  Calls prog 219 #[.pointer (some ⟨b,0,none⟩),.string o,.int .i64 (K.len:Int),.string c] w fun e w'=>NdG w0 b w (q3m (btL o) (btL c) K.D).N r e w':=by
 have A:=hid hW.lk;by_cases G:K.len=0
 ·have B:Hid ((q3m (btL o) (btL c) K.D).N=[⟨1,o++c,0⟩]):=by
   show _=_;rw[y8l _ _ _ (by rw[q6v];exact G)];have e:wbS (btL o++btL c)=o++c:=by rw[<-q0l,z1x,z1x]
   rw[e]
  have hr:K.N++r=r:=by
   cases K with
   | nil=>rfl
   | cons=>simp[Fo.len]at G
  rw[hr]at A;rw[G]
  generalize(q3m (btL o) (btL c) K.D).N=R at B⊢
  have Ab:¬9223372036854775807<o.size+c.size:=by omega
  go_in;go_wp2_with fail;refine(q2j _ _).mono ?_;rintro e d O
  have S:Hid (NdG w0 b w R r e d):=by
   have h:=O.gof A.o;show NdG w0 b w R r e d;rw[B.o];exact h
  obtain⟨v1,rfl,_,_⟩:=O.val;go_wp2;go_ret;exact S.o
 ·have B:Hid ((q3m (btL o) (btL c) K.D).N=⟨8,⟨#[]⟩,0⟩::(⟨6,⟨#[]⟩,0⟩::([⟨1,o,0⟩]++(⟨6,⟨#[]⟩,0⟩::((⟨7,⟨#[]⟩,2⟩::(⟨6,⟨#[]⟩,0⟩::([⟨3,⟨#[]⟩,0⟩]++(kdD K.D).N)))++(⟨6,⟨#[]⟩,0⟩::([⟨3,⟨#[]⟩,0⟩]++[⟨1,c,0⟩]))))))):=by
   show _=_;rw[y4s _ _ _ (by rw[q6v];exact G),z1x,z1x]
  have L:Hid (∀W,LyE w0 b (K.N++r) W->Cp 240 #[.pointer (some ⟨b,0,none⟩),.int .i64 (K.len:Int)] W fun e w'=>NdG w0 b W (kdD K.D).N r e w'):=fun W hW=>k2z K hE G hs Z r W hW
  have I:=j2g K.D
  generalize(q3m (btL o) (btL c) K.D).N=R at B⊢
  generalize(kdD K.D).N=ks at L B I
  generalize z4d K.D=sd at hs I;generalize K.N++r=r0 at A L;generalize K.len=kl at L G⊢;have Aa:((kl:Int)==0)=false:=by simp;omega
  go_in;go_wp2_with fail;refine(k3c _).mono ?_;rintro e d O;obtain⟨v1,rfl,n1,q⟩:=O.valB A.o.in;replace A:=hid (A.o.step q);have P:=hid n1;go_wp2_with fail;refine(L.o _ A.o.ly).mono ?_;rintro e w2 u;obtain⟨v2,rfl,n2,i⟩:=u.val;replace A:=hid (A.o.then i);replace P:=hid (P.o.but i.bt);have p:=hid n2;go_wp2_with fail;refine(q1p _ P.o.val p.o.val (by first|(simp;done)|(simp;omega))).mono ?_;rintro e w3 v;obtain⟨v3,rfl,n3,s⟩:=v.valB A.o.in;replace A:=hid (A.o.step s);have j:=hid n3;go_wp2_with fail;refine(q9z _ j.o.val (by first|(simp;done)|(simp;omega))).mono ?_;rintro e w4 x;obtain⟨v4,rfl,n4,t⟩:=x.valB A.o.in;replace A:=hid (A.o.step t);have C:=hid n4;go_wp2_with fail;refine(q2j _ _).mono ?_;rintro e w5 y;obtain⟨v5,rfl,n5,f⟩:=y.valB A.o.in;replace A:=hid (A.o.step f);replace C:=hid (C.o.bel f);have E:=hid n5;go_wp2_with fail;refine(k3c _).mono ?_;rintro e w6 z;obtain⟨v6,rfl,n6,V⟩:=z.valB A.o.in;replace A:=hid (A.o.step V);replace C:=hid (C.o.bel V);replace E:=hid (E.o.bel V);have Q:=hid n6;go_wp2_with fail;refine(q2j _ _).mono ?_;rintro e w7 h7;obtain⟨v7,rfl,n7,M⟩:=h7.valB A.o.in;replace A:=hid (A.o.step M);replace C:=hid (C.o.bel M);replace E:=hid (E.o.bel M);replace Q:=hid (Q.o.bel M);have k:=hid n7;go_wp2_with fail;refine(q1p _ Q.o.val k.o.val (by first|(simp;done)|(simp;omega))).mono ?_;rintro e w8 h8;obtain⟨v8,rfl,n8,X⟩:=h8.valB A.o.in;replace A:=hid (A.o.step X);replace C:=hid (C.o.bel X);replace E:=hid (E.o.bel X);have l:=hid n8;go_wp2_with fail;refine(q1p _ C.o.val l.o.val (by first|(simp;done)|(simp;omega))).mono ?_;rintro e w9 h9;obtain⟨v9,rfl,n9,g⟩:=h9.valB A.o.in;replace A:=hid (A.o.step g);replace E:=hid (E.o.bel g);have m:=hid n9;go_wp2_with fail;refine(q1p _ E.o.val m.o.val (by first|(simp;done)|(simp;omega))).mono ?_;rintro e Ae Y;obtain⟨Ac,rfl,a,U⟩:=Y.valB A.o.in;replace A:=hid (A.o.step U);have n:=hid a;go_wp2_with fail;refine(z2p _ n.o.val (by first|(simp;done)|(simp;omega))).mono ?_;rintro e J H
  have S:Hid (NdG w0 b w R r e J):=by
   have h:=H.gof A.o;show NdG w0 b w R r e J;rw[B.o];exact h
  obtain⟨Ad,rfl,_,_⟩:=H.val;go_wp2;go_ret;exact S.o
theorem y3u{l:Nat}{x:Td}{D:Tr}(h:prc x<l):(inD l x D).N=⟨6,⟨#[]⟩,0⟩::([⟨1,⟨#[40]⟩,0⟩]++(⟨6,⟨#[]⟩,0⟩::(D.N++[⟨1,⟨#[41]⟩,0⟩]))):=by
 rw[inD,if_pos h];rfl
theorem y8c{l:Nat}{x:Td}{D:Tr}(h:¬prc x<l):(inD l x D).N=D.N:=by rw[inD,if_neg h]
theorem k3b{w0:World}{b:Nat}{y:Td}{k:Fo}(hX:ExL w0 b y k)(hz:(q0r y k.D).N.length<=1000)(op:Int)(L:op=5\/op=6)(s:Bool)(r:List Td)(w:World)(hW:LyE w0 b (y::(k.N++r)) w):
  Calls prog 241 #[.pointer (some ⟨b,0,none⟩),.int .i64 op,.bool s] w fun e w'=>NdG w0 b w (inD ((op-5).toNat+s.toNat) y (q0r y k.D)).N r e w':=by
 have B:Hid (∀W,Cw 230 #[.int .i64 y.op,.int .i64 op,.bool s] W (.bool (decide (prc y<(op-5).toNat+s.toNat)))):=fun W=>(k3l y op L s W).mono fun _ _ h=>⟨h.1,h.2.symm⟩
 have K:=hid (hX r w hW);have C:=hid hW.lk;obtain⟨A,c,h⟩:=hW;obtain⟨tb,tq,rfl,S,Q,_,_⟩:=h.td 0 (by simp);simp only[List.getElem_cons_zero,Nat.zero_mul,add_zero]at Q;obtain⟨Y,_⟩:=q0s h.bl;have l:=(Y _ _ S).trans Q;have j:w.cell? ⟨b,0,none⟩=some (.slice (some ⟨tb,tq,none⟩) (y::(k.N++r)).length c):=by rw[Lib.cell_of_heap h.x];rfl
 generalize a:(y::(k.N++r)).length=n at j;have m:0<n:=by rw[<-a];simp
 have t:(0:Int)<(n:Int):=by omega
 have H:Hid (prc y<(op-5).toNat+s.toNat->(inD ((op-5).toNat+s.toNat) y (q0r y k.D)).N=⟨6,⟨#[]⟩,0⟩::([⟨1,⟨#[40]⟩,0⟩]++(⟨6,⟨#[]⟩,0⟩::((q0r y k.D).N++[⟨1,⟨#[41]⟩,0⟩])))):=y3u;have E:Hid (¬prc y<(op-5).toNat+s.toNat->(inD ((op-5).toNat+s.toNat) y (q0r y k.D)).N=(q0r y k.D).N):=y8c
 generalize(inD ((op-5).toNat+s.toNat) y (q0r y k.D)).N=R at H E⊢
 generalize(q0r y k.D).N=xs at K H E hz
 generalize y::(k.N++r)=r0 at C
 generalize(op-5).toNat+s.toNat=lv at B H E
 generalize prc y=py at B H E;generalize y.op=yo at B l;clear h Y Q L a hX;by_cases M:py<lv
 ·have G:=(show Hid (_=_)from H.o M);rw[decide_eq_true M]at B;clear H E M;go_in;go_wp2_with fail;refine(B.o _).mono ?_;rintro e w1⟨rfl,rfl⟩;go_wp2_with fail;refine(K.o).mono ?_;rintro e U O;obtain⟨v2,rfl,v,u⟩:=O.val;replace C:=hid (C.o.then u);have J:=hid v;go_wp2_with fail;refine(q2j _ _).mono ?_;rintro e w3 o;obtain⟨v3,rfl,z,V⟩:=o.valB C.o.in;replace C:=hid (C.o.step V);replace J:=hid (J.o.bel V);have I:=hid z;go_wp2_with fail;refine(q2j _ _).mono ?_;rintro e w4 p;obtain⟨v4,rfl,n4,P⟩:=p.valB C.o.in;replace C:=hid (C.o.step P);replace J:=hid (J.o.bel P);replace I:=hid (I.o.bel P);have f:=hid n4;go_wp2_with fail;refine(q1p _ J.o.val f.o.val (by first|(simp;done)|(simp;omega))).mono ?_;rintro e w5 q;obtain⟨v5,rfl,n5,X⟩:=q.valB C.o.in;replace C:=hid (C.o.step X);replace I:=hid (I.o.bel X);have g:=hid n5;go_wp2_with fail;refine(q1p _ I.o.val g.o.val (by first|(simp;done)|(simp;omega))).mono ?_;rintro e d Z
  have K:Hid (NdG w0 b w R r e d):=by
   have h:=Z.gof C.o;show NdG w0 b w R r e d;rw[G.o];exact h
  obtain⟨v6,rfl,_,_⟩:=Z.val;go_wp2;go_ret;exact K.o
 ·have G:=(show Hid (_=_)from E.o M);rw[decide_eq_false M]at B;go_in;go_wp2_with fail;refine(B.o _).mono ?_;rintro e w1⟨rfl,rfl⟩;go_wp2_with fail;refine K.o.mono ?_;rintro e U O
  have i:Hid (NdG w0 b w R r e U):=by
   show NdG w0 b w R r e U;rw[G.o];exact O
  obtain⟨v2,rfl,_,_⟩:=O.val;go_wp2;go_ret;exact i.o
theorem z7l{w0:World}{b:Nat}{y z:Td}{k l:Fo}(hX:ExL w0 b y k)(hZ:ExL w0 b z l)(O:(q0r y k.D).N.length<=1000)(P:(q0r z l.D).N.length<=1000)(op:Int)(H:op=5\/op=6)(m:ByteArray)(r:List Td)(w:World)
  (hW:LyE w0 b (y::(k.N++(z::(l.N++r)))) w):
  Calls prog 220 #[.pointer (some ⟨b,0,none⟩),.int .i64 op,.string m] w fun e w'=>NdG w0 b w (grD (twD (inD (op-5).toNat y (q0r y k.D)) (dpD (twD blD (twD (wdD (btL m)) (inD ((op-5).toNat+1) z (q0r z l.D))))))).N r e w':=by
 have J:Hid (Cp 241 #[.pointer (some ⟨b,0,none⟩),.int .i64 op,.bool false] w fun e w'=>NdG w0 b w (inD (op-5).toNat y (q0r y k.D)).N (z::(l.N++r)) e w'):=k3b hX O op H false _ w hW;have K:Hid (∀W,LyE w0 b (z::(l.N++r)) W->Cp 241 #[.pointer (some ⟨b,0,none⟩),.int .i64 op,.bool true] W fun e w'=>NdG w0 b W (inD ((op-5).toNat+1) z (q0r z l.D)).N r e w'):=fun W hW=>k3b hZ P op H true _ W hW
 have A:Hid (Lk w0 b w (y::(k.N++(z::(l.N++r)))) w):=hW.lk;have Q:=j2f (op-5).toNat y (q0r y k.D);have S:=j2f ((op-5).toNat+1) z (q0r z l.D)
 have C:Hid ((grD (twD (inD (op-5).toNat y (q0r y k.D)) (dpD (twD blD (twD (wdD (btL m)) (inD ((op-5).toNat+1) z (q0r z l.D))))))).N=⟨8,⟨#[]⟩,0⟩::(⟨6,⟨#[]⟩,0⟩::((inD (op-5).toNat y (q0r y k.D)).N++(⟨7,⟨#[]⟩,2⟩::(⟨6,⟨#[]⟩,0⟩::([⟨2,⟨#[]⟩,0⟩]++(⟨6,⟨#[]⟩,0⟩::([⟨1,m,0⟩]++(inD ((op-5).toNat+1) z (q0r z l.D)).N)))))))):=by
  show _=_;have e:wbS (btL m)=m:=z1x m;simp only[Tr.N,e]
 generalize(grD (twD (inD (op-5).toNat y (q0r y k.D)) (dpD (twD blD (twD (wdD (btL m)) (inD ((op-5).toNat+1) z (q0r z l.D))))))).N=R at C⊢
 generalize(inD (op-5).toNat y (q0r y k.D)).N=xs at J C Q
 generalize(inD ((op-5).toNat+1) z (q0r z l.D)).N=ys at K C S
 have x:xs.length<=1004:=by omega
 have Aa:ys.length<=1004:=by omega
 generalize z::(l.N++r)=r1 at J K A;generalize y::(k.N++r1)=r0 at A;go_in;go_wp2_with fail;refine(J.o).mono ?_;rintro e w1 n;obtain⟨v1,rfl,Q,l1⟩:=n.val;replace A:=hid (A.o.then l1);have B:=hid Q;go_wp2_with fail;refine(K.o _ A.o.ly).mono ?_;rintro e w2 o;obtain⟨v2,rfl,S,Y⟩:=o.val;replace A:=hid (A.o.then Y);replace B:=hid (B.o.but Y.bt);have G:=hid S;go_wp2_with fail;refine(z2o _).mono ?_;rintro e w3 p;obtain⟨v3,rfl,n3,L⟩:=p.valB A.o.in;replace A:=hid (A.o.step L);replace B:=hid (B.o.bel L);replace G:=hid (G.o.bel L);have E:=hid n3;go_wp2_with fail;refine(q2j _ _).mono ?_;rintro e w4 q;obtain⟨v4,rfl,n4,I⟩:=q.valB A.o.in;replace A:=hid (A.o.step I);replace B:=hid (B.o.bel I);replace G:=hid (G.o.bel I);replace E:=hid (E.o.bel I);have g:=hid n4;go_wp2_with fail;refine(q1p _ g.o.val G.o.val (by first|(simp;done)|(simp;omega))).mono ?_;rintro e w5 s;obtain⟨v5,rfl,n5,M⟩:=s.valB A.o.in;replace A:=hid (A.o.step M);replace B:=hid (B.o.bel M);replace E:=hid (E.o.bel M);have a:=hid n5;go_wp2_with fail;refine(q1p _ E.o.val a.o.val (by first|(simp;done)|(simp;omega))).mono ?_;rintro e w6 t;obtain⟨v6,rfl,n6,U⟩:=t.valB A.o.in;replace A:=hid (A.o.step U);replace B:=hid (B.o.bel U);have c:=hid n6;go_wp2_with fail;refine(q9z _ c.o.val (by first|(simp;done)|(simp;omega))).mono ?_;rintro e w7 u;obtain⟨v7,rfl,n7,V⟩:=u.valB A.o.in;replace A:=hid (A.o.step V);replace B:=hid (B.o.bel V);have d:=hid n7;go_wp2_with fail;refine(q1p _ B.o.val d.o.val (by first|(simp;done)|(simp;omega))).mono ?_;rintro e w8 v;obtain⟨v8,rfl,n8,j⟩:=v.valB A.o.in;replace A:=hid (A.o.step j);have f:=hid n8;go_wp2_with fail;refine(z2p _ f.o.val (by first|(simp;done)|(simp;omega))).mono ?_;rintro e Z X
 have i:Hid (NdG w0 b w R r e Z):=by
  have h:=X.gof A.o;show NdG w0 b w R r e Z;rw[C.o];exact h
 obtain⟨v9,rfl,_,_⟩:=X.val;go_wp2;go_ret;exact i.o
theorem v6n{w0:World}{b:Nat}(ht:k1h w0)(n:Int)(h0:0<=n)(h9:n<=999999)(tx:ByteArray):ExL w0 b ⟨1,tx,n⟩ Fo.nil:=by
 intro r w Q;have K:=hid (q4j Q);have M:=hid ht;generalize P:(q0r ⟨1,tx,n⟩ Fo.nil.D).N=R;have E:=hid P;go_in;go_wp2_with fail;refine K.o.mono ?_;rintro e B⟨rfl,I⟩
 have G:Hid (∀W:World,Below B B W->Cb 168 #[.int .i64 n] W (.string (wbS (q3o n.toNat)))):=fun W hb=>k8u n h0 h9 W (by
  obtain⟨A,c,U⟩:=I.ly
  exact(M.o.W U.bl).W hb)
 have H:Hid (∀W:World,Below B B W->Cp 186 #[.string (wbS (q3o n.toNat))] W fun e w'=>NdG w0 b w R r e w'):=fun W hb=>(q2j _ W).mono fun e w' h=>by
  rw[<-E.o];exact h.gof (I.step hb)
 generalize wbS (q3o n.toNat)=S at G H;go_wp2_with fail;refine(G.o _ (q1w B _)).mono ?_;rintro e X⟨rfl,O⟩;have C:=hid (q0e (q1w B _) Zl O);go_wp2_with fail;refine(H.o _ C.o).mono ?_;rintro e Y J;have L:=hid J;obtain⟨V,rfl,_,_⟩:=J.val;go_wp2;go_ret;exact L.o
theorem j8k{w0:World}{b:Nat}(tx:ByteArray)(Q:tx.size<=100)(n:Int):ExL w0 b ⟨2,tx,n⟩ Fo.nil:=by
 intro r w P;have H:=hid (q4j P);generalize O:(q0r ⟨2,tx,n⟩ Fo.nil.D).N=R;have B:=hid O;go_in;go_wp2_with fail;refine H.o.mono ?_;rintro e C⟨rfl,M⟩;have G:Hid (∀W:World,Cb 77 #[.string tx] W (.string tx)):=fun W=>q8w tx W (by omega)
 have J:Hid (∀W:World,Below C C W->Cp 186 #[.string tx] W fun e w'=>NdG w0 b w R r e w'):=fun W hb=>(q2j _ W).mono fun e w' h=>by
  have L:(q0r ⟨2,tx,n⟩ Fo.nil.D).N=[⟨1,tx,0⟩]:=by
   show [(⟨1,wbS (btL tx),0⟩:Nd)]=_;rw[z1x]
  rw[<-B.o,L];exact h.gof (M.step hb)
 go_wp2_with fail;refine(G.o _).mono ?_;rintro e U⟨rfl,K⟩;have A:=hid (q0e (q1w C _) Zl K);go_wp2_with fail;refine(J.o _ A.o).mono ?_;rintro e V E;have I:=hid E;obtain⟨S,rfl,_,_⟩:=E.val;go_wp2;go_ret;exact I.o
theorem j8j{w0:World}{b:Nat}{F:Fo}(tx:ByteArray)(hE:EAL w0 b F)(hs:z4d F.D<=1000)(B:F.len<=1000):ExL w0 b ⟨4,tx,(F.len:Int)⟩ F:=by
 intro r w M;have H:=hid (q4j M);generalize L:(q0r ⟨4,tx,(F.len:Int)⟩ F.D).N=R;have A:=hid L;go_in;go_wp2_with fail;refine H.o.mono ?_;rintro e C⟨rfl,E⟩
 have J:Hid (∀W:World,Below C C W->Cp 219 #[.pointer (some ⟨b,0,none⟩),.string ⟨#[91]⟩,.int .i64 (F.len:Int),.string ⟨#[93]⟩] W fun e w'=>NdG w0 b w R r e w'):=fun W hb=>(z3g F hE hs B ⟨#[91]⟩ ⟨#[93]⟩ (by decide) (by decide) r W (E.step hb).ly).mono fun e w' h=>by
  have K:q0r ⟨4,tx,(F.len:Int)⟩ F.D=q3m (btL ⟨#[91]⟩) (btL ⟨#[93]⟩) F.D:=rfl;rw[<-A.o,K];exact NdG.then (E.step hb) h
 go_wp2_with fail;refine(J.o _ (q1w C _)).mono ?_;rintro e P G;have I:=hid G;obtain⟨O,rfl,_,_⟩:=G.val;go_wp2;go_ret;exact I.o
theorem j5q(tx:ByteArray):btL (tx++(⟨#[40]⟩:ByteArray))=btL tx++[40]:=by
 have e:wbS (btL tx)++wbS [40]=wbS (btL tx++[40]):=q0l _ _;rw[z1x]at e;have A:tx++(⟨#[40]⟩:ByteArray)=wbS (btL tx++[40]):=e;rw[A];rfl
theorem y5q(tx:ByteArray):(tx++(⟨#[40]⟩:ByteArray)).size=tx.size+1:=by
 rw[<-q0c,j5q,length_append,q0c];rfl
theorem j8i{w0:World}{b:Nat}{F:Fo}(tx:ByteArray)(P:tx.size<=80)(hE:EAL w0 b F)(hs:z4d F.D<=1000)(B:F.len<=1000):ExL w0 b ⟨3,tx,(F.len:Int)⟩ F:=by
 intro r w M;have H:=hid (q4j M);generalize L:(q0r ⟨3,tx,(F.len:Int)⟩ F.D).N=R;have A:=hid L;go_in;go_wp2_with fail;refine H.o.mono ?_;rintro e C⟨rfl,E⟩
 have J:Hid (∀W:World,Below C C W->Cp 219 #[.pointer (some ⟨b,0,none⟩),.string (tx++(⟨#[40]⟩:ByteArray)),.int .i64 (F.len:Int),.string ⟨#[41]⟩] W fun e w'=>NdG w0 b w R r e w'):=fun W hb=>(z3g F hE hs B (tx++(⟨#[40]⟩:ByteArray)) ⟨#[41]⟩ (by rw[y5q];omega) (by decide) r W (E.step hb).ly).mono fun e w' h=>by
  have K:q0r ⟨3,tx,(F.len:Int)⟩ F.D=q3m (btL (tx++(⟨#[40]⟩:ByteArray))) (btL ⟨#[41]⟩) F.D:=by rw[j5q];rfl
  rw[<-A.o,K];exact NdG.then (E.step hb) h
 have O:¬9223372036854775807<tx.size+1:=by omega
 go_wp2_with fail;refine(J.o _ (q1w C _)).mono ?_;rintro e S G;have I:=hid G;obtain⟨Q,rfl,_,_⟩:=G.val;go_wp2;go_ret;exact I.o
theorem v6o{w0:World}{b:Nat}{y z:Td}{k l:Fo}(tx:ByteArray)(n:Int)(hX:ExL w0 b y k)(hZ:ExL w0 b z l)(E:(q0r y k.D).N.length<=1000)(G:(q0r z l.D).N.length<=1000):ExL w0 b ⟨5,tx,n⟩ (Fo.cons y k (.cons z l .nil)):=by
 intro r w P;have K:=hid (q4j P);generalize O:(q0r ⟨5,tx,n⟩ (Fo.cons y k (.cons z l .nil)).D).N=R;have B:=hid O;go_in;go_wp2_with fail;refine K.o.mono ?_;rintro e H⟨rfl,I⟩
 have M:Hid (∀W:World,Below H H W->Cp 220 #[.pointer (some ⟨b,0,none⟩),.int .i64 5,.string ⟨#[43,32]⟩] W fun e w'=>NdG w0 b w R r e w'):=fun W hb=>by
  rw[<-B.o];have A:=(I.step hb).ly;have C:(Fo.cons y k (.cons z l .nil)).N++r=y::(k.N++(z::(l.N++r))):=by simp[Fo.N]
  rw[C]at A;exact(z7l hX hZ E G 5 (by decide) ⟨#[43,32]⟩ r W A).mono fun e w' h=>NdG.then (I.step hb) h
 go_wp2_with fail;refine(M.o _ (q1w H _)).mono ?_;rintro e S J;have L:=hid J;obtain⟨Q,rfl,_,_⟩:=J.val;go_wp2;go_ret;exact L.o
theorem v6m{w0:World}{b:Nat}{y z:Td}{k l:Fo}(tx:ByteArray)(n:Int)(hX:ExL w0 b y k)(hZ:ExL w0 b z l)(E:(q0r y k.D).N.length<=1000)(G:(q0r z l.D).N.length<=1000):ExL w0 b ⟨6,tx,n⟩ (Fo.cons y k (.cons z l .nil)):=by
 intro r w P;have K:=hid (q4j P);generalize O:(q0r ⟨6,tx,n⟩ (Fo.cons y k (.cons z l .nil)).D).N=R;have B:=hid O;go_in;go_wp2_with fail;refine K.o.mono ?_;rintro e H⟨rfl,I⟩
 have M:Hid (∀W:World,Below H H W->Cp 220 #[.pointer (some ⟨b,0,none⟩),.int .i64 6,.string ⟨#[42,32]⟩] W fun e w'=>NdG w0 b w R r e w'):=fun W hb=>by
  rw[<-B.o];have A:=(I.step hb).ly;have C:(Fo.cons y k (.cons z l .nil)).N++r=y::(k.N++(z::(l.N++r))):=by simp[Fo.N]
  rw[C]at A;exact(z7l hX hZ E G 6 (by decide) ⟨#[42,32]⟩ r W A).mono fun e w' h=>NdG.then (I.step hb) h
 go_wp2_with fail;refine(M.o _ (q1w H _)).mono ?_;rintro e S J;have L:=hid J;obtain⟨Q,rfl,_,_⟩:=J.val;go_wp2;go_ret;exact L.o
theorem j0f(x:Td)(k n:Fo):z4d k.D<=20*(Fo.cons x k n).N.length/\(q0r x k.D).N.length<=20*(Fo.cons x k n).N.length:=by
 have h:=z6v (.cons x k n);have B:=z6v k;rw[Fo.D,q2k]at h;have e:(x,q0r x k.D).2=q0r x k.D:=rfl;rw[e]at h;have A:k.N.length<=(Fo.cons x k n).N.length:=by simp only[Fo.N,length_cons,length_append];omega
 omega
theorem z9r{w0:World}{b:Nat}(ht:k1h w0):∀F:Fo,F.ok->F.exs->F.N.length<=50->EAL w0 b F
 | .nil,_,_,_=>trivial
 | .cons x k n,hok,hex,hlen=>by
  have hl1:k.N.length+n.N.length+1<=50:=by simp only[Fo.N,length_cons,length_append]at hlen;omega
  have J:EAL w0 b k:=z9r ht k hok.2.1 (fun y hy=>hex y (by simp[Fo.N,hy])) (by omega);have M:EAL w0 b n:=z9r ht n hok.2.2 (fun y hy=>hex y (by simp[Fo.N,hy])) (by omega);refine⟨?_,M⟩;have O:=hex x (by simp[Fo.N]);have A:=hok.1;have H:z4d k.D<=1000:=by have:=(j0f x k n).1;omega
  obtain⟨P,K,m⟩:=x;rcases q2c O with⟨B,E,G,I,C⟩|⟨B,E,G,C⟩|⟨B,E,G,I,C⟩|⟨B,E,G,I,C⟩|⟨B,E,G,C⟩|⟨B,E,G,C⟩
  ·rw[C]at A;cases k with
   | cons=>simp[Fo.len]at A
   | nil=>
    dsimp only at B G I;subst B;exact v6n ht m G I K
  ·rw[C]at A;cases k with
   | cons=>simp[Fo.len]at A
   | nil=>
    dsimp only at B E;subst B;have L:=q3a E;rw[q0c]at L;exact j8k K (by omega) m
  ·rw[C]at A;dsimp only at B E G I A;subst B
   have:m=(k.len:Int):=by omega
   subst this;have L:=q3a E;rw[q0c]at L;exact j8i K (by omega) J H (by omega)
  ·rw[C]at A;dsimp only at B G I A;subst B
   have:m=(k.len:Int):=by omega
   subst this;exact j8j K J H (by omega)
  all_goals
   rw[C]at A;dsimp only at B;subst B;cases k with
   | nil=>simp[Fo.len]at A
   | cons y ky r=>
    cases r with
    | nil=>simp[Fo.len]at A
    | cons z kz r2=>
     cases r2 with
     | cons=>simp[Fo.len]at A
     | nil=>
      have Q:=(j0f y ky (.cons z kz .nil)).2;have R:=(j0f z kz .nil).2;have S:(Fo.cons z kz .nil).N.length<=(Fo.cons y ky (.cons z kz .nil)).N.length:=by simp only[Fo.N,length_cons,length_append];omega
      first
       | exact v6o K m J.1 J.2.1 (by omega) (by omega)
       | exact v6m K m J.1 J.2.1 (by omega) (by omega)
theorem j8s{w0:World}{b:Nat}{xt:ByteArray}{xn:Int}{y:Td}{k:Fo}(hX:ExL w0 b y k)(hz:(q0r y k.D).N.length<=1000)(h8:xt.size<=8)(w:World)(hW:LyE w0 b (⟨7,xt,xn⟩::(y::(k.N++[]))) w):
  Calls prog 158 #[.pointer b] w fun e w'=>NdG w0 b w (stD ⟨7,xt,xn⟩ (q0r y k.D)).N [] e w':=by
 have a:=hid (q4j hW);have G:Hid (∀W,LyE w0 b (y::(k.N++[])) W->Cp 185 #[.pointer b] W fun e w'=>NdG w0 b W (q0r y k.D).N [] e w'):=fun W hW=>hX [] W hW
 have C:Hid ((stD ⟨7,xt,xn⟩ (q0r y k.D)).N=⟨8,⟨#[]⟩,0⟩::(⟨6,⟨#[]⟩,0⟩::([⟨1,(⟨#[108,101,116,32]⟩:ByteArray)++xt++(⟨#[32,61]⟩:ByteArray),0⟩]++(⟨7,⟨#[]⟩,2⟩::(⟨6,⟨#[]⟩,0⟩::([⟨2,⟨#[]⟩,0⟩]++(⟨6,⟨#[]⟩,0⟩::((q0r y k.D).N++[⟨1,⟨#[59]⟩,0⟩])))))))):=by
  show _=_
  have e6:wbS ([108,101,116,32]++btL xt++[32,61])=(⟨#[108,101,116,32]⟩:ByteArray)++xt++(⟨#[32,61]⟩:ByteArray):=by
   have q1:wbS [108,101,116,32]++wbS (btL xt)=wbS ([108,101,116,32]++btL xt):=q0l _ _;have q2:wbS ([108,101,116,32]++btL xt)++wbS [32,61]=wbS ([108,101,116,32]++btL xt++[32,61]):=q0l _ _;rw[<-q2,<-q1];rfl
  rw[<-e6];rfl
 generalize(stD ⟨7,xt,xn⟩ (q0r y k.D)).N=R at C⊢
 generalize(q0r y k.D).N=xs at G C hz
 generalize y::(k.N++[])=r0 at a G;have g1:¬9223372036854775807<4+xt.size:=by omega
 have g2:¬9223372036854775807<4+xt.size+2:=by omega
 clear hX hW;go_in;go_wp2_with fail;refine a.o.mono ?_;rintro e I⟨rfl,i⟩;have K:Hid (∃Z,I.alloc (.cells #[.int .i64 7,.string xt,xn] 71)=Z/\Lk w0 b w r0 Z/\Z.heap[I.heap.size]?=some (.cells #[.int .i64 7,.string xt,xn] 71 (0,0))):=⟨_,rfl,i.step (q1w I _),heap_alloc_new I _⟩;have j:I.heap.size≠b:=by have:=i.in;omega
 clear i a;go_wp2_with fail;obtain⟨Z,P,O,Q⟩:=K.o;rw[P];have A:=hid O;have B:=hid Q;clear K O Q P;go_wp2_with fail;refine(G.o _ A.o.ly).mono ?_;rintro e w3 r;obtain⟨v3,rfl,z,l⟩:=r.val;replace A:=hid (A.o.then l);replace B:=hid ((l.bt.block _ (Array.getElem?_eq_some_iff.1 B.o).1 j).trans B.o);have V:=hid z;clear r z l;go_wp2_with fail;refine(q2j _ _).mono ?_;rintro e w4 s;obtain⟨v4,rfl,n4,X⟩:=s.valB A.o.in;replace A:=hid (A.o.step X);replace B:=hid ((X.block _ (Array.getElem?_eq_some_iff.1 B.o).1).trans B.o);replace V:=hid (V.o.bel X);have q:=hid n4;clear s n4 X;go_wp2_with fail;refine(q1p _ V.o.val q.o.val (by first|(simp;done)|(simp;omega))).mono ?_;rintro e w5 t;obtain⟨v5,rfl,n5,c⟩:=t.valB A.o.in;replace A:=hid (A.o.step c);replace B:=hid ((c.block _ (Array.getElem?_eq_some_iff.1 B.o).1).trans B.o);clear V;clear q;have J:=hid n5;clear t n5 c;have d0:w5.cell? I.heap.size=some (.int .i64 7):=by rw[Lib.cell_of_heap B.o];rfl
 have d1:w5.cell? (I.heap.size,1)=some (.string xt):=by rw[Lib.cell_of_heap B.o];rfl
 clear B;go_wp2_with fail;refine(q2j _ _).mono ?_;rintro e w6 u;obtain⟨v6,rfl,n6,d⟩:=u.valB A.o.in;replace A:=hid (A.o.step d);replace J:=hid (J.o.bel d);have E:=hid n6;clear u n6 d;clear d0 d1;go_wp2_with fail;refine(z2o _).mono ?_;rintro e w7 v;obtain⟨v7,rfl,n7,Y⟩:=v.valB A.o.in;replace A:=hid (A.o.step Y);replace J:=hid (J.o.bel Y);replace E:=hid (E.o.bel Y);have m:=hid n7;clear v n7 Y;go_wp2_with fail;refine(q1p _ m.o.val J.o.val (by first|(simp;done)|(simp;omega))).mono ?_;rintro e w8 h8;obtain⟨v8,rfl,n8,f⟩:=h8.valB A.o.in;replace A:=hid (A.o.step f);clear m;clear J;replace E:=hid (E.o.bel f);have p:=hid n8;clear h8 n8 f;go_wp2_with fail;refine(q9z _ p.o.val (by first|(simp;done)|(simp;omega))).mono ?_;rintro e w9 x;obtain⟨v9,rfl,n9,g⟩:=x.valB A.o.in;replace A:=hid (A.o.step g);clear p;replace E:=hid (E.o.bel g);have n:=hid n9;clear x n9 g;go_wp2_with fail;refine(q1p _ E.o.val n.o.val (by first|(simp;done)|(simp;omega))).mono ?_;rintro e Ac M;obtain⟨Aa,rfl,S,L⟩:=M.valB A.o.in;replace A:=hid (A.o.step L);clear E;clear n;have o:=hid S;clear M S L;go_wp2_with fail;refine(z2p _ o.o.val (by first|(simp;done)|(simp;omega))).mono ?_;rintro e U H
 have HX:Hid (NdG w0 b w R [] e U):=by
  have h:=H.gof A.o;show NdG w0 b w R [] e U;rw[C.o];exact h
 obtain⟨Ab,rfl,_,_⟩:=H.val;clear H A C o;go_wp2;go_ret;exact HX.o
theorem v6q{w0:World}{b:Nat}{xt:ByteArray}{xn:Int}{y:Td}{k:Fo}(hX:ExL w0 b y k)(hz:(q0r y k.D).N.length<=1000)(w:World)(hW:LyE w0 b (⟨8,xt,xn⟩::(y::(k.N++[]))) w):
  Calls prog 158 #[.pointer b] w fun e w'=>NdG w0 b w (stD ⟨8,xt,xn⟩ (q0r y k.D)).N [] e w':=by
 have Q:=hid (q4j hW);have E:Hid (∀W,LyE w0 b (y::(k.N++[])) W->Cp 185 #[.pointer b] W fun e w'=>NdG w0 b W (q0r y k.D).N [] e w'):=fun W hW=>hX [] W hW
 have B:Hid ((stD ⟨8,xt,xn⟩ (q0r y k.D)).N=⟨6,⟨#[]⟩,0⟩::((q0r y k.D).N++[⟨1,⟨#[59]⟩,0⟩])):=rfl
 generalize(stD ⟨8,xt,xn⟩ (q0r y k.D)).N=R at B⊢
 generalize(q0r y k.D).N=xs at E B hz
 generalize y::(k.N++[])=r0 at Q E;clear hX hW;go_in;go_wp2_with fail;refine Q.o.mono ?_;rintro e G⟨rfl,S⟩;have H:Hid (∃P,G.alloc (.cells #[.int .i64 8,.string xt,xn] 71)=P/\Lk w0 b w r0 P/\P.heap[G.heap.size]?=some (.cells #[.int .i64 8,.string xt,xn] 71 (0,0))):=⟨_,rfl,S.step (q1w G _),heap_alloc_new G _⟩;have V:G.heap.size≠b:=by have:=S.in;omega
 clear S Q;go_wp2_with fail;obtain⟨P,K,J,L⟩:=H.o;rw[K];have C:=hid J;have A:=hid L;clear H J L K;go_wp2_with fail;refine(E.o _ C.o.ly).mono ?_;rintro e o c;obtain⟨l,rfl,f,X⟩:=c.val;replace C:=hid (C.o.then X);replace A:=hid ((X.bt.block _ (Array.getElem?_eq_some_iff.1 A.o).1 V).trans A.o);have M:=hid f;clear c f X;go_wp2_with fail;refine(q2j _ _).mono ?_;rintro e p d;obtain⟨m,rfl,g,O⟩:=d.valB C.o.in;replace C:=hid (C.o.step O);replace A:=hid ((O.block _ (Array.getElem?_eq_some_iff.1 A.o).1).trans A.o);replace M:=hid (M.o.bel O);have Z:=hid g;clear d g O;go_wp2_with fail;refine(q1p _ M.o.val Z.o.val (by first|(simp;done)|(simp;omega))).mono ?_;rintro e Y U
 have i:Hid (NdG w0 b w R [] e Y):=by
  have h:=U.gof C.o;show NdG w0 b w R [] e Y;rw[B.o];exact h
 obtain⟨n,rfl,_,a⟩:=U.val;have I:=(a.block _ (Array.getElem?_eq_some_iff.1 A.o).1).trans A.o;have j:Y.cell? G.heap.size=some (.int .i64 8):=by rw[Lib.cell_of_heap I];rfl
 clear U C B M Z a I A;go_wp2;go_ret;exact i.o
theorem j8r{t:List Td}{a:Option Addr}{cap:Nat}{w W:World}{b:Nat}(ht:k1h w)(h:q0b t=0)(h9:opT t≠9)(hc:t.length<=cap)(hN:Tds w a t)(E:w.heap.size<=b)(hx:W.heap[b]?=some (.cells #[.slice a t.length cap] 243 (0,0)))(hb:Below w w W):
  Calls prog 158 #[.pointer b] W fun e w'=>NdR w (q0w t).N e w':=by
 obtain⟨M,V,_,_⟩:=q3k h;obtain⟨x,y,k,rfl,H,I,S,K⟩:=k0p h h9;have B:EAL w b (.cons y k .nil):=z9r ht _ H I (by simp only[length_cons]at M;omega)
 have Q:(q0r y k.D).N.length<=1000:=by
  have:=(j0f y k .nil).2
  simp only[length_cons]at M;omega
 have R:=k0n H S;have J:x::(Fo.cons y k .nil).N=x::(y::(k.N++[])):=by simp[Fo.N]
 rw[R]
 have P:LyE w b (x::(y::(k.N++[]))) W:=by
  rw[<-J];exact⟨a,cap,hx,hc,hN,hb,E⟩
 have L:Calls prog 158 #[.pointer b] W fun e w'=>NdG w b W (stD x (q0r y k.D)).N [] e w':=by
  obtain⟨Y,Z,X⟩:=x;rcases K with⟨C,G,_⟩|⟨C,_,_⟩
  ·dsimp only at C G;subst C;have O:=q3a G;rw[q0c]at O;exact j8s B.1 Q O W P
  ·dsimp only at C;subst C;exact v6q B.1 Q W P
 refine L.mono ?_;rintro e w'⟨A,c,rfl,C,U⟩;exact⟨A,c,rfl,C.down hb.size,hb.trans ((U.bt.mono hb.size).W E)⟩
theorem j8o(t:List Td)(a:Option Addr)(cap:Nat)(w:World)(ht:k1h w)(h:q0b t=0)(h9:opT t≠9)(hc:t.length<=cap)(hN:Tds w a t):Calls prog 123 #[.slice a t.length cap] w fun e w'=>z4e t e w'/\Below w w w':=by
 have B:Hid (∀(W:World)(b:Nat),w.heap.size<=b->W.heap[b]?=some (.cells #[.slice a t.length cap] 243 (0,0))->Below w w W->Cp 158 #[.pointer b] W fun e w'=>NdR w (q0w t).N e w'):=fun W b hlt hx hb=>j8r ht h h9 hc hN hlt hx hb
 have I:=(z6x h h9).n;by_cases K:400<(q0w t).N.length
 ·obtain⟨G,C,_,_⟩:=v6h h h9 K;have J:Hid (∀W,z4e t (.returned (.tuple #[.slice none 0 0,q2m 3])) W):=fun W=>⟨none,0,by rw[G,C];rfl,by rw[C];exact fun i hi=>by simp at hi,by rw[C];exact le_refl _⟩
  generalize(q0w t).N=xs at B K I
  have M:(400:Int)<(xs.length:Int):=by omega
  clear h h9 G C hN ht;go_in;go_wp2_with fail;refine(B.o _ _ Zl (heap_alloc_new w _) (q1w w _)).mono ?_;rintro e O⟨A,c,rfl,H,E⟩;have D:=hid E;clear H E;go_wp2;go_ret2;exact⟨J.o _,D.o⟩
 ·obtain⟨G,C,_,_⟩:=y3z h h9 K;have J:Hid (∀A c W,q2b W A (q0w t).N->(q0w t).N.length<=c->z4e t (.returned (.tuple #[.slice A (q0w t).N.length c,q2m 0])) W):=fun A c W h h2=>⟨A,c,by rw[G,C],by rw[C];exact h,by rw[C];exact h2⟩
  generalize(q0w t).N=xs at B K I J
  have M:¬(400:Int)<(xs.length:Int):=by omega
  clear h h9 G C hN ht;go_in;go_wp2_with fail;refine(B.o _ _ Zl (heap_alloc_new w _) (q1w w _)).mono ?_;rintro e O⟨A,c,rfl,H,E⟩;have D:=hid E;have L:=hid (J.o A c O H.nods (k9u H).2.1);clear H E;go_wp2;go_ret2;exact⟨L.o,D.o⟩
theorem v2c:∀W:List Wd,(∀w∈W,w.length<=20)->szW W<=21*W.length
 | [],_=>le_refl _
 | x::r,h=>by
  have h1:=v2c r fun w hw=>h w (by simp[hw])
  have h2:=h x (by simp);rw[q2h,length_cons];omega
theorem z9z{tx:ByteArray}(h:q2t tx=0):Lib.fields (btL tx)=q0d (btL tx)/\(btL tx).length<=2000/\∀b∈btL tx,b.toNat<128:=by
 obtain⟨I,E⟩:=k0a h;by_cases B:btL tx=[]
 ·rw[B];exact⟨rfl,by simp,fun b A=>by cases A⟩
 ·have H:q0d (btL tx)=q4x (btL tx):=by rw[q0d,if_neg B]
  rw[H]at I E⊢;have G:=k2l (btL tx)
  have C:∀b∈btL tx,prB b=true:=by
   intro b A;rw[<-G]at A;refine z9n (p:=prB) rfl (q4x (btL tx)) (fun w D b A=>?_) b A;have J:=(E w D).2.2 b A;simp only[q7v,Bool.and_eq_true,decide_eq_true_eq]at J;simp only[prB,Bool.and_eq_true,decide_eq_true_eq];omega
  refine⟨?_,?_,fun b A=>?_⟩
  ·rw[z2i fun b A hs=>y9b (C b A) hs,List.filter_eq_self];intro w D
   have:=(E w D).1
   cases w with
   | nil=>exact absurd rfl this
   | cons=>rfl
  ·have K:=y3w (q4x (btL tx));have L:=v2c (q4x (btL tx)) fun w D=>(E w D).2.1
   rw[G]at K;omega
  ·have:=C b A
   simp only[prB,Bool.and_eq_true,decide_eq_true_eq]at this;omega
theorem k6f{tx:ByteArray}(h:q2t tx=0)(w:World)(ht:z2c w):Calls prog 118 #[.string tx] w fun e w'=>(∃g,e=.returned (.slice (some ⟨g,0,none⟩) (q0d (btL tx)).length (q0d (btL tx)).length)/\Wds w' (some ⟨g,0,none⟩) ((q0d (btL tx)).map wbS))/\Below w w w':=by
 obtain⟨B,C,D⟩:=z9z h;rw[<-B];rw[q0c]at C;refine(fields_sh tx w (by omega) (fun j c hj=>D c (List.mem_of_getElem? hj)) ht.spc).mono ?_;rintro e w'⟨rfl,rfl⟩;refine⟨⟨w.heap.size,rfl,?_⟩,q1w w _⟩;intro i E;have A:i<(Lib.fields (btL tx)).length:=by simpa using E
 refine⟨w.heap.size,0,rfl,by rw[World.size_alloc];omega,?_⟩;rw[Nat.zero_add];have G:=heap_alloc_new w (.cells ((Lib.fields (btL tx)).map fun l=>Value.string ⟨l.toArray⟩).toArray 9);rw[Lib.cell_of_heap G]
 show((Lib.fields (btL tx)).map fun l=>Value.string ⟨l.toArray⟩).toArray[i]?=_
 rw[List.getElem?_toArray,List.getElem?_map,show(Lib.fields (btL tx))[i]?=some (Lib.fields (btL tx))[i]from List.getElem?_eq_getElem A];simp[wbS]
theorem z5k{t:List Td}{a:Option Addr}{w:World}(h:q0b t=0)(hN:Tds w a t):0<t.length/\∃b o,a=some ↑(b,o)/\b<w.heap.size/\w.cell? ↑(b,o)=some ↑(opT t)/\w.cell? ↑(b,o+1)=some (.string (txT t)):=by
 have A:=z1s h;obtain⟨b,o,e,D,B,C,_⟩:=hN 0 A;refine⟨A,b,o,e,D,?_,?_⟩
 ·rw[z5j A];simpa using B
 ·cases t with
  | nil=>simp at A
  | cons x r=>simpa[txT]using C
theorem z5f{b o cap n:Nat}{op:Int}{w:World}(hn:0<n)(h:w.cell? (b,o)=some ↑op):Cw 117 #[.slice (some ↑(b,o)) n cap] w (.bool (op==9)):=by
 unfold Cw;have A:(0:Int)<(n:Int):=by omega
 go_in;go_wp2;go_ret;exact⟨rfl,rfl⟩
theorem j1z(t:List Td)(a:Option Addr)(cap:Nat)(w:World)(ht:k1h w)(hc:t.length<=cap)(hN:Tds w a t)(M:z8j t):Calls prog 87 #[.slice a t.length cap] w fun e w'=>z4e t e w'/\Below w w w':=by
 have O:Hid (Cb 51 #[.slice a t.length cap] w (q2m (q0b t))):=q7k t a cap w hc hN M;have S:Hid (Tds w a t):=hN;have d:Hid (k1h w):=ht;clear hN M ht;by_cases D:q0b t=0
 ·obtain⟨L,b,o,rfl,g,V,f⟩:=z5k D S.o;have P:Hid (∀W:World,Below w w W->Cw 117 #[.slice (some ↑(b,o)) t.length cap] W (.bool (opT t==9))):=fun W h=>z5f L (((q0s h).1 _ _ g).trans V)
  rw[D]at O;clear V f;by_cases I:opT t=9
  ·obtain⟨K,C,_,_⟩:=z9p D I;have G:Hid (∀W,z4e t (.returned (.tuple #[.slice none 0 0,q2m 2])) W):=fun W=>⟨none,0,by rw[K,C];rfl,by rw[C];exact fun i hi=>by simp at hi,by rw[C];exact le_refl _⟩
   rw[show(opT t==9)=true by simp[I]]at P;clear D I K C;go_in;go_wp2_with fail;refine O.o.mono ?_;rintro e N⟨rfl,H⟩;rw[q1n];have B:Hid (Below w w N):=H;clear H;go_wp2_with fail;refine(P.o _ B.o).mono ?_;rintro e j⟨rfl,rfl⟩;go_wp2;go_ret2;exact⟨G.o _,B.o⟩
  ·have E:Hid (∀W:World,Below w w W->Cp 123 #[.slice (some ↑(b,o)) t.length cap] W fun e w'=>(∃A c,e=.returned (.tuple #[.slice A (q8x t).length c,q2m (q9m t)])/\q2b w' A (q8x t)/\(q8x t).length<=c)/\Below W W w'):=fun W h=>j8o t _ cap W (d.o.W h) D I hc (S.o.W h)
   have G:Hid (∀A c W,q2b W A (q8x t)->(q8x t).length<=c->z4e t (.returned (.tuple #[.slice A (q8x t).length c,q2m (q9m t)])) W):=fun A c W h h2=>⟨A,c,rfl,h,h2⟩
   rw[show(opT t==9)=false by simp[I]]at P;generalize q8x t=xs at E G;generalize q2m (q9m t)=er at E G;clear D I;go_in;go_wp2_with fail;refine O.o.mono ?_;rintro e N⟨rfl,H⟩;rw[q1n];have B:Hid (Below w w N):=H;clear H;go_wp2_with fail;refine(P.o _ B.o).mono ?_;rintro e j⟨rfl,rfl⟩;go_wp2_with fail;refine(E.o _ B.o).mono ?_;rintro e Z⟨⟨A,c,rfl,X,Y⟩,U⟩;have Q:Hid (Below w w Z):=q0e B.o Zl U;have J:=hid (G.o A c Z X Y);clear X Y U;generalize xs.length=nx at J⊢;go_wp2;go_ret2;exact⟨J.o,Q.o⟩
 ·obtain⟨K,C,_,_⟩:=j7x D;have R:Hid (q2m (q0b t)=.iface 24 (q0b t)):=q0q D;have G:Hid (∀W,z4e t (.returned (.tuple #[.slice none 0 0,q2m (q0b t)])) W):=fun W=>⟨none,0,by rw[K,C];rfl,by rw[C];exact fun i hi=>by simp at hi,by rw[C];exact le_refl _⟩
  clear K C D;go_in;go_wp2_with fail;refine O.o.mono ?_;rintro e N⟨rfl,H⟩;rw[R.o];go_wp2;go_ret2;exact⟨by have:=G.o N;rw[R.o]at this;exact this,H⟩
theorem k6r{t:List Td}(h:q0b t=0)(h9:opT t=9):q2t (txT t)=0:=by
 rcases q5y h with⟨x,rfl,_,_,A⟩|⟨x,F,rfl,_,_,_,C⟩
 ·exact A
 ·exfalso;have e:opT (x::F.N)=x.op:=rfl;rcases C with⟨B,_⟩|⟨B,_⟩<;>omega
theorem k6c(t:List Td)(a:Option Addr)(cap:Nat)(w:World)(ht:z2c w)(hc:t.length<=cap)(hN:Tds w a t)(R:z8j t):Calls prog 84 #[.slice a t.length cap] w fun e w'=>z8k t e w'/\Below w w w':=by
 have S:Hid (Cb 51 #[.slice a t.length cap] w (q2m (q0b t))):=q7k t a cap w hc hN R;have n:Hid (Tds w a t):=hN;have p:Hid (z2c w):=ht;clear hN R ht;by_cases D:q0b t=0
 ·obtain⟨Q,b,o,rfl,l,j,V⟩:=z5k D n.o;have U:Hid (∀W:World,Below w w W->Cw 117 #[.slice (some ↑(b,o)) t.length cap] W (.bool (opT t==9))):=fun W h=>z5f Q (((q0s h).1 _ _ l).trans j)
  have H:Hid (∀W:World,Below w w W->W.cell? (b,o+1)=some (.string (txT t))):=fun W h=>((q0s h).1 _ _ l).trans V
  rw[D]at S;have q:(0:Int)<(t.length:Int):=by omega
  clear j V;by_cases J:opT t=9
  ·obtain⟨_,_,G,B⟩:=z9p D J;have K:=k6r D J;have Y:(txT t).size<=2000:=by rw[<-q0c];exact(z9z K).2.1
   have O:Hid (∀W:World,Cb 77 #[.string (txT t)] W (.string (txT t))):=fun W=>q8w _ W (by omega)
   have I:Hid (∀W:World,Below w w W->Cp 118 #[.string (txT t)] W fun e w'=>(∃g,e=.returned (.slice (some ⟨g,0,none⟩) (q0d (btL (txT t))).length (q0d (btL (txT t))).length)/\Wds w' (some ⟨g,0,none⟩) ((q0d (btL (txT t))).map wbS))/\Below W W w'):=fun W h=>k6f K W (p.o.W h)
   have L:Hid (∀A c W,Wds W A ((q0d (btL (txT t))).map wbS)->(q0d (btL (txT t))).length<=c->z8k t (.returned (.tuple #[.slice A (q0d (btL (txT t))).length c,q2m 0])) W):=fun A c W h h2=>⟨A,c,by rw[G,B,length_map],by rw[B];exact h,by rw[B,length_map];exact h2⟩
   rw[show(opT t==9)=true by simp[J]]at U;generalize q0d (btL (txT t))=ws at I L;generalize txT t=tx at I H O;clear D J G B Y K;go_in;go_wp2_with fail;refine S.o.mono ?_;rintro e M⟨rfl,E⟩;rw[q1n];have V:=H.o M E;have C:Hid (Below w w M):=E;clear E;go_wp2_with fail;refine(U.o _ C.o).mono ?_;rintro e r⟨rfl,rfl⟩;go_wp2_with fail;refine(O.o _).mono ?_;rintro e s⟨rfl,d⟩;have N:Hid (Below w w s):=q0e C.o Zl d;clear d;go_wp2_with fail;refine(I.o _ N.o).mono ?_;rintro e m⟨⟨g,rfl,k⟩,f⟩;have X:Hid (Below w w m):=q0e N.o Zl f;have P:=hid (L.o _ ws.length m k Zl);clear k f V;generalize ws.length=nw at P⊢;go_wp2;go_ret2;exact⟨P.o,X.o⟩
  ·have L:Hid (∀W,z8k t (.returned (.tuple #[.slice none 0 0,q2m 2])) W):=fun W=>by
    have G:k4z t=2:=by rw[k4z,if_neg (by simp[D]),if_neg J]
    have B:j2a t=[]:=by rw[j2a,if_neg (by rw[G];decide)]
    exact⟨none,0,by rw[G,B];rfl,by rw[B];exact fun i hi=>by simp at hi,by rw[B];exact le_refl _⟩
   rw[show(opT t==9)=false by simp[J]]at U;clear D J H;go_in;go_wp2_with fail;refine S.o.mono ?_;rintro e M⟨rfl,E⟩;rw[q1n];have C:Hid (Below w w M):=E;clear E;go_wp2_with fail;refine(U.o _ C.o).mono ?_;rintro e r⟨rfl,rfl⟩;go_wp2;go_ret2;exact⟨L.o _,C.o⟩
 ·obtain⟨_,_,G,B⟩:=j7x D;have Z:Hid (q2m (q0b t)=.iface 24 (q0b t)):=q0q D;have L:Hid (∀W,z8k t (.returned (.tuple #[.slice none 0 0,q2m (q0b t)])) W):=fun W=>⟨none,0,by rw[G,B];rfl,by rw[B];exact fun i hi=>by simp at hi,by rw[B];exact le_refl _⟩
  clear G B D;go_in;go_wp2_with fail;refine S.o.mono ?_;rintro e M⟨rfl,E⟩;rw[Z.o];go_wp2;go_ret2;exact⟨by have:=L.o M;rw[Z.o]at this;exact this,E⟩
def q6n(ws:List Wd):Nat->Bool
 | 0=>false
 | k+1=>(ws.getD k []).headD 0==35
theorem z8o(t l:Wd):(q6i t l).length<=t.length+1+l.length:=by
 unfold q6i
 split<;>simp only[length_append,length_cons,length_nil]<;>omega
def k4f(ws:List Wd):Nat:=(ws.map fun l=>l.length+1).sum
theorem k8s:∀(ws:List Wd)(t:Wd),(ws.foldl q6i t).length<=t.length+k4f ws
 | [],t=>by simp[k4f]
 | w::r,t=>by
  have h1:=k8s r (q6i t w);have h2:=z8o t w;rw[List.foldl_cons];unfold k4f at h1⊢;rw[map_cons,sum_cons];omega
theorem k0r:∀s:List UInt8,k4f (q4x s)=s.length+1
 | []=>rfl
 | c::r=>by
  have ih:=k0r r;by_cases hc:c=32
  ·subst hc;rw[q5d];unfold k4f at ih⊢;rw[map_cons,sum_cons,ih];simp;omega
  ·cases hs:q4x r with
   | nil=>exact absurd hs (q8j r)
   | cons w ws=>
    rw[q5e hc hs];rw[hs]at ih;unfold k4f at ih⊢;rw[map_cons,sum_cons]at ih⊢;simp only[length_cons]at ih⊢;omega
theorem v8j(ws:List Wd)(k:Nat):k4f (ws.take k)<=k4f ws:=by
 have h:=congrArg k4f (List.take_append_drop k ws);unfold k4f at h⊢;rw[List.map_append,List.sum_append]at h;omega
theorem v0i(s:List UInt8)(k:Nat):(ntx ((q0d s).take k)).length<=s.length+1:=by
 have A:=k8s ((q0d s).take k) [];have B:=v8j (q0d s) k
 have C:k4f (q0d s)<=s.length+1:=by
  unfold q0d
  split
  ·simp[k4f]
  ·rw[k0r];omega
 unfold ntx;simp only[length_nil]at A;omega
theorem j2h{w:Wd}(h:w.length<=60000):(q1c w).length<=60001:=by
 have A:=v0i (w.drop 1) (q0d (w.drop 1)).length;rw[List.take_length]at A;have B:(w.drop 1).length<=w.length:=by simp
 unfold q1c;omega
def g1o:Job->List Td
 | .loop _ acc=>acc
 | .args _ _ acc=>acc
 | _=>[]
theorem j9c{w:Wd}(h:nmW w=true):(wbS w).size<=8:=by
 rw[<-q0c];exact q3a h
theorem y5d{j:Job}{ts:List Wd}{r:Rs}(h:PR j ts r):(∀x∈g1o j,x.tx.size<=8)->∀m ns u,r=.ok m ns u->∀x∈ns,x.tx.size<=8:=by
 have E:∀{a b:List Td},(∀x∈a,x.tx.size<=8)->(∀x∈b,x.tx.size<=8)->∀x∈a++b,x.tx.size<=8:=fun C hb x D=>by
  rcases List.mem_append.1 D with D|D
  ·exact C x D
  ·exact hb x D
 have B:∀{y:Td}{b:List Td},y.tx.size<=8->(∀x∈b,x.tx.size<=8)->∀x∈y::b,x.tx.size<=8:=fun hy hb x D=>by
  rcases List.mem_cons.1 D with rfl|D
  ·exact hy
  ·exact hb x D
 have A:∀x∈([]:List Td),x.tx.size<=8:=fun x D=>by cases D
 have G:(⟨#[]⟩:ByteArray).size<=8:=by decide
 induction h with
 | lev2 _ ih=>intro _ m ns u e;exact ih A m ns u e
 | levB=>intro _ m ns u e;cases e
 | levO _ _ _ ih1 ih2=>intro _ m ns u e;exact ih2 (ih1 A _ _ _ rfl) m ns u e
 | lopE=>intro C m ns u e;cases e;exact C
 | lopB=>intro _ m ns u e;cases e
 | lopO _ _ ih1 ih2=>intro C m ns u e;exact ih2 (B G (E C (ih1 A _ _ _ rfl))) m ns u e
 | sinN=>intro _ m ns u e;cases e
 | sPB=>intro _ m ns u e;cases e
 | sPC _ ih=>intro _ m ns u e;cases e;exact ih A _ _ _ rfl
 | sPX=>intro _ m ns u e;cases e
 | sLB=>intro _ m ns u e;cases e
 | sLO _ ih=>intro _ m ns u e;cases e;exact B G (ih A _ _ _ rfl)
 | sNum=>intro _ m ns u e;cases e;exact B G A
 | sName h=>intro _ m ns u e;cases e;exact B (j9c h) A
 | sCB=>intro _ m ns u e;cases e
 | sCO h _ ih=>intro _ m ns u e;cases e;exact B (j9c h) (ih A _ _ _ rfl)
 | sBad=>intro _ m ns u e;cases e
 | aEnd=>intro C m ns u e;cases e;exact C
 | aSep=>intro _ m ns u e;cases e
 | aB0=>intro _ m ns u e;cases e
 | aO0 _ _ _ ih1 ih2=>intro C m ns u e;exact ih2 (E C (ih1 A _ _ _ rfl)) m ns u e
 | aB=>intro _ m ns u e;cases e
 | aO _ _ _ ih1 ih2=>intro C m ns u e;exact ih2 (E C (ih1 A _ _ _ rfl)) m ns u e
structure PAt(b:Nat)(A:Option Addr)(c:Nat)(ws:List Wd)(w:World)(q:Nat)(bad:Bool)(acc:List (List Td))(v:Value)(wr:World):Prop where
 le:q<=ws.length
 len:acc.length<=q+1
 ln0:bad=false->acc.length<=q
 last:bad=false->q6n ws q=true->∃init x,acc=init++[[x]]/\x.tx.size<=60002*q
 o:q4f (b+1) v acc wr
 rd:Rd wr b A c ws q bad
 bt:But w b w wr
 ok:bad=false->∀r,PG (q6n ws q) acc (ws.drop q) r->PG false [] ws r
 bd:bad=true->PG false [] ws (.bad (ws.drop q))
 tx:bad=false->∀t∈acc,∀x∈t,x.tx.size<=60002*(q+1)
theorem y5a{b:Nat}{A:Option Addr}{c:Nat}{ws:List Wd}{w:World}(h:Rd w b A c ws 0 false):PAt b A c ws w 0 false [] (.slice none 0 0) w:=
 ⟨zero_le _,by simp,fun _=>by simp,(fun _ h=>by cases h),q4f.nil _ _,h,But.refl _ _ _,fun _ r hr=>hr,(fun h=>by cases h),fun _ t ht=>by cases ht⟩
theorem z1e{ws:List Wd}{q:Nat}(hq:q<ws.length):q6n ws (q+1)=(ws[q].headD 0==35):=by
 show((ws.getD q []).headD 0==35)=_
 rw[List.getD_eq_getElem?_getD,List.getElem?_eq_getElem hq];rfl
theorem y8w{b:Nat}{A:Option Addr}{c:Nat}{ws:List Wd}{w:World}{q:Nat}{D:List (List Td)}{v v':Value}{wr w':World}(hV:PAt b A c ws w q false D v wr)(hq:q<ws.length)(J:ws[q].headD 0=35)(N:ws[q].length<=60000)
  (hO:q4f (b+1) v' (z8n (q6n ws q) D (q1c ws[q])) w') (hR:Rd w' b A c ws (q+1) false) (hB:But w b w w'):PAt b A c ws w (q+1) false (z8n (q6n ws q) D (q1c ws[q])) v' w':=by
 have M:q6n ws (q+1)=true:=by rw[z1e hq,J];rfl
 have O:=hV.ln0 rfl;have L:=j2h N
 have K:(z8n (q6n ws q) D (q1c ws[q])).length<=q+1:=by
  unfold z8n
  split
  ·rename_i H;obtain⟨B,x,rfl,_⟩:=hV.last rfl H;simp at O⊢;omega
  ·simp;omega
 refine⟨by omega,by omega,fun _=>K,fun _ _=>?_,hO,hR,hB,fun _ r hr=>?_,(fun h=>by cases h),fun _=>?_⟩
 ·unfold z8n;cases H:q6n ws q with
  | true=>
   obtain⟨B,x,rfl,I⟩:=hV.last rfl H;refine⟨B,ntT (q6i (q5u (B++[[x]])) (q1c ws[q])),by simp,?_⟩;have e:q5u (B++[[x]])=btL x.tx:=by simp[q5u]
   rw[e];have C:=z8o (btL x.tx) (q1c ws[q]);rw[q0c]at C
   show(wbS _).size<=_
   rw[q1m];omega
  | false=>
   refine⟨D,ntT (q1c ws[q]),by simp,?_⟩
   show(wbS _).size<=_
   rw[q1m];omega
 ·refine hV.ok rfl r ?_;rw[List.drop_eq_getElem_cons hq];rw[M]at hr;exact .note J hr
 ·have G:∀t∈D,∀x∈t,x.tx.size<=60002*(q+1+1):=fun t L x I=>by
   have:=hV.tx rfl t L x I
   omega
  have E:∀y:Wd,y.length<=60002*(q+1+1)->∀t∈[[ntT y]],∀x∈t,x.tx.size<=60002*(q+1+1):=fun y hy t L x I=>by
   rw[List.mem_singleton]at L;subst L;rw[List.mem_singleton]at I;subst I
   show(wbS y).size<=_
   rw[q1m];exact hy
  intro t C;unfold z8n at C;cases H:q6n ws q with
  | true=>
   rw[H,if_pos rfl]at C;rcases List.mem_append.1 C with C|C
   ·exact G t (List.dropLast_subset _ C)
   ·refine E _ ?_ t C;obtain⟨B,x,rfl,I⟩:=hV.last rfl H;have e:q5u (B++[[x]])=btL x.tx:=by simp[q5u]
    rw[e];have C:=z8o (btL x.tx) (q1c ws[q]);rw[q0c]at C;omega
  | false=>
   rw[H]at C;rcases List.mem_append.1 (show t∈D++[[ntT (q1c ws[q])]]from C)with C|C
   ·exact G t C
   ·exact E _ (by omega) t C
theorem y4z{b:Nat}{A:Option Addr}{c:Nat}{ws:List Wd}{w:World}{q q2:Nat}{C B:List (List Td)}{v v':Value}{wr w':World}(hV:PAt b A c ws w q false C v wr)(h1:q<=q2)(h2:q2<=ws.length)(hl:B.length<=C.length+1)
  (hG:PG (q6n ws q) C (ws.drop q) (.bad (ws.drop q2))) (hO:q4f (b+1) v' B w') (hR:Rd w' b A c ws q2 true) (hB:But w b w w'):PAt b A c ws w q2 true B v' w':=by
 have D:=hV.ln0 rfl;exact⟨h2,by omega,(fun h=>by cases h),(fun h=>by cases h),hO,hR,hB,(fun h=>by cases h),(fun _=>hV.ok rfl _ hG),(fun h=>by cases h)⟩
theorem j0q{ws:List Wd}{k:Nat}{s:Wd}(h:ws[k]?=some s):q1q ws k false s=k+1/\q0y ws k false s=false:=by
 unfold q1q q0y;rw[h];simp
theorem v2w{ws:List Wd}{k:Nat}{s:Wd}(h:ws[k]?≠some s):q1q ws k false s=k/\q0y ws k false s=true:=by
 unfold q1q q0y
 have:(ws[k]?==some s)=false:=by simpa using h
 rw[this];simp
theorem y1l{b:Nat}{A:Option Addr}{c:Nat}{ws:List Wd}{w:World}{q q':Nat}{B:List (List Td)}{v v7:Value}{wr w3 w4 w7:World}{x:Td}{r:Rs}{ns:List Td}{v4:Value}(hV:PAt b A c ws w q false B v wr)(Z:q<=q')(hq:q'<=ws.length)(U:x.tx.size<=8)
  (hG:Got b A c ws (.level 0) q' w3 r ns v4 w4)
  (hB:∀u,PR (.level 0) (ws.drop q') (.bad u)->PG (q6n ws q) B (ws.drop q) (.bad u)) (hX:∀m ms u,PR (.level 0) (ws.drop q') (.ok m ms u)->u.head?≠some [59]->PG (q6n ws q) B (ws.drop q) (.bad u))
  (P:∀m ms u r,PR (.level 0) (ws.drop q') (.ok m ms ([59]::u))->PG false (B++[x::ms]) u r->PG (q6n ws q) B (ws.drop q) r)
  (hR:Rd w7 b A c ws (q1q ws (ws.length-r.rest.length) r.isBad [59]) (q0y ws (ws.length-r.rest.length) r.isBad [59])) (hO:q4f (b+1) v7 (B++[x::ns]) w7) (b7:But w b w w7):
  PAt b A c ws w (q1q ws (ws.length-r.rest.length) r.isBad [59]) (q0y ws (ws.length-r.rest.length) r.isBad [59]) (B++[x::ns]) v7 w7/\
  2*(ws.length-q1q ws (ws.length-r.rest.length) r.isBad [59])+(if q0y ws (ws.length-r.rest.length) r.isBad [59]then 0 else 1)<2*(ws.length-q)+1:=by
 have S:=q5o hG.pr;have V:=z5o S.1;have W:=hG.n;rw[q0m hq]at W;have d:=hV.ln0 rfl;have Y:(B++[x::ns]).length=B.length+1:=by simp
 cases r with
 | bad u=>
  simp only[Rs.rest,Rs.isBad,q1q,q0y,Bool.not_true,Bool.false_and,Bool.false_eq_true,if_false,Bool.not_false,if_true]at *;refine⟨y4z hV (by omega) (by omega) (by omega) ?_ hO hR b7,by omega⟩;rw[V];exact hB u hG.pr
 | ok m ms u=>
  have X:=hG.e m ms u rfl;subst X;have R:ms.length+u.length<=ws.length-q':=W;have E:ws.drop (ws.length-u.length)=u:=V;have C:Rd w7 b A c ws (q1q ws (ws.length-u.length) false [59]) (q0y ws (ws.length-u.length) false [59]):=hR;show PAt b A c ws w (q1q ws (ws.length-u.length) false [59]) (q0y ws (ws.length-u.length) false [59]) (B++[x::ms]) v7 w7/\2*(ws.length-q1q ws (ws.length-u.length) false [59])+(if q0y ws (ws.length-u.length) false [59]then 0 else 1)<2*(ws.length-q)+1;have K:ws[ws.length-u.length]?=u.head?:=by rw[<-q5l,E]
  by_cases H:u.head?=some ([59]:Wd)
  ·obtain⟨M,N⟩:=j0q (K.trans H);rw[M,N]at C⊢
   obtain⟨D,rfl⟩:∃D,u=[59]::D:=by
    cases u with
    | nil=>simp at H
    | cons a D=>
     have:a=[59]:=by simpa using H
     exact⟨D,by rw[this]⟩
   simp only[length_cons]at R C E K⊢;have I:ws.length-(D.length+1)<ws.length:=by omega
   have J:q6n ws (ws.length-(D.length+1)+1)=false:=by
    rw[z1e I];have O:ws[ws.length-(D.length+1)]?=some [59]:=by rw[K];rfl
    rw[List.getElem?_eq_getElem I]at O;rw[Option.some.inj O];rfl
   have Q:ws.drop (ws.length-(D.length+1)+1)=D:=by
    rw[<-List.drop_drop,E];rfl
   refine⟨⟨by omega,by omega,fun _=>by omega,(fun _ h=>by rw[J]at h;cases h),hO,C,b7,fun _ r hr=>?_,(fun h=>by cases h),fun _ t G y L=>?_⟩,by simp only[Bool.false_eq_true,if_false];omega⟩
   ·rw[J,Q]at hr;exact hV.ok rfl r (P m ms D r hG.pr hr)
   ·rcases List.mem_append.1 G with G|G
    ·have:=hV.tx rfl t G y L
     omega
    ·rw[List.mem_singleton]at G;subst G
     have O:y.tx.size<=8:=by
      rcases List.mem_cons.1 L with rfl|L
      ·exact U
      ·exact y5d hG.pr (fun x hx=>by cases hx) _ _ _ rfl y L
     omega
  ·obtain⟨M,N⟩:=v2w (show ws[ws.length-u.length]?≠some [59] by rw[K];exact H);rw[M,N]at C⊢;refine⟨y4z hV (by omega) (by omega) (by omega) ?_ hO C b7,by simp only[if_true];omega⟩;rw[E];exact hX m ms u hG.pr H
end Go.Proofs.YtchdplceopegoaaGreatDoor
