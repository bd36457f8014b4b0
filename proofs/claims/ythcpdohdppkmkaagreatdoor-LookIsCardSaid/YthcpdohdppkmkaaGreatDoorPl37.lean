import Derived.Test.YthcpdohdppkmkaaGreatDoorPl05
import Derived.Test.YthcpdohdppkmkaaGreatDoorPl18
import Derived.Lib.Bytealg
import Derived.Lib.IndexBytes
open Go.Proofs.Tryz
namespace Go.Proofs.YthcpdohdppkmkaaGreatDoor
open Go Go.RowKit
def ntL(wd:Nat)(tx:ByteArray):List UInt8:=if q0f (btL tx)=[]then [35,10]else(j5z ((q0f (btL tx)).map wbS) (z3s (wd-2) ((q0f (btL tx)).map wbS))).flatMap fun l=>35::32::(btL l++[10])
def dcL(wd:Nat)(t:List Td):List UInt8:=(q0s t).txt (bs wd 0 [(0,q0s t)]).2++[10]
def k4t(t:List Td)(wd:Int):Int:=if wd<10\/100<wd then 1 else if q0c t≠0 then q0c t else if opT t=9 then 0 else if 400<(q0s t).N.length then 3 else 0
def z4l(wd:Nat)(t:List Td):List UInt8:=match t with
 | []=>[]
 | x::_=>if x.op=9 then ntL wd x.tx else dcL wd t
theorem v5c{t:List Td}(wd:Nat):∃u∈(q0s t).ways,dcL wd t=(q0s t).txt u++[10]/\(q0s t).show u=.ok ((q0s t).txt u)/\∀v∈(q0s t).ways,¬q2w ((q0s t).cst wd v) ((q0s t).cst wd u):=by
 have E:(q0s t).best wd=some (bs wd 0 [(0,q0s t)]):=by rw[q9t,q3l]
 obtain⟨A,B,C,D⟩:=q6b E;exact⟨_,A,rfl,B,fun v hv=>by rw[<-C];exact(D v hv).1⟩
theorem k1x{t:List Td}(h:q0c t=0)(h9:opT t=9):∃x,t=[x]/\x.op=9/\q2x x.tx=0/\y3y t=y9t x.tx:=by
 rcases z9i h with⟨x,rfl,A,H,E⟩|⟨x,F,rfl,_,_,_,B⟩
 ·have G:(Fo.nil).len=kdT x:=by simp[kdT,A,Fo.len]
  have C:y3y [x]=stX x []:=(y6k (x:=x) (F:=.nil) trivial G).1;exact⟨x,rfl,A,E,by rw[C,y9t];simp[stX,A]⟩
 ·have D:x.op=9:=h9;rcases B with⟨B,_⟩|⟨B,_⟩<;>omega
def q7t(wd:Nat)(ps:List (List Td)):List UInt8:=ps.flatMap (z4l wd)
theorem j5g{t:List Td}(h:q8z t=0):q0c t=0/\opT t≠9/\q8l t=(q0s t).N/\(q0s t).N.length<=400:=by
 have A:=h;unfold q8z at h
 split at h
 ·rename_i h0;exact absurd h h0
 ·rename_i h0
  split at h
  ·cases h
  ·rename_i h9
   split at h
   ·cases h
   ·rename_i hm;exact⟨by simpa using h0,h9,by rw[q8l,if_pos A],by omega⟩
theorem v4d{t:List Td}(h:q8z t=0)(ws:List Int):q5v (q8l t) ws=(q0s t).show ws:=by
 obtain⟨B,C,A,D⟩:=j5g h;exact z2d (z5z B C).w A (by rw[A];exact D)
theorem z1c(l:List UInt8):(wbS l).size=l.length:=by rw[<-q0b];rfl
def pgE(t:List Td):Int:=if opT t=9 then 0 else if 400<(q0s t).N.length then 3 else 0
theorem j8l{t:List Td}{wd:Int}(hw:¬(wd<10\/100<wd))(h:q0c t=0):k4t t wd=pgE t:=by
 rw[k4t,if_neg hw,if_neg (by simp[h])];rfl
theorem z9b{t:List Td}(h9:opT t=9):pgE t=0:=by rw[pgE,if_pos h9]
theorem k4z{t:List Td}(h:q0c t=0)(h9:opT t≠9):pgE t=q8z t:=by
 have e:q8z t=if opT t=9 then 2 else if 400<(q0s t).N.length then 3 else 0:=by rw[q8z,if_neg (by simp[h])]
 rw[e,if_neg h9,pgE,if_neg h9]
def v1s(t:List Td)(wd:Int):ByteArray:=if k4t t wd=0 then wbS (z4l wd.toNat t)else⟨#[]⟩
def fmE:List (List Td)->Int
 | []=>0
 | t::r=>if pgE t≠0 then pgE t else fmE r
theorem z8i{t:List Td}{r:List (List Td)}(h:pgE t=0):fmE (t::r)=fmE r:=by rw[fmE,if_neg (by simp[h])]
theorem k3q{t:List Td}{r:List (List Td)}(h:pgE t≠0):fmE (t::r)=pgE t:=by rw[fmE,if_pos h]
inductive k5r (s:ByteArray) (wd:Int):ByteArray->Int->Int->Prop where
 | range (h:wd<10\/100<wd):k5r s wd ⟨#[]⟩ 0 1
 | bad {ps k f} (h:¬(wd<10\/100<wd)) (hp:q4l s ps k f) (hf:f≠0):k5r s wd ⟨#[]⟩ k f
 | full {ps} (h:¬(wd<10\/100<wd)) (hp:q4l s ps 0 0) (hf:fmE ps≠0):k5r s wd ⟨#[]⟩ 0 (fmE ps)
 | ok {ps} (h:¬(wd<10\/100<wd)) (hp:q4l s ps 0 0) (hf:fmE ps=0):k5r s wd (wbS (q7t wd.toNat ps)) 0 0
theorem v3s{s t:ByteArray}{wd:Int}{ps:List (List Td)}(hs:q4l s ps 0 0)(ht:q4l t ps 0 0){a b:ByteArray}{k k' f f':Int}(ha:k5r s wd a k f)(hb:k5r t wd b k' f'):a=b/\k=k'/\f=f':=by
 cases ha with
 | range h=>cases hb with
  | range=>exact⟨rfl,rfl,rfl⟩
  | bad h'=>exact absurd h h'
  | full h'=>exact absurd h h'
  | ok h'=>exact absurd h h'
 | bad h hp hf=>exact absurd (q1e hp hs).2.2 hf
 | full h hp hf=>cases hb with
  | range h'=>exact absurd h' h
  | bad h' hp' hf'=>exact absurd (q1e hp' ht).2.2 hf'
  | full h' hp' hf'=>
   obtain⟨rfl,_⟩:=q1e hp hs;obtain⟨rfl,_⟩:=q1e hp' ht;exact⟨rfl,rfl,rfl⟩
  | ok h' hp' hf'=>
   obtain⟨rfl,_⟩:=q1e hp hs;obtain⟨rfl,_⟩:=q1e hp' ht;exact absurd hf' hf
 | ok h hp hf=>cases hb with
  | range h'=>exact absurd h' h
  | bad h' hp' hf'=>exact absurd (q1e hp' ht).2.2 hf'
  | full h' hp' hf'=>
   obtain⟨rfl,_⟩:=q1e hp hs;obtain⟨rfl,_⟩:=q1e hp' ht;exact absurd hf hf'
  | ok h' hp' hf'=>
   obtain⟨rfl,_⟩:=q1e hp hs;obtain⟨rfl,_⟩:=q1e hp' ht;exact⟨rfl,rfl,rfl⟩
theorem z2z{s:ByteArray}{wd:Int}{a b:ByteArray}{k k' f f':Int}(ha:k5r s wd a k f)(hb:k5r s wd b k' f'):a=b/\k=k'/\f=f':=by
 have A:∀{ps:List (List Td)},q4l s ps 0 0->a=b/\k=k'/\f=f':=fun hp=>v3s hp hp ha hb
 cases ha with
 | range h=>cases hb with
  | range=>exact⟨rfl,rfl,rfl⟩
  | bad h'=>exact absurd h h'
  | full h' hp' _=>exact A hp'
  | ok h' hp' _=>exact A hp'
 | bad h hp hf=>cases hb with
  | range h'=>exact absurd h' h
  | bad h' hp' hf'=>
   obtain⟨_,rfl,rfl⟩:=q1e hp hp';exact⟨rfl,rfl,rfl⟩
  | full h' hp' _=>exact A hp'
  | ok h' hp' _=>exact A hp'
 | full h hp hf=>exact A hp
 | ok h hp hf=>exact A hp
theorem z0i{s:ByteArray}{ps:List (List Td)}{k:Int}(h:q4l s ps k 0):k=0/\(q0r ps).2=0/\ps.length<=20/\∀t∈ps,q0c t=0:=by
 generalize A:(0:Int)=z at h;cases h with
 | lex h1=>exact absurd A.symm h1
 | bad=>cases A
 | full _ _ h1=>exact absurd A.symm h1
 | ok h1 h2 h3=>exact⟨rfl,h3,(z9c h3).1,z8x _ _ (z9c h3).2⟩
theorem z8f(wd:Nat):∀(n:Nat)(ws:List ByteArray),ws.length<=n->Few ws->∀l∈q1t wd ws,l.size<=1260
 | 0,ws,h,hF,l,hl=>by
  have:ws=[]:=List.eq_nil_of_length_eq_zero (by omega)
  subst this;rw[q4g]at hl;cases hl
 | n+1,ws,h,hF,l,hl=>by
  by_cases h0:ws=[]
  ·subst h0;rw[q4g]at hl;cases hl
  ·have hp:=z1i wd h0;rw[q3v wd h0]at hl;rcases List.mem_cons.1 hl with rfl|hl
   ·rw[z3a];exact(hF.take _).ln
   ·exact z8f wd n (ws.drop (agF wd ws)) (by simp only[List.length_drop];omega) (hF.drop _) l hl
abbrev ntF(l:ByteArray):List UInt8:=35::32::(btL l++[10])
theorem k3r{f:ByteArray->List UInt8}{b:Nat}:∀(ls:List ByteArray),(∀l∈ls,(f l).length<=b)->(ls.flatMap f).length<=ls.length*b
 | [],_=>by simp
 | l::r,h=>by
  have h1:=k3r r fun x hx=>h x (by simp[hx])
  have h2:=h l (by simp);rw[List.flatMap_cons,List.length_append,List.length_cons,Nat.add_mul];omega
theorem z8u{tx:ByteArray}(h:q2x tx=0):Few ((q0f (btL tx)).map wbS):=v8a h
theorem j8d{tx:ByteArray}(h:q2x tx=0)(wd:Nat):(ntL wd tx).length<=100000:=by
 have A:=z8u h;rw[ntL]
 split
 ·simp
 ·have B:=q7q (wd-2) _ ((q0f (btL tx)).map wbS) Zl
  have C:=k3r (f:=ntF) (b:=1300) (q1t (wd-2) ((q0f (btL tx)).map wbS)) fun l hl=>by
   have:=z8f (wd-2) _ _ Zl A l hl
   simp only[ntF,List.length_cons,List.length_append,List.length_nil,q0b];omega
  have D:=A.1
  show((q1t (wd-2) ((q0f (btL tx)).map wbS)).flatMap ntF).length<=100000
  have E:(q1t (wd-2) ((q0f (btL tx)).map wbS)).length*1300<=60*1300:=Nat.mul_le_mul_right _ (by omega);omega
theorem j5f{t:List Td}(h:q8z t=0){ws:List Int}{r:List UInt8}(hs:(q0s t).show ws=.ok r):r.length<=2000000:=by
 obtain⟨C,D,H,I⟩:=j5g h;unfold Tr.show at hs
 split at hs
 ·cases B:(q0s t).lay 0 ws with
  | error e=>rw[B]at hs;cases hs
  | ok p=>
   obtain⟨E,A⟩:=p;rw[B]at hs;have G:=q5s _ 0 ws E A (z5z C D).w B (by omega);cases A with
   | nil=>
    cases hs;omega
   | cons a b=>cases hs
 ·cases hs
theorem y0r{t:List Td}(h:q8z t=0)(wd:Nat):(dcL wd t).length<=2000001:=by
 obtain⟨u,_,e,A,_⟩:=v5c (t:=t) wd
 have:=j5f h A
 rw[e,List.length_append];simp only[List.length_cons,List.length_nil];omega
theorem z4m{t:List Td}(h:q0c t=0)(h9:opT t=9)(wd:Nat):z4l wd t=ntL wd (txT t):=by
 obtain⟨x,rfl,A,_⟩:=k1x h h9;rw[z4l,if_pos A];rfl
theorem z8y{t:List Td}(h:q0c t=0)(h9:opT t≠9)(wd:Nat):z4l wd t=dcL wd t:=by
 cases t with
 | nil=>exact absurd h (by decide)
 | cons x r=>exact if_neg (show ¬x.op=9 from h9)
theorem k4v{t:List Td}(h:q0c t=0)(hp:pgE t=0)(wd:Nat):(z4l wd t).length<=2000001:=by
 by_cases A:opT t=9
 ·rw[z4m h A];obtain⟨x,rfl,_,B,_⟩:=k1x h A
  have:=j8d B wd
  show(ntL wd x.tx).length<=2000001
  omega
 ·rw[z8y h A];exact y0r (by rw[<-k4z h A];exact hp) wd
theorem j4n(wd:Nat):∀ps:List (List Td),(∀t∈ps,q0c t=0)->fmE ps=0->(q7t wd ps).length<=ps.length*2000001
 | [],_,_=>by simp[q7t]
 | t::r,h,hf=>by
  have hp:pgE t=0:=by
   rcases Classical.em (pgE t=0)with e|e
   ·exact e
   ·rw[k3q e]at hf;exact hf
  rw[z8i hp]at hf;have A:=j4n wd r (fun x hx=>h x (by simp[hx])) hf;have B:=k4v (h t (by simp)) hp wd;have e:q7t wd (t::r)=z4l wd t++q7t wd r:=by simp[q7t]
  rw[e,List.length_append,List.length_cons,Nat.add_mul];omega
set_option maxRecDepth 100000
set_option maxHeartbeats 4000000
structure z9t(wd:Nat)(ws:List ByteArray)(bL k:Nat)(w:World):Prop where
 rl:z9u w bL (ws.length+1)
 cl:∀j,k<=j->j<=ws.length->w.cell? ⟨bL,j,none⟩=some (.int .i64 ((best wd (ws.drop j):Nat):Int))
theorem z9t.kept{wd:Nat}{ws:List ByteArray}{bL k:Nat}{w w':World}(h:z9t wd ws bL k w)(h1:w'.heap[bL]?=w.heap[bL]?):z9t wd ws bL k w' where
 rl:=h.rl.kept h1
 cl:=fun j a b=>(World.cell?_of_block (w:=w) (a:=⟨bL,j,none⟩) h1).trans (h.cl j a b)
theorem z9t.made(wd:Nat)(ws:List ByteArray)(w:World):z9t wd ws w.heap.size ws.length (w.alloc (.cells (madeCells #[.int .i64 0] (ws.length+1)) 3)):=by
 have A:(w.alloc (.cells (madeCells #[.int .i64 0] (ws.length+1)) 3)).heap[w.heap.size]?=some (.cells (madeCells #[.int .i64 0] (ws.length+1)) 3 (0,0)):=heap_alloc_new w _;refine⟨⟨_,_,A,size_madeCells _ _⟩,fun j a b=>?_⟩;obtain rfl:j=ws.length:=by omega
 have:best wd (ws.drop ws.length)=0:=by rw[List.drop_length];rfl
 rw[this];simp only[World.cell?,A];exact k1q _ (by omega)
def v1r(g:Nat->Nat)(m:Nat):Int:=if m=0 then -1 else(q9b g m:Int)
structure k2v(wd:Nat)(ws:List ByteArray)(bL i m:Nat)(w:World):Prop where
 l:z9t wd ws bL (i+1) w
 c:w.cell? ⟨bL,i,none⟩=some (.int .i64 (v1r (fOf wd (ws.drop i)) m))
theorem k2v.set{wd:Nat}{ws:List ByteArray}{bL i m:Nat}{w:World}{z:Int}(h:z9t wd ws bL (i+1) w)(hi:i<ws.length)(hz:z=v1r (fOf wd (ws.drop i)) m):k2v wd ws bL i m (w.setCell ⟨bL,i,none⟩ (.int .i64 z)):=by
 obtain⟨B,A⟩:=h.rl.cell (i:=i) (by omega);refine⟨⟨h.rl.set,fun j a b=>(cso (.inr (by omega))).trans (h.cl j a b)⟩,?_⟩;rw[hz];exact css A
theorem k2v.kept{wd:Nat}{ws:List ByteArray}{bL i m:Nat}{w w':World}(h:k2v wd ws bL i m w)(h1:w'.heap[bL]?=w.heap[bL]?):k2v wd ws bL i m w' where
 l:=h.l.kept h1
 c:=(World.cell?_of_block (w:=w) (a:=⟨bL,i,none⟩) h1).trans h.c
theorem k2v.done{wd:Nat}{ws:List ByteArray}{bL i m:Nat}{w:World}(h:k2v wd ws bL i m w)(hi:i<ws.length)(hm:m=ws.length-i):z9t wd ws bL i w:=by
 have A:ws.drop i≠[]:=fun e=>by
  have:=congrArg List.length e
  rw[List.length_drop,List.length_nil]at this;omega
 have B:=h.c;refine⟨h.l.rl,fun j a b=>?_⟩;by_cases e:j=i
 ·subst e;rw[z3m wd A,List.length_drop,<-hm];rw[v1r,if_neg (by omega)]at B;exact B
 ·exact h.l.cl j (by omega) b
theorem k7f{g:Nat->Nat}{q:Nat}(hq:1<=q)(h:q=1\/g q<q9b g (q-1)):((g q:Nat):Int)=v1r g (q+1-1):=by
 obtain⟨m,rfl⟩:∃m,q=m+1:=⟨q-1,by omega⟩;simp only[Nat.add_sub_cancel]at h⊢;rw[v1r,if_neg (by omega),j6t,if_pos (by omega)]
theorem j6r{g:Nat->Nat}{q:Nat}(hq:1<=q)(h1:¬q=1)(h:¬g q<q9b g (q-1)):v1r g (q-1)=v1r g (q+1-1):=by
 obtain⟨m,rfl⟩:∃m,q=m+1:=⟨q-1,by omega⟩;simp only[Nat.add_sub_cancel]at h h1⊢;rw[v1r,if_neg (by omega),v1r,if_neg (by omega),j6t,if_neg (by omega)]
theorem y6b{ws:List ByteArray}{b0 o0 wd:Nat}{w wr:World}(hW:Wds w (some ⟨b0,o0,none⟩) ws)(hF:Few ws)(hw:wd<=100)(hb:Below w w wr)(i q c n:Nat)(h1:1<=q)(h2:i+q<=ws.length):
  Calls prog 123 #[.slice (some ⟨b0,o0+i,none⟩) q c,.int .i64 wd,.bool ((i:Int)+(q:Int)==(ws.length:Int))] (wr.drewN n) fun e w'=>e=.returned (.int .i64 (bd (ln ((ws.drop i).take q)) wd (q==ws.length-i)))/\w'=wr.drewN n:=by
 rw[y5b h2];exact(y2q q _ (k7g h1 h2).1 _ c wd _ _ ((hF.drop i).take q) hw (Wds.W ((z2r.drop hW i).take q) (q0d hb n))).mono fun _ _ h=>⟨h.1,h.2.symm⟩
theorem y6c{ws:List ByteArray}{b0 o0:Nat}{w wr:World}(hW:Wds w (some ⟨b0,o0,none⟩) ws)(hF:Few ws)(hb:Below w w wr)(i q c:Nat)(h1:1<=q)(h2:i+q<=ws.length):
  Calls prog 124 #[.slice (some ⟨b0,o0+i,none⟩) q c] wr fun e w'=>e=.returned (.string (jnS ((ws.drop i).take q)))/\wr=w':=by
 have:=q7a ((ws.drop i).take q) (some ⟨b0,o0+i,none⟩) c wr ((hF.drop i).take q) (Wds.W ((z2r.drop hW i).take q) hb)
 rw[(k7g h1 h2).1]at this;exact this
structure y4a(wd:Nat)(ws:List ByteArray)(w w1:World)(k:Nat)(done:List ByteArray)(L:Option Addr)(lc:Nat)(wx:World):Prop where
 b:Below (w.heap.size+1) w1 wx
 le:k<=ws.length
 dl:done.length<=k
 ro:q1x (w.heap.size+1) (.slice L done.length lc) done wx
 li:q1t wd ws=done++q1t wd (ws.drop k)
theorem k9f(ws:List ByteArray)(a:Option Addr)(cap wd:Nat)(w:World)(hc:ws.length<=cap)(hF:Few ws)(hw:wd<=100)(hW:Wds w a ws):
  Calls prog 78 #[.slice a ws.length cap,.int .i64 wd] w fun e w'=>(∃L c,e=.returned (.slice L (q1t wd ws).length c)/\q1x w (.slice L (q1t wd ws).length c) (q1t wd ws) w')/\Below w w w':=by
 have hl:=hF.1;have HW:Hid (Wds w a ws):=hW;have y:Hid (Few ws):=hF
 have Bd:∀W:World,(Instr.makeSlice 43 (.int .i64 ((ws.length:Int)+1)) (.int .i64 ((ws.length:Int)+1))).run prog W=.ok (.slice (some ⟨W,0,none⟩) (ws.length+1) (ws.length+1)) (W.alloc (.cells (madeCells #[.int .i64 0] (ws.length+1)) 3)):=fun W=>by
  have:=run_make_row' 43 3 _ 8 Tryz.underlying43 z2l rfl .i64 .i64 (ws.length+1) (by omega) (by omega) W
  have e:((ws.length+1:Nat):Int)=(ws.length:Int)+1:=by omega
  rw[e]at this;exact this
 have HM:Hid (z9t wd ws w.heap.size ws.length (w.alloc (.cells (madeCells #[.int .i64 0] (ws.length+1)) 3))):=z9t.made wd ws w;clear hW hF;go_in;go_wp2
 go_loopw [7] (fun i wr=>Below w w wr/\∃k:Nat,k<=ws.length/\i=.int .i64 ((k:Int)-1)/\z9t wd ws w.heap.size k wr) (fun i _=>(intOf i+1).toNat)
 case atStart=>exact⟨(Below.refl _ w).alloc Zl _,ws.length,Nat.le_refl _,by go_num,HM.o⟩
 case round=>
  obtain⟨hb,k,hk,rfl,hL⟩:=hrel;have HB:Hid (Below w w wr):=hb;have d:Hid (z9t wd ws w.heap.size k wr):=hL;clear hb hL;by_cases Aj:k=0
  ·subst Aj;have A9:¬((0:Int)<=((0:Nat):Int)-1):=by omega
   have Ao:w.heap.size+1<=wr.heap.size:=d.o.rl.lt;generalize wr=w1 at HB d Ao;go_wp2
   go_loopw [10,11] (fun l i wx=>∃(k:Nat)(A:List ByteArray)(L:Option Addr)(x:Nat),i=.int .i64 (k:Int)/\l=.slice L A.length x/\y4a wd ws w w1 k A L x wx) (fun _ i _=>ws.length-(intOf i).toNat)
   case atStart=>exact⟨0,[],none,0,rfl,rfl,{b:=Below.refl _ _,le:=Nat.zero_le _,dl:=Nat.le_refl _,ro:=World.ownsRow_nil _ _ _ _,li:=rfl}⟩
   case round=>
    obtain⟨k,A,L,x,rfl,rfl,hO⟩:=hrel;have D:Hid (y4a wd ws w w1 k A L x wr):=hO;have Bb:=hO.le;have Bc:=hO.dl;have R:=hO.b;have Aq:Hid (z9t wd ws w.heap.size 0 wr):=d.o.kept (R.block _ (by omega));have Aa:Hid (Below w w wr):=HB.o.trans (R.mono (by omega));have Be:=R.size;clear R hO;by_cases r:k<ws.length
    ·have U:(k:Int)<(ws.length:Int):=by omega
     obtain⟨z,o0,ea,Av⟩:=HW.o.some (show 0<ws.length by omega);subst ea
     have N:ws.drop k≠[]:=fun e=>by
      have:=congrArg List.length e
      rw[List.length_drop,List.length_nil]at this;omega
     obtain⟨Aw,o⟩:=z1i wd N;rw[List.length_drop]at o;have g:=j2a (fOf wd (ws.drop k)) (ws.drop k).length (by rw[List.length_drop];omega);rw[<-z3m wd N]at g;have Y:Hid (fOf wd (ws.drop k) (agF wd (ws.drop k))=best wd (ws.drop k)):=g
     have E:Hid (∀q,agF wd (ws.drop k)<q->q<=ws.length-k->fOf wd (ws.drop k) q≠best wd (ws.drop k)):=fun q h1 h2=>by
      rw[z3m wd N];exact k0e _ _ q h1 (by rw[List.length_drop];exact h2) (by omega)
     have Z:Hid (q1t wd ws=(A++[jnS ((ws.drop k).take (agF wd (ws.drop k)))])++q1t wd (ws.drop (k+agF wd (ws.drop k)))):=by
      show q1t wd ws=_;rw[D.o.li,q3v wd N,List.drop_drop,List.append_assoc];rfl
     have A2:best wd (ws.drop k)<=1300000:=j2l hw _ _ Zl (y.o.drop k);have Af:Hid (∀W:World,z9t wd ws w.heap.size 0 W->W.cell? ⟨w,k,none⟩=some (.int .i64 ((best wd (ws.drop k):Nat):Int))):=fun W h=>h.cl k (Nat.zero_le _) (by omega)
     generalize Au:agF wd (ws.drop k)=av at Y E Z Aw o;generalize best wd (ws.drop k)=tv at Y E Af A2;clear N g Au;go_wp2
     go_loopw [12] (fun v wy=>∃m q:Nat,wy=wr.drewN m/\av<=q/\q<=ws.length-k/\v=.int .i64 (q:Int)) (fun v _=>(intOf v).toNat)
     case atStart=>exact⟨0,ws.length-k,rfl,o,Nat.le_refl _,by congr 1;omega⟩
     case round=>
      rename_i wo _;obtain⟨m,q,Q,P,Am,rfl⟩:=hrel;have At:=(show Hid (wr=_)from Q)
      have f:Hid (z9t wd ws w.heap.size 0 wr):=by
       show z9t _ _ _ _ _;rw[Q];exact Aq.o.kept rfl
      have C:Hid (Below w w wr):=by
       show Below _ _ _;rw[Q];exact q0d Aa.o m
      have A1:w.heap.size+1<=wr.heap.size:=f.o.rl.lt
      have Ae:Hid (y4a wd ws w w1 k A L x wr):=by
       show y4a _ _ _ _ _ _ _ _ _;rw[Q];exact⟨q0d D.o.b m,D.o.le,D.o.dl,D.o.ro,D.o.li⟩
      clear Q;have c1:=Af.o wr f.o;have V:k+q<=ws.length:=by omega
      have A6:(k:Int)+(q:Int)<=(ws.length:Int):=by omega
      have A0:=j9o z o0 ws.length cap k q (by omega) (by omega);have H:wr.cell? ⟨w,k+q,none⟩=some (.int .i64 ((best wd (ws.drop (k+q)):Nat):Int)):=f.o.cl (k+q) (by omega) V
      have B:Hid (∀n,Calls prog 123 #[.slice (some ⟨z,o0+k,none⟩) q (cap-k),.int .i64 wd,.bool ((k:Int)+(q:Int)==(ws.length:Int))] (wr.drewN n) fun e w'=>e=.returned (.int .i64 (bd (ln ((ws.drop k).take q)) wd (q==ws.length-k)))/\w'=wr.drewN n):=fun n=>
       y6b HW.o y.o hw C.o k q (cap-k) n (by omega) V
      have HJ:Hid (∀n,Calls prog 124 #[.slice (some ⟨z,o0+k,none⟩) q (cap-k)] (wr.drewN n) fun e w'=>e=.returned (.string (jnS ((ws.drop k).take q)))/\wr.drewN n=w'):=fun n=>
       y6c HW.o y.o (q0d C.o n) k q (cap-k) (by omega) V
      have K:Hid (fOf wd (ws.drop k) q=bd (ln ((ws.drop k).take q)) wd (q==ws.length-k)+best wd (ws.drop (k+q))):=j3u wd ws k q;have I:=j3v hw (y.o.drop k) q;rw[K.o]at I;generalize bd (ln ((ws.drop k).take q)) wd (q==ws.length-k)=bv at B K I;generalize best wd (ws.drop (k+q))=sv at H K I;by_cases S:bv+sv=tv
      ·have An:q=av:=by
        rcases Nat.lt_or_ge av q with h|h
        ·exact absurd (K.o.trans S) (E.o q h Am)
        ·omega
       subst An;have Az:((bv:Int)+(sv:Int) != (tv:Int))=false:=by simp;omega
       generalize jnS ((ws.drop k).take q)=s at HJ Z;clear S;go_wp2_with fail
       go_quiet ((go_at_call 123;exact Calls.quiet_of_same (B.o _)))
       go_wp2_with fail;refine(HJ.o nq).mono ?_;rintro e w2⟨rfl,rfl⟩;have Ad:Hid (q1x (w.heap.size+1) (.slice L A.length x) A (wr.drewN nq)):=Ae.o.ro;have Ap:Hid (Below (w.heap.size+1) w1 (wr.drewN nq)):=q0d Ae.o.b nq;obtain⟨i0,Ax,A3,A4,A5⟩:=info_parts q9d;go_wp2_with(at_builtin;refine wpList_append_lies _ rfl _ _ 42 rfl (w.heap.size+1) 9 i0 _ 1 16 Tryz.underlying42 Ax A3 A4 A5 rfl (by decide) _ _ _ rfl (World.ownsRow.alloc (w:=wr.drewN nq) Ad.o _) ⟨wr,0,none⟩ 1 1 [.string s] rfl rfl (cell_one_new (wr.drewN nq) _ _) (by intro u hu;simp at hu;subst hu;rfl) (by decide) (by unfold maxLen;omega) (by omega) (by simp;omega) (wr.heap.size+1) (by simp) ?_);intro g2 M w3 O J Ah Al;have Ai:=(Ap.o.alloc (show w.heap.size+1<=(wr.drewN nq).heap.size from A1) (.cells #[.string s] 9)).grown J (by simp;omega) (fun j hj=>(World.ownsRow.lt Ad.o j hj).1)
       have Ag:q1x (w.heap.size+1) (.slice (some ⟨g2,0,none⟩) (A++[s]).length M) (A++[s]) w3:=by
        show w3.ownsRow _ _ _ _ _ _;rw[q2f,List.length_append];exact O
       have As:Hid (y4a wd ws w w1 (k+q) (A++[s]) (some ⟨g2,0,none⟩) M w3):=⟨Ai,V,by simp;omega,Ag,Z.o⟩;clear O J Ai Ag Ah Al;go_wp2
       go_roundw
       case rel=>exact⟨k+q,A++[s],some ⟨g2,0,none⟩,M,by go_num,by rw[List.length_append];rfl,As.o⟩
       case measure=>simp[intOf];omega
      ·have An:av<q:=by
        rcases Nat.lt_or_ge av q with h|h
        ·exact h
        ·obtain rfl:q=av:=by omega
         exact absurd (K.o.symm.trans Y.o) S
       have Az:((bv:Int)+(sv:Int) != (tv:Int))=true:=by simp;omega
       clear S;go_wp2_with fail
       go_quiet ((go_at_call 123;exact Calls.quiet_of_same (B.o _)))
       go_wp2
       go_roundw
       case rel=>exact⟨m+nq,q-1,by rw[At.o,World.drewN_drewN],by omega,by omega,by congr 1;omega⟩
       case measure=>simp[intOf];omega
    ·have U:¬(k:Int)<(ws.length:Int):=by omega
     have HE:Hid (q1t wd ws=A):=by
      show q1t wd ws=A;rw[D.o.li,List.drop_eq_nil_of_le (by omega),q4g,List.append_nil]
     go_wp2;go_ret;rw[HE.o];exact⟨⟨L,x,rfl,Joins.ownsRow_le D.o.ro (by omega)⟩,Aa.o⟩
  ·obtain⟨i,rfl⟩:∃i,k=i+1:=⟨k-1,by omega⟩;have U:(((i+1:Nat):Int)-1)=(i:Int):=by omega
   rw[U];have hi:i<ws.length:=by omega
   obtain⟨y1,e1⟩:=d.o.rl.cell (show i<ws.length+1 by omega);have f1:wr.frozen? ⟨w,i,none⟩=false:=d.o.rl.frozen;have Bf:w.heap.size<wr.heap.size:=d.o.rl.lt;have Ar:Hid (k2v wd ws w.heap.size i 0 (wr.setCell ⟨w,i,none⟩ (.int .i64 (-1)))):=k2v.set d.o hi rfl;clear U Aj;go_wp2
   go_loopw [8] (fun n wx=>Below w w wx/\∃q:Nat,1<=q/\i+q<=ws.length+1/\n=.int .i64 (q:Int)/\k2v wd ws w.heap.size i (q-1) wx) (fun n _=>(ws.length+1-(intOf n).toNat))
   case atStart=>exact⟨HB.o.setCell (p:=⟨w,i,none⟩) Zl _,1,by omega,by omega,by go_num,Ar.o⟩
   case round=>
    obtain⟨hb,q,P,Am,rfl,hM⟩:=hrel;have C:Hid (Below w w wr):=hb;have G:Hid (k2v wd ws w.heap.size i (q-1) wr):=hM;clear hb hM;by_cases r:i+q<=ws.length
    ·obtain⟨z,o0,ea,Av⟩:=HW.o.some (show 0<ws.length by omega);subst ea;have A7:(i:Int)+(q:Int)<=(ws.length:Int):=by omega
     have A8:(q:Int)<=(ws.length:Int)-(i:Int):=by omega
     have A0:=j9o z o0 ws.length cap i q (by omega) (by omega);have H:wr.cell? ⟨w,i+q,none⟩=some (.int .i64 ((best wd (ws.drop (i+q)):Nat):Int)):=G.o.l.cl (i+q) (by omega) r
     have B:Hid (∀n,Calls prog 123 #[.slice (some ⟨z,o0+i,none⟩) q (cap-i),.int .i64 wd,.bool ((i:Int)+(q:Int)==(ws.length:Int))] (wr.drewN n) fun e w'=>e=.returned (.int .i64 (bd (ln ((ws.drop i).take q)) wd (q==ws.length-i)))/\w'=wr.drewN n):=fun n=>
      y6b HW.o y.o hw C.o i q (cap-i) n P r
     have D:Hid (fOf wd (ws.drop i) q=bd (ln ((ws.drop i).take q)) wd (q==ws.length-i)+best wd (ws.drop (i+q))):=j3u wd ws i q;have I:=j3v hw (y.o.drop i) q;rw[D.o]at I;generalize bd (ln ((ws.drop i).take q)) wd (q==ws.length-i)=bv at B D I;generalize best wd (ws.drop (i+q))=sv at H D I;have f2:wr.frozen? ⟨w,i,none⟩=false:=G.o.l.rl.frozen;have Ao:w.heap.size<wr.heap.size:=G.o.l.rl.lt;have e2:=G.o.c;have Ab:Hid (z9t wd ws w.heap.size (i+1) wr):=G.o.l;by_cases hq:q=1
     ·have HP:Hid (∀nq,k2v wd ws w.heap.size i (q+1-1) ((wr.drewN nq).setCell ⟨w,i,none⟩ (.int .i64 ((bv:Int)+(sv:Int))))):=fun nq=>
       k2v.set (w:=wr.drewN nq) (Ab.o.kept rfl) hi (by rw[<-k7f P (.inl hq),D.o];omega)
      have e3:wr.cell? ⟨w,i,none⟩=some (.int .i64 (-1)):=by rw[e2,hq];rfl
      clear hq e2;go_wp2_with fail
      go_quiet ((go_at_call 123;exact Calls.quiet_of_same (B.o _)))
      go_wp2
      go_roundw
      case rel=>exact⟨(q0d C.o nq).setCell (p:=⟨w,i,none⟩) Zl _,q+1,by omega,by omega,by go_num,HP.o nq⟩
      case measure=>simp[intOf];omega
     ·generalize t:q9b (fOf wd (ws.drop i)) (q-1)=mv;have Ac:Hid (q9b (fOf wd (ws.drop i)) (q-1)=mv):=t;have e3:wr.cell? ⟨w,i,none⟩=some (.int .i64 (mv:Int)):=by rw[e2,v1r,if_neg (by omega),t]
      clear t e2;by_cases X:bv+sv<mv
      ·have HP:Hid (∀nq,k2v wd ws w.heap.size i (q+1-1) ((wr.drewN nq).setCell ⟨w,i,none⟩ (.int .i64 ((bv:Int)+(sv:Int))))):=fun nq=>
        k2v.set (w:=wr.drewN nq) (Ab.o.kept rfl) hi (by rw[<-k7f P (.inr (by rw[Ac.o,D.o];exact X)),D.o];omega)
       have Ak:(bv:Int)+(sv:Int)<(mv:Int):=by omega
       have Ay:¬(mv:Int)<0:=by omega
       clear hq X;go_wp2_with fail
       go_quiet ((go_at_call 123;exact Calls.quiet_of_same (B.o _)))
       go_wp2
       go_roundw
       case rel=>exact⟨(q0d C.o nq).setCell (p:=⟨w,i,none⟩) Zl _,q+1,by omega,by omega,by go_num,HP.o nq⟩
       case measure=>simp[intOf];omega
      ·have HP:Hid (∀nq,k2v wd ws w.heap.size i (q+1-1) (wr.drewN nq)):=fun nq=>by
        have h1:=G.o.kept (w':=wr.drewN nq) rfl;exact⟨h1.l,by rw[<-j6r P hq (by rw[Ac.o,D.o];exact X)];exact h1.c⟩
       have Ak:¬(bv:Int)+(sv:Int)<(mv:Int):=by omega
       have Ay:¬(mv:Int)<0:=by omega
       clear hq X;go_wp2_with fail
       go_quiet ((go_at_call 123;exact Calls.quiet_of_same (B.o _)))
       go_wp2
       go_roundw
       case rel=>exact⟨q0d C.o nq,q+1,by omega,by omega,by go_num,HP.o nq⟩
       case measure=>simp[intOf];omega
    ·have Ba:¬(q:Int)<=(ws.length:Int)-(i:Int):=by omega
     have HD:Hid (z9t wd ws w.heap.size i wr):=G.o.done hi (by omega);go_wp2
     go_roundw
     case rel=>exact⟨C.o,i,by omega,by go_num,HD.o⟩
     case measure=>simp[intOf]
def Bx(w:World)(b:Nat)(o l:Int):Prop:=w.cell? ⟨b,0,none⟩=some (.int .i64 o)/\w.cell? ⟨b,1,none⟩=some (.int .i64 l)
theorem Bx.W{w w':World}{b:Nat}{o l:Int}(h:Bx w b o l)(hb:Below w w w'):Bx w' b o l:=
 ⟨(hb.cell (p:=⟨b,0,none⟩) (World.block_lt_of_cell? w ⟨b,0,none⟩ h.1)).trans h.1,(hb.cell (p:=⟨b,1,none⟩) (World.block_lt_of_cell? w ⟨b,0,none⟩ h.1)).trans h.2⟩
theorem Bx.new(w:World)(o l:Int)(T:TypeId):Bx (w.alloc (.cells #[.int .i64 o,.int .i64 l] T)) w.heap.size o l:=⟨by simp[go_sem],by simp[go_sem]⟩
end Go.Proofs.YthcpdohdppkmkaaGreatDoor
namespace Go.Proofs.YthcpdohdppkmkaaGreatDoor
open Go Go.Lib
def lns:List UInt8->List (List UInt8)
 | []=>[[]]
 | c::r=>if c==10 then []::lns r else(c::(lns r).headD [])::(lns r).tail
theorem j6b:∀l,lns l≠[]
 | []=>by simp[lns]
 | c::r=>by unfold lns;split<;>simp
theorem z6m:∀(a b:List UInt8),lns (a++10::b)=lns a++lns b
 | [],b=>by simp[lns]
 | c::a,b=>by
  have ih:=z6m a b;have hne:=j6b a;simp only[List.cons_append,lns,ih]
  split
  ·simp
  ·cases h:lns a with
   | nil=>exact absurd h hne
   | cons x xs=>simp
theorem k4c:∀(l:List UInt8),(10:UInt8)∉l->lns l=[l]
 | [],_=>by simp[lns]
 | c::r,h=>by
  have hc:¬c=10:=fun e=>h (by simp[e])
  have hr:(10:UInt8)∉r:=fun e=>h (by simp[e])
  simp[lns,k4c r hr,hc]
theorem j4r:∀(l:List UInt8),indexByte l 10=-1->(10:UInt8)∉l
 | [],_=>by simp
 | c::r,h=>by
  unfold indexByte at h;by_cases hc:c==10
  ·simp[hc]at h
  ·simp only[hc]at h;by_cases h2:indexByte r 10==-1
   ·have:=j4r r (beq_iff_eq.1 h2)
    have hc':¬(10:UInt8)=c:=fun e=>hc (by simp[e])
    simp[this,hc']
   ·have:=indexByte_ge r 10
    have h3:¬indexByte r 10=-1:=fun e=>h2 (beq_iff_eq.2 e)
    simp[h3]at h;omega
theorem v8c:∀(l:List UInt8)(i:Nat),indexByte l 10=i->i<l.length/\(10:UInt8)∉l.take i/\l=l.take i++10::l.drop (i+1)
 | [],i,h=>by simp[indexByte]at h
 | c::r,i,h=>by
  unfold indexByte at h;by_cases hc:c==10
  ·have e:c=10:=beq_iff_eq.1 hc;simp[hc]at h
   have:i=0:=by omega
   subst this;simp[e]
  ·simp only[hc]at h;by_cases B:indexByte r 10==-1
   ·simp[B]at h
   ·have C:¬indexByte r 10=-1:=fun e=>B (beq_iff_eq.2 e)
    have D:=indexByte_ge r 10;simp[C]at h;obtain⟨j,rfl⟩:∃j,i=j+1:=⟨i-1,by omega⟩;obtain⟨H,E,G⟩:=v8c r j (by omega);have A:¬(10:UInt8)=c:=fun e=>hc (by simp[e])
    refine⟨by simp;omega,by simp[A,E],?_⟩;rw[List.take_succ_cons,List.drop_succ_cons,List.cons_append];exact congrArg (c::·) G
theorem v3u(l:List UInt8):indexByte l 10=-1\/∃i:Nat,indexByte l 10=i:=by
 have:=indexByte_ge l 10
 by_cases h:indexByte l 10=-1
 ·exact .inl h
 ·exact .inr ⟨(indexByte l 10).toNat,by omega⟩
def q2p(s:ByteArray):List ByteArray:=(lns s.data.toList).map fun l=>⟨l.toArray⟩
theorem j5y(s:ByteArray)(h:indexByte s.data.toList 10=-1):q2p s=[s]:=by
 unfold q2p;rw[k4c _ (j4r _ h)];simp
theorem v4m(s:ByteArray)(i:Nat)(h:indexByte s.data.toList 10=i):i+1<=s.size/\q2p s=s.extract 0 i::q2p (s.extract (i+1) s.size):=by
 obtain⟨C,A,B⟩:=v8c _ i h;refine⟨by rw[size_eq];omega,?_⟩;unfold q2p
 conv=>lhs;rw[B]
 rw[z6m,k4c _ A,extract_to_end,extract_eq];simp
def ovr(wd:Int)(n:Int):Int:=max (n-wd) 0
def over(wd:Int):List Int->Int
 | []=>0
 | n::r=>ovr wd n+over wd r
theorem j6a:∀(l:List UInt8),(lns l).length<=l.length+1
 | []=>by simp[lns]
 | c::r=>by
  have:=j6a r
  have:=List.length_pos_iff.2 (j6b r)
  unfold lns
  split
  ·simp;omega
  ·simp;omega
def stp(wd:Int)(x:Int × Int × Int)(b:UInt8):Int × Int × Int:=
 if b=10 then(x.1,x.2.1+1,0)else(if wd<x.2.2+1 then x.1+1 else x.1,x.2.1,x.2.2+1)
def stL(wd:Int)(l:List UInt8):Int × Int × Int:=l.foldl (stp wd) (0,0,0)
theorem v6b(wd:Int)(l:List UInt8)(b:UInt8):stL wd (l++[b])=stp wd (stL wd l) b:=by simp[stL]
theorem y6l(wd:Int)(l:List UInt8):∀(x:Int × Int × Int),0<=x.1->0<=x.2.1->0<=x.2.2->
  (0<=(l.foldl (stp wd) x).1/\(l.foldl (stp wd) x).1<=x.1+l.length)/\(0<=(l.foldl (stp wd) x).2.1/\(l.foldl (stp wd) x).2.1<=x.2.1+l.length)/\(0<=(l.foldl (stp wd) x).2.2/\(l.foldl (stp wd) x).2.2<=x.2.2+l.length):=by
 induction l with
 | nil=>intro x D E G;simp;omega
 | cons b r ih=>
  intro x D E G;have e:(b::r).foldl (stp wd) x=r.foldl (stp wd) (stp wd x b):=rfl;rw[e]
  have A:0<=(stp wd x b).1/\(stp wd x b).1<=x.1+1/\0<=(stp wd x b).2.1/\(stp wd x b).2.1<=x.2.1+1/\0<=(stp wd x b).2.2/\(stp wd x b).2.2<=x.2.2+1:=by
   unfold stp;by_cases B:b=10
   ·simp only[B,if_true];omega
   ·simp only[B,if_false];by_cases C:wd<x.2.2+1
    ·simp only[C,if_true];omega
    ·simp only[C,if_false];omega
  have:=ih (stp wd x b) A.1 A.2.2.1 A.2.2.2.2.1
  simp only[List.length_cons];omega
theorem y6i(wd:Int)(l:List UInt8):(0<=(stL wd l).1/\(stL wd l).1<=l.length)/\(0<=(stL wd l).2.1/\(stL wd l).2.1<=l.length)/\(0<=(stL wd l).2.2/\(stL wd l).2.2<=l.length):=by
 have:=y6l wd l (0,0,0) (by simp) (by simp) (by simp)
 simpa[stL]using this
theorem v0d(s:ByteArray)(k:Nat)(h:k<s.size):s.data.toList.take (k+1)=s.data.toList.take k++[s[k]]:=by
 rw[List.take_succ_eq_append_getElem (by simpa using h)];rfl
end Go.Proofs.YthcpdohdppkmkaaGreatDoor
namespace Go.Proofs.YthcpdohdppkmkaaGreatDoor
theorem j3i(wd:Nat):∀(l:List UInt8)(o n:Int)(c:Nat),l.foldl (stp wd) (o,n,(c:Int))=(o+(q2z wd c l).1,n+(q2z wd c l).2.1,((q2z wd c l).2.2:Int))
 | [],o,n,c=>by simp[q2z]
 | b::r,o,n,c=>by
  have e3:(b::r).foldl (stp wd) (o,n,(c:Int))=r.foldl (stp wd) (stp wd (o,n,(c:Int)) b):=rfl;rw[e3];simp only[q2z];by_cases hb:b=10
  ·have e4:stp wd (o,n,(c:Int)) b=(o,n+1,((0:Nat):Int)):=by simp[stp,hb]
   rw[e4,j3i wd r,if_pos hb];simp only[Prod.mk.injEq,and_true,true_and];omega
  ·have e4:stp wd (o,n,(c:Int)) b=(o+(if wd<=c then 1 else 0:Nat),n,((c+1:Nat):Int)):=by
    by_cases h:wd<=c
    ·have A:(wd:Int)<(c:Int)+1:=by omega
     simp[stp,hb,h,A]
    ·have A:¬(wd:Int)<(c:Int)+1:=by omega
     simp[stp,hb,h,A]
   rw[e4,j3i wd r,if_neg hb];simp only[Prod.mk.injEq,and_true];omega
theorem y0p(wd:Nat)(l:List UInt8):stL wd l=(((q2z wd 0 l).1:Int),((q2z wd 0 l).2.1:Int),((q2z wd 0 l).2.2:Int)):=by
 have:=j3i wd l 0 0 0
 simpa[stL]using this
end Go.Proofs.YthcpdohdppkmkaaGreatDoor
namespace Go.Proofs.YthcpdohdppkmkaaGreatDoor
open Go Go.RowKit
set_option maxRecDepth 100000
set_option maxHeartbeats 1000000
def k3y(a b:Int × Int):Bool:=if a.1 != b.1 then decide (a.1<b.1)else decide (a.2<b.2)
theorem j0h(a b:Int × Int)(w:World):
  Calls prog 134 #[.agg #[.int .i64 a.1,.int .i64 a.2],.agg #[.int .i64 b.1,.int .i64 b.2]] w fun e w'=>e=.returned (.bool (k3y a b))/\Below w w w':=by
 by_cases h:a.1=b.1
 ·have A:k3y a b=decide (a.2<b.2):=by simp[k3y,h]
  rw[A];have B:(a.1 != b.1)=false:=by simp[h]
  clear h A;go_in;go_wp2;go_ret;exact⟨rfl,(Zb.alloc Zl _).alloc (by simp) _⟩
 ·have A:k3y a b=decide (a.1<b.1):=by simp[k3y,h]
  rw[A];have B:(a.1 != b.1)=true:=by simp[h]
  clear h A;go_in;go_wp2;go_ret;exact⟨rfl,(Zb.alloc Zl _).alloc (by simp) _⟩
theorem y1q(a b:Nat × Nat):k3y ((a.1:Int),(a.2:Int)) ((b.1:Int),(b.2:Int))=decide (q2w a b):=by
 rw[Bool.eq_iff_iff,decide_eq_true_eq];unfold k3y q2w;dsimp only
 split
 ·rename_i h;have A:(a.1:Int)≠b.1:=bne_iff_ne.1 h;rw[decide_eq_true_eq];omega
 ·rename_i h;have A:(a.1:Int)=b.1:=by simpa using h
  rw[decide_eq_true_eq];omega
theorem j9g(a b:Nat × Nat)(w:World):
  Calls prog 134 #[.agg #[.int .i64 (a.1:Int),.int .i64 (a.2:Int)],.agg #[.int .i64 (b.1:Int),.int .i64 (b.2:Int)]] w fun e w'=>e=.returned (.bool (decide (q2w a b)))/\Below w w w':=by
 have:=j0h ((a.1:Int),(a.2:Int)) ((b.1:Int),(b.2:Int)) w
 rw[y1q]at this;exact this
end Go.Proofs.YthcpdohdppkmkaaGreatDoor
