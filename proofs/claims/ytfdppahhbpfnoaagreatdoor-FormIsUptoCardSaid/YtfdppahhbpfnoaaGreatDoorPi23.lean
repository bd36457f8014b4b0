import Derived.Test.YtfdppahhbpfnoaaGreatDoorPi19
import Derived.Test.YtfdppahhbpfnoaaGreatDoorPi17
import Derived.Test.YtfdppahhbpfnoaaGreatDoorPi13
open Go.Proofs.Tryz
namespace Go.Proofs.YtfdppahhbpfnoaaGreatDoor
open Go Go.RowKit
def q6h(ws:List Wd):Nat->Bool
 | 0=>false
 | k+1=>(ws.getD k []).headD 0==35
theorem z7r(t l:Wd):(q6p t l).length<=t.length+1+l.length:=by
 unfold q6p
 split<;>simp only[List.length_append,List.length_cons,List.length_nil]<;>omega
def k2k(ws:List Wd):Nat:=(ws.map fun l=>l.length+1).sum
theorem k6o:∀(ws:List Wd)(t:Wd),(ws.foldl q6p t).length<=t.length+k2k ws
 | [],t=>by simp[k2k]
 | w::r,t=>by
  have h1:=k6o r (q6p t w);have h2:=z7r t w;rw[List.foldl_cons];unfold k2k at h1⊢;rw[List.map_cons,List.sum_cons];omega
theorem z9m:∀s:List UInt8,k2k (q5n s)=s.length+1
 | []=>rfl
 | c::r=>by
  have ih:=z9m r;by_cases hc:c=32
  ·subst hc;rw[q6l];unfold k2k at ih⊢;rw[List.map_cons,List.sum_cons,ih];simp;omega
  ·cases hs:q5n r with
   | nil=>exact absurd hs (q9q r)
   | cons w ws=>
    rw[q4x hc hs];rw[hs]at ih;unfold k2k at ih⊢;rw[List.map_cons,List.sum_cons]at ih⊢;simp only[List.length_cons]at ih⊢;omega
theorem v5h(ws:List Wd)(k:Nat):k2k (ws.take k)<=k2k ws:=by
 have h:=congrArg k2k (List.take_append_drop k ws);unfold k2k at h⊢;rw[List.map_append,List.sum_append]at h;omega
theorem j7w(s:List UInt8)(k:Nat):(ntx ((q0e s).take k)).length<=s.length+1:=by
 have A:=k6o ((q0e s).take k) [];have B:=v5h (q0e s) k
 have C:k2k (q0e s)<=s.length+1:=by
  unfold q0e
  split
  ·simp[k2k]
  ·rw[z9m];omega
 unfold ntx;simp only[List.length_nil]at A;omega
theorem k9z{w:Wd}(h:w.length<=60000):(q0y w).length<=60001:=by
 have A:=j7w (w.drop 1) (q0e (w.drop 1)).length;rw[List.take_length]at A;have B:(w.drop 1).length<=w.length:=by simp
 unfold q0y;omega
def y7c:Job->List Td
 | .loop _ acc=>acc
 | .args _ _ acc=>acc
 | _=>[]
theorem j6q{w:Wd}(h:nmW w=true):(wbS w).size<=8:=by
 rw[<-q0c];exact q5q h
theorem y1n{j:Job}{ts:List Wd}{r:Rs}(h:PR j ts r):(∀x∈y7c j,x.tx.size<=8)->∀m ns u,r=.ok m ns u->∀x∈ns,x.tx.size<=8:=by
 have E:∀{a b:List Td},(∀x∈a,x.tx.size<=8)->(∀x∈b,x.tx.size<=8)->∀x∈a++b,x.tx.size<=8:=fun C hb x D=>by
  rcases List.mem_append.1 D with D|D
  ·exact C x D
  ·exact hb x D
 have B:∀{y:Td}{b:List Td},y.tx.size<=8->(∀x∈b,x.tx.size<=8)->∀x∈y::b,x.tx.size<=8:=fun hy hb x D=>by
  rcases List.mem_cons.1 D with rfl|D
  ·exact hy
  ·exact hb x D
 have A:∀x∈([]:List Td),x.tx.size<=8:=fun x D=>by cases D
 have G:(⟨#[]⟩:ByteArray).size<=8:=by decide
 induction h with
 | lev2 _ ih=>intro _ m ns u e;exact ih A m ns u e
 | levB=>intro _ m ns u e;cases e
 | levO _ _ _ ih1 ih2=>intro _ m ns u e;exact ih2 (ih1 A _ _ _ rfl) m ns u e
 | lopE=>intro C m ns u e;cases e;exact C
 | lopB=>intro _ m ns u e;cases e
 | lopO _ _ ih1 ih2=>intro C m ns u e;exact ih2 (B G (E C (ih1 A _ _ _ rfl))) m ns u e
 | sinN=>intro _ m ns u e;cases e
 | sPB=>intro _ m ns u e;cases e
 | sPC _ ih=>intro _ m ns u e;cases e;exact ih A _ _ _ rfl
 | sPX=>intro _ m ns u e;cases e
 | sLB=>intro _ m ns u e;cases e
 | sLO _ ih=>intro _ m ns u e;cases e;exact B G (ih A _ _ _ rfl)
 | sNum=>intro _ m ns u e;cases e;exact B G A
 | sName h=>intro _ m ns u e;cases e;exact B (j6q h) A
 | sCB=>intro _ m ns u e;cases e
 | sCO h _ ih=>intro _ m ns u e;cases e;exact B (j6q h) (ih A _ _ _ rfl)
 | sBad=>intro _ m ns u e;cases e
 | aEnd=>intro C m ns u e;cases e;exact C
 | aSep=>intro _ m ns u e;cases e
 | aB0=>intro _ m ns u e;cases e
 | aO0 _ _ _ ih1 ih2=>intro C m ns u e;exact ih2 (E C (ih1 A _ _ _ rfl)) m ns u e
 | aB=>intro _ m ns u e;cases e
 | aO _ _ _ ih1 ih2=>intro C m ns u e;exact ih2 (E C (ih1 A _ _ _ rfl)) m ns u e
structure PAt(b:Nat)(A:Option Addr)(c:Nat)(ws:List Wd)(w:World)(q:Nat)(bad:Bool)(acc:List (List Td))(v:Value)(wr:World):Prop where
 le:q<=ws.length
 len:acc.length<=q+1
 ln0:bad=false->acc.length<=q
 last:bad=false->q6h ws q=true->∃init x,acc=init++[[x]]/\x.tx.size<=60002*q
 o:q3t (b+1) v acc wr
 rd:Rd wr b A c ws q bad
 bt:But w b w wr
 ok:bad=false->∀r,PG (q6h ws q) acc (ws.drop q) r->PG false [] ws r
 bd:bad=true->PG false [] ws (.bad (ws.drop q))
 tx:bad=false->∀t∈acc,∀x∈t,x.tx.size<=60002*(q+1)
theorem y1k{b:Nat}{A:Option Addr}{c:Nat}{ws:List Wd}{w:World}(h:Rd w b A c ws 0 false):PAt b A c ws w 0 false [] (.slice none 0 0) w:=
 ⟨Nat.zero_le _,by simp,fun _=>by simp,(fun _ h=>by cases h),q3t.nil _ _,h,But.refl _ _ _,fun _ r hr=>hr,(fun h=>by cases h),fun _ t ht=>by cases ht⟩
theorem z0n{ws:List Wd}{q:Nat}(hq:q<ws.length):q6h ws (q+1)=(ws[q].headD 0==35):=by
 show((ws.getD q []).headD 0==35)=_
 rw[List.getD_eq_getElem?_getD,List.getElem?_eq_getElem hq];rfl
theorem y4r{b:Nat}{A:Option Addr}{c:Nat}{ws:List Wd}{w:World}{q:Nat}{D:List (List Td)}{v v':Value}{wr w':World}(hV:PAt b A c ws w q false D v wr)(hq:q<ws.length)(J:ws[q].headD 0=35)(N:ws[q].length<=60000)
  (hO:q3t (b+1) v' (k0d (q6h ws q) D (q0y ws[q])) w') (hR:Rd w' b A c ws (q+1) false) (hB:But w b w w'):PAt b A c ws w (q+1) false (k0d (q6h ws q) D (q0y ws[q])) v' w':=by
 have M:q6h ws (q+1)=true:=by rw[z0n hq,J];rfl
 have O:=hV.ln0 rfl;have L:=k9z N
 have K:(k0d (q6h ws q) D (q0y ws[q])).length<=q+1:=by
  unfold k0d
  split
  ·rename_i H;obtain⟨B,x,rfl,_⟩:=hV.last rfl H;simp at O⊢;omega
  ·simp;omega
 refine⟨by omega,by omega,fun _=>K,fun _ _=>?_,hO,hR,hB,fun _ r hr=>?_,(fun h=>by cases h),fun _=>?_⟩
 ·unfold k0d;cases H:q6h ws q with
  | true=>
   obtain⟨B,x,rfl,I⟩:=hV.last rfl H;refine⟨B,ntT (q6p (q5o (B++[[x]])) (q0y ws[q])),by simp,?_⟩;have e:q5o (B++[[x]])=btL x.tx:=by simp[q5o]
   rw[e];have C:=z7r (btL x.tx) (q0y ws[q]);rw[q0c]at C
   show(wbS _).size<=_
   rw[q2s];omega
  | false=>
   refine⟨D,ntT (q0y ws[q]),by simp,?_⟩
   show(wbS _).size<=_
   rw[q2s];omega
 ·refine hV.ok rfl r ?_;rw[List.drop_eq_getElem_cons hq];rw[M]at hr;exact .note J hr
 ·have G:∀t∈D,∀x∈t,x.tx.size<=60002*(q+1+1):=fun t L x I=>by
   have:=hV.tx rfl t L x I
   omega
  have E:∀y:Wd,y.length<=60002*(q+1+1)->∀t∈[[ntT y]],∀x∈t,x.tx.size<=60002*(q+1+1):=fun y hy t L x I=>by
   rw[List.mem_singleton]at L;subst L;rw[List.mem_singleton]at I;subst I
   show(wbS y).size<=_
   rw[q2s];exact hy
  intro t C;unfold k0d at C;cases H:q6h ws q with
  | true=>
   rw[H,if_pos rfl]at C;rcases List.mem_append.1 C with C|C
   ·exact G t (List.dropLast_subset _ C)
   ·refine E _ ?_ t C;obtain⟨B,x,rfl,I⟩:=hV.last rfl H;have e:q5o (B++[[x]])=btL x.tx:=by simp[q5o]
    rw[e];have C:=z7r (btL x.tx) (q0y ws[q]);rw[q0c]at C;omega
  | false=>
   rw[H]at C;rcases List.mem_append.1 (show t∈D++[[ntT (q0y ws[q])]]from C)with C|C
   ·exact G t C
   ·exact E _ (by omega) t C
theorem y1j{b:Nat}{A:Option Addr}{c:Nat}{ws:List Wd}{w:World}{q q2:Nat}{C B:List (List Td)}{v v':Value}{wr w':World}(hV:PAt b A c ws w q false C v wr)(h1:q<=q2)(h2:q2<=ws.length)(hl:B.length<=C.length+1)
  (hG:PG (q6h ws q) C (ws.drop q) (.bad (ws.drop q2))) (hO:q3t (b+1) v' B w') (hR:Rd w' b A c ws q2 true) (hB:But w b w w'):PAt b A c ws w q2 true B v' w':=by
 have D:=hV.ln0 rfl;exact⟨h2,by omega,(fun h=>by cases h),(fun h=>by cases h),hO,hR,hB,(fun h=>by cases h),(fun _=>hV.ok rfl _ hG),(fun h=>by cases h)⟩
theorem k8c{ws:List Wd}{k:Nat}{s:Wd}(h:ws[k]?=some s):q1n ws k false s=k+1/\q0u ws k false s=false:=by
 unfold q1n q0u;rw[h];simp
theorem v0c{ws:List Wd}{k:Nat}{s:Wd}(h:ws[k]?≠some s):q1n ws k false s=k/\q0u ws k false s=true:=by
 unfold q1n q0u
 have:(ws[k]?==some s)=false:=by simpa using h
 rw[this];simp
theorem v8a{b:Nat}{A:Option Addr}{c:Nat}{ws:List Wd}{w:World}{q q':Nat}{B:List (List Td)}{v v7:Value}{wr w3 w4 w7:World}{x:Td}{r:Rs}{ns:List Td}{v4:Value}(hV:PAt b A c ws w q false B v wr)(Z:q<=q')(hq:q'<=ws.length)(U:x.tx.size<=8)
  (hG:Got b A c ws (.level 0) q' w3 r ns v4 w4)
  (hB:∀u,PR (.level 0) (ws.drop q') (.bad u)->PG (q6h ws q) B (ws.drop q) (.bad u)) (hX:∀m ms u,PR (.level 0) (ws.drop q') (.ok m ms u)->u.head?≠some [59]->PG (q6h ws q) B (ws.drop q) (.bad u))
  (P:∀m ms u r,PR (.level 0) (ws.drop q') (.ok m ms ([59]::u))->PG false (B++[x::ms]) u r->PG (q6h ws q) B (ws.drop q) r)
  (hR:Rd w7 b A c ws (q1n ws (ws.length-r.rest.length) r.isBad [59]) (q0u ws (ws.length-r.rest.length) r.isBad [59])) (hO:q3t (b+1) v7 (B++[x::ns]) w7) (b7:But w b w w7):
  PAt b A c ws w (q1n ws (ws.length-r.rest.length) r.isBad [59]) (q0u ws (ws.length-r.rest.length) r.isBad [59]) (B++[x::ns]) v7 w7/\
  2*(ws.length-q1n ws (ws.length-r.rest.length) r.isBad [59])+(if q0u ws (ws.length-r.rest.length) r.isBad [59]then 0 else 1)<2*(ws.length-q)+1:=by
 have S:=q5i hG.pr;have V:=z4u S.1;have W:=hG.n;rw[q0k hq]at W;have d:=hV.ln0 rfl;have Y:(B++[x::ns]).length=B.length+1:=by simp
 cases r with
 | bad u=>
  simp only[Rs.rest,Rs.isBad,q1n,q0u,Bool.not_true,Bool.false_and,Bool.false_eq_true,if_false,Bool.not_false,if_true]at *;refine⟨y1j hV (by omega) (by omega) (by omega) ?_ hO hR b7,by omega⟩;rw[V];exact hB u hG.pr
 | ok m ms u=>
  have X:=hG.e m ms u rfl;subst X;have R:ms.length+u.length<=ws.length-q':=W;have E:ws.drop (ws.length-u.length)=u:=V;have C:Rd w7 b A c ws (q1n ws (ws.length-u.length) false [59]) (q0u ws (ws.length-u.length) false [59]):=hR;show PAt b A c ws w (q1n ws (ws.length-u.length) false [59]) (q0u ws (ws.length-u.length) false [59]) (B++[x::ms]) v7 w7/\2*(ws.length-q1n ws (ws.length-u.length) false [59])+(if q0u ws (ws.length-u.length) false [59]then 0 else 1)<2*(ws.length-q)+1;have K:ws[ws.length-u.length]?=u.head?:=by rw[<-q5f,E]
  by_cases H:u.head?=some ([59]:Wd)
  ·obtain⟨M,N⟩:=k8c (K.trans H);rw[M,N]at C⊢
   obtain⟨D,rfl⟩:∃D,u=[59]::D:=by
    cases u with
    | nil=>simp at H
    | cons a D=>
     have:a=[59]:=by simpa using H
     exact⟨D,by rw[this]⟩
   simp only[List.length_cons]at R C E K⊢;have I:ws.length-(D.length+1)<ws.length:=by omega
   have J:q6h ws (ws.length-(D.length+1)+1)=false:=by
    rw[z0n I];have O:ws[ws.length-(D.length+1)]?=some [59]:=by rw[K];rfl
    rw[List.getElem?_eq_getElem I]at O;rw[Option.some.inj O];rfl
   have Q:ws.drop (ws.length-(D.length+1)+1)=D:=by
    rw[<-List.drop_drop,E];rfl
   refine⟨⟨by omega,by omega,fun _=>by omega,(fun _ h=>by rw[J]at h;cases h),hO,C,b7,fun _ r hr=>?_,(fun h=>by cases h),fun _ t G y L=>?_⟩,by simp only[Bool.false_eq_true,if_false];omega⟩
   ·rw[J,Q]at hr;exact hV.ok rfl r (P m ms D r hG.pr hr)
   ·rcases List.mem_append.1 G with G|G
    ·have:=hV.tx rfl t G y L
     omega
    ·rw[List.mem_singleton]at G;subst G
     have O:y.tx.size<=8:=by
      rcases List.mem_cons.1 L with rfl|L
      ·exact U
      ·exact y1n hG.pr (fun x hx=>by cases hx) _ _ _ rfl y L
     omega
  ·obtain⟨M,N⟩:=v0c (show ws[ws.length-u.length]?≠some [59] by rw[K];exact H);rw[M,N]at C⊢;refine⟨y1j hV (by omega) (by omega) (by omega) ?_ hO C b7,by simp only[if_true];omega⟩;rw[E];exact hX m ms u hG.pr H
def Row(w:World)(b n:Nat):Prop:=∃cs T,w.heap[b]?=some (.cells cs T (0,0))/\cs.size=n
theorem Row.lt{w:World}{b n:Nat}(h:Row w b n):b<w.heap.size:=by
 obtain⟨B,T,h,_⟩:=h;rcases Nat.lt_or_ge b w.heap.size with A|A
 ·exact A
 ·simp[Array.getElem?_eq_none A]at h
theorem Row.cell{w:World}{b n i:Nat}(h:Row w b n)(hi:i<n):∃y,w.cell? ⟨b,i,none⟩=some y:=by
 obtain⟨A,T,h,B⟩:=h;refine⟨A[i],?_⟩;simp[World.cell?,h]
theorem Row.frozen{w:World}{b n i:Nat}(h:Row w b n):w.frozen? ⟨b,i,none⟩=false:=by
 obtain⟨A,T,h,B⟩:=h;simp[World.frozen?,h]
theorem Row.kept{w w':World}{b n:Nat}(h:Row w b n)(hb:w'.heap[b]?=w.heap[b]?):Row w' b n:=by
 obtain⟨A,T,h,B⟩:=h;exact⟨A,T,hb.trans h,B⟩
theorem Row.set{w:World}{b n c i:Nat}{v:Value}(h:Row w b n):Row (w.setCell ⟨c,i,none⟩ v) b n:=by
 by_cases e:c=b
 ·subst e;obtain⟨A,T,h,B⟩:=h;exact⟨A.setIfInBounds i v,T,by simp[World.setCell,Array.getElem?_modify,h],by simpa using B⟩
 ·exact h.kept (Below.heap_setCell _ _ _ _ (Ne.symm e))
section
variable {be bf i:Nat} {e f:Value} {w w':World}
theorem z2t.block(h:z2t be bf i e f w w')(k:Nat)(h1:k≠be)(h2:k≠bf):w'.heap[k]?=w.heap[k]?:=by
 rw[h.2.2.2,Below.heap_setCell _ _ _ _ h2,Below.heap_setCell _ _ _ _ h1]
theorem z2t.cells(h:z2t be bf i e f w w')(b o:Nat):w'.cell? ⟨b,o,none⟩=((w.setCell ⟨be,i,none⟩ e).setCell ⟨bf,i,none⟩ f).cell? ⟨b,o,none⟩:=World.cell?_of_block (a:=⟨b,o,none⟩) (by rw[h.2.2.2])
theorem z2t.other(h:z2t be bf i e f w w')(b o:Nat)(h1:be≠b\/i≠o)(h2:bf≠b\/i≠o):w'.cell? ⟨b,o,none⟩=w.cell? ⟨b,o,none⟩:=(h.cells b o).trans ((cso h2).trans (cso h1))
theorem z2t.cellE(h:z2t be bf i e f w w')(hb:be≠bf){y:Value}(hy:w.cell? ⟨be,i,none⟩=some y):w'.cell? ⟨be,i,none⟩=some e:=(h.cells be i).trans ((cso (by omega)).trans (css hy))
theorem z2t.cellF(h:z2t be bf i e f w w')(hb:be≠bf){y:Value}(hy:w.cell? ⟨bf,i,none⟩=some y):w'.cell? ⟨bf,i,none⟩=some f:=(h.cells bf i).trans (css ((cso (by omega)).trans hy))
theorem z2t.size(h:z2t be bf i e f w w'):w'.heap.size=w.heap.size:=by rw[h.2.2.2];simp[World.setCell]
theorem z2t.W(h:z2t be bf i e f w w'){B:Nat}(h1:B<=be)(h2:B<=bf):Below B w w':=
 ⟨h.1,h.2.1,h.2.2.1,Nat.le_of_eq h.size.symm,fun k hk=>h.block k (by omega) (by omega)⟩
theorem z2t.row{b n:Nat}(h:z2t be bf i e f w w')(hr:Row w b n):Row w' b n:=by
 refine(Row.set (c:=bf) (i:=i) (v:=f) (Row.set (c:=be) (i:=i) (v:=e) hr)).kept ?_;rw[h.2.2.2]
end
def q9b(w:World)(be bf:Nat)(ds:List Nd)(k:Nat):Prop:=
 ∀i(t:Tr)(r:List Nd),k<=i->t.Wf->ds.drop i=t.N++r->w.cell? ⟨be,i,none⟩=some (.int .i64 ((i+t.N.length:Nat):Int))/\w.cell? ⟨bf,i,none⟩=some (.bool t.isFlat)
theorem q9b.kept{w w':World}{be bf:Nat}{ds:List Nd}{k:Nat}(h:q9b w be bf ds k)(h1:w'.heap[be]?=w.heap[be]?)(h2:w'.heap[bf]?=w.heap[bf]?):q9b w' be bf ds k:=by
 intro i t r D E C;obtain⟨A,B⟩:=h i t r D E C;exact⟨(World.cell?_of_block (w:=w) (a:=⟨be,i,none⟩) h1).trans A,(World.cell?_of_block (w:=w) (a:=⟨bf,i,none⟩) h2).trans B⟩
theorem q9b.end{w:World}{be bf:Nat}{ds:List Nd}:q9b w be bf ds ds.length:=by
 intro i t r C D A;rw[List.drop_eq_nil_of_le C]at A
 have:=t.pos
 have B:=congrArg List.length A;rw[List.length_append,List.length_nil]at B;omega
theorem q9b.step{w w':World}{be bf:Nat}{ds:List Nd}{i:Nat}{t:Tr}{r:List Nd}{y1 y2:Value}(h:q9b w be bf ds (i+1))(ht:t.Wf)(hd:ds.drop i=t.N++r)(hb:be≠bf)(e1:w.cell? ⟨be,i,none⟩=some y1)(e2:w.cell? ⟨bf,i,none⟩=some y2)
  (hp:z2t be bf i (.int .i64 ((i+t.N.length:Nat):Int)) (.bool t.isFlat) w w'):q9b w' be bf ds i:=by
 intro j D C I B A;by_cases H:j=i
 ·subst H;obtain⟨rfl,_⟩:=q8c t D r C ht B (hd.symm.trans A);exact⟨hp.cellE hb e1,hp.cellF hb e2⟩
 ·obtain⟨E,G⟩:=h j D C (by omega) B A;exact⟨(hp.other be j (by omega) (by omega)).trans E,(hp.other bf j (by omega) (by omega)).trans G⟩
theorem q1u{ds A:List Nd}{i:Nat}{x:Nd}(h:ds.drop i=x::A):∃hi:i<ds.length,ds[i]=x/\ds.drop (i+1)=A:=by
 have hi:i<ds.length:=by
  rcases Nat.lt_or_ge i ds.length with B|B
  ·exact B
  ·rw[List.drop_eq_nil_of_le B]at h;cases h
 rw[List.drop_eq_getElem_cons hi,List.cons.injEq]at h;exact⟨hi,h⟩
theorem z8e{ds A r:List Nd}{i:Nat}(h:ds.drop i=A++r):ds.drop (i+A.length)=r:=by
 rw[<-List.drop_drop,h,List.drop_left]
theorem q9i{ds:List Nd}{i:Nat}{t:Tr}{r:List Nd}(h:ds.drop i=t.N++r):i<ds.length:=by
 rcases Nat.lt_or_ge i ds.length with A|A
 ·exact A
 ·have B:=congrArg List.length h
  have:=t.pos
  rw[List.drop_eq_nil_of_le A,List.length_append,List.length_nil]at B;omega
theorem j5o(bp be bf s cap i:Nat)(ds:List Nd)(a:Option Addr)(t:Tr)(r:List Nd)(w:World)(ht:t.Wf)(hd:ds.drop i=t.N++r)(hl:ds.length<=400)(hN:q1i s w a ds)(h1:bp≠be)(h2:bp≠bf)(h3:be≠bf)(h4:s≠be)(h5:s≠bf)
  (c0:w.cell? ⟨bp,0,none⟩=some (.slice a ds.length cap)) (c1:w.cell? ⟨bp,1,none⟩=some (.slice (some ⟨be,0,none⟩) ds.length ds.length)) (c2:w.cell? ⟨bp,2,none⟩=some (.slice (some ⟨bf,0,none⟩) ds.length ds.length))
  (hE:Row w be ds.length) (hF:Row w bf ds.length) (hK:q9b w be bf ds (i+1)):
  Calls prog 90 #[.pointer (some ⟨bp,0,none⟩),.int .i64 i] w fun e w'=>e=.returned (.tuple #[])/\z2t be bf i (.int .i64 ((i+t.N.length:Nat):Int)) (.bool t.isFlat) w w':=by
 have U:=q9i hd;obtain⟨I,G⟩:=hE.cell U;obtain⟨J,H⟩:=hF.cell U;have K:w.frozen? ⟨be,i,none⟩=false:=hE.frozen;have L:w.frozen? ⟨bf,i,none⟩=false:=hF.frozen;obtain⟨o,Z,B,_,_⟩:=hN i U;subst Z;have C:(i:Int)<ds.length:=by omega
 cases t with
 | leaf x=>
  obtain⟨_,R,_⟩:=q1u (x:=x) (A:=r) hd;have Q:((i+(Tr.leaf x).N.length:Nat):Int)=(i:Int)+1:=rfl;rw[Q];rw[R]at B;rcases q3y ht.1 ht.2 with e|e|e|e|e
  ·have D:(Tr.leaf x).isFlat=true:=by simp[Tr.isFlat,Tr.flat,e]
   rw[D];rw[e]at B;exact q8r 1 (.inl rfl) bp be bf s o _ cap i w hl C h1 h2 h3 h4 h5 c0 c1 c2 B I J G H K L
  ·have D:(Tr.leaf x).isFlat=true:=by simp[Tr.isFlat,Tr.flat,e]
   rw[D];rw[e]at B;exact q8r 2 (.inr (.inl rfl)) bp be bf s o _ cap i w hl C h1 h2 h3 h4 h5 c0 c1 c2 B I J G H K L
  ·have D:(Tr.leaf x).isFlat=true:=by simp[Tr.isFlat,Tr.flat,e]
   rw[D];rw[e]at B;exact q8r 3 (.inr (.inr (.inl rfl))) bp be bf s o _ cap i w hl C h1 h2 h3 h4 h5 c0 c1 c2 B I J G H K L
  ·have D:(Tr.leaf x).isFlat=false:=by simp[Tr.isFlat,Tr.flat,e]
   rw[D];rw[e]at B;exact y0o bp be bf s o _ cap i w hl C h1 h2 h3 h4 h5 c0 c1 c2 B I J G H K L
  ·have D:(Tr.leaf x).isFlat=true:=by simp[Tr.isFlat,Tr.flat,e]
   rw[D];rw[e]at B;exact q8r 5 (.inr (.inr (.inr rfl))) bp be bf s o _ cap i w hl C h1 h2 h3 h4 h5 c0 c1 c2 B I J G H K L
 | one x a'=>
  obtain⟨_,R,E⟩:=q1u (x:=x) (A:=a'.N++r) hd;have V:=q9i E;obtain⟨P,O⟩:=hK (i+1) a' r Zl ht.2.2 E;have Q:((i+(Tr.one x a').N.length:Nat):Int)=((i+1+a'.N.length:Nat):Int):=by simp only[Tr.N,List.length_cons];congr 1;omega
  have D:(Tr.one x a').isFlat=a'.isFlat:=rfl;rw[Q,D];rw[R]at B;rcases q8d ht.2.1 with e|e
  ·rw[e]at B;exact k6s 7 (.inl rfl) bp be bf s o _ cap i _ _ w hl C (by omega) h1 h2 h3 h4 h5 c0 c1 c2 B P O I J G H K L
  ·rw[e]at B;exact k6s 8 (.inr rfl) bp be bf s o _ cap i _ _ w hl C (by omega) h1 h2 h3 h4 h5 c0 c1 c2 B P O I J G H K L
 | two x a' b'=>
  obtain⟨_,R,S⟩:=q1u (x:=x) (A:=a'.N++b'.N++r) hd;have E:ds.drop (i+1)=a'.N++(b'.N++r):=by rw[S,List.append_assoc]
  have M:=z8e E;have V:=q9i E;have b:=q9i M;have c:=a'.pos;obtain⟨P,O⟩:=hK (i+1) a' _ Zl ht.2.2.1 E;obtain⟨W,Y⟩:=hK _ b' r (by omega) ht.2.2.2 M;have Q:((i+(Tr.two x a' b').N.length:Nat):Int)=((i+1+a'.N.length+b'.N.length:Nat):Int):=by simp only[Tr.N,List.length_cons,List.length_append];congr 1;omega
  rw[Q];rw[R]at B;rcases q7p ht.2.1 with e|e
  ·have D:(Tr.two x a' b').isFlat=(a'.isFlat&&b'.isFlat):=(j5z e).2;rw[D];rw[e]at B;cases X:a'.isFlat with
   | true=>
    rw[X]at O;exact v3l bp be bf s o _ cap i _ _ _ w hl C (by omega) (by omega) (by omega) h1 h2 h3 h4 h5 c0 c1 c2 B P W O Y I J G H K L
   | false=>
    rw[X]at O;exact v3k bp be bf s o _ cap i _ _ _ w hl C (by omega) (by omega) (by omega) h1 h2 h3 h4 h5 c0 c1 c2 B P W O Y I J G H K L
  ·have D:(Tr.two x a' b').isFlat=a'.isFlat:=by simp[Tr.isFlat,Tr.flat,e]
   rw[D];rw[e]at B;exact y0p bp be bf s o _ cap i _ _ _ w hl C (by omega) (by omega) (by omega) h1 h2 h3 h4 h5 c0 c1 c2 B P W O I J G H K L
theorem k3x:(prog.info? 3).map (fun i=>(i.zero,i.size,i.bytes))=some (some (.int .i64 0),1,8):=by kernel_rfl
theorem v1q:(prog.info? 4).map (fun i=>(i.zero,i.size,i.bytes))=some (some (.bool false),1,1):=by kernel_rfl
structure z7o(w0:World)(s bp be bf:Nat)(a:Option Addr)(cap:Nat)(ds:List Nd)(w:World):Prop where
 b1:w0.heap.size<=bp
 b2:w0.heap.size+1<=be
 b3:w0.heap.size+1<=bf
 n1:bp≠be
 n2:bp≠bf
 n3:be≠bf
 c0:w.cell? ⟨bp,0,none⟩=some (.slice a ds.length cap)
 c1:w.cell? ⟨bp,1,none⟩=some (.slice (some ⟨be,0,none⟩) ds.length ds.length)
 c2:w.cell? ⟨bp,2,none⟩=some (.slice (some ⟨bf,0,none⟩) ds.length ds.length)
 re:Row w be ds.length
 rf:Row w bf ds.length
 rb:w.heap[w0.heap.size]?=some (.cells #[.slice none 0 0,.slice none 0 0,.slice none 0 0] 98 (0,0))
 bw:Below w0 w0 w
 nd:q1i s w a ds
theorem z7o.put{w0 w w':World}{s bp be bf cap i:Nat}{a:Option Addr}{ds:List Nd}{e f:Value}(h:z7o w0 s bp be bf a cap ds w)(hs:s<w0.heap.size)(hp:z2t be bf i e f w w'):z7o w0 s bp be bf a cap ds w' where
 b1:=h.b1
 b2:=h.b2
 b3:=h.b3
 n1:=h.n1
 n2:=h.n2
 n3:=h.n3
 c0:=(hp.other bp 0 (.inl h.n1.symm) (.inl h.n2.symm)).trans h.c0
 c1:=(hp.other bp 1 (.inl h.n1.symm) (.inl h.n2.symm)).trans h.c1
 c2:=(hp.other bp 2 (.inl h.n1.symm) (.inl h.n2.symm)).trans h.c2
 re:=hp.row h.re
 rf:=hp.row h.rf
 rb:=(hp.block _ (by have:=h.b2;omega) (by have:=h.b3;omega)).trans h.rb
 bw:=h.bw.trans (hp.W (by have:=h.b2;omega) (by have:=h.b3;omega))
 nd:=h.nd.kept (hp.block s (by have:=h.b2;omega) (by have:=h.b3;omega))
set_option maxRecDepth 100000
set_option maxHeartbeats 4000000
theorem q4l(z:Value)(n:Nat):(madeCells #[z] n).size=n:=by simp[madeCells]
theorem q2n(w:World)(O0 O1 O2 O3:Obj):((((w.alloc O0).alloc O1).alloc O2).alloc O3).drew.heap[w.heap.size]?=some O0/\((((w.alloc O0).alloc O1).alloc O2).alloc O3).drew.heap[w.heap.size+1]?=some O1
  /\((((w.alloc O0).alloc O1).alloc O2).alloc O3).drew.heap[w.heap.size+1+1]?=some O2/\((((w.alloc O0).alloc O1).alloc O2).alloc O3).drew.heap[w.heap.size+1+1+1]?=some O3:=by
 have E:(w.alloc O0).heap.size=w.heap.size+1:=by simp
 have G:((w.alloc O0).alloc O1).heap.size=w.heap.size+1+1:=by simp
 have H:(((w.alloc O0).alloc O1).alloc O2).heap.size=w.heap.size+1+1+1:=by simp
 have D:=heap_alloc_new w O0;have A:=heap_alloc_new (w.alloc O0) O1;have B:=heap_alloc_new ((w.alloc O0).alloc O1) O2;have C:=heap_alloc_new (((w.alloc O0).alloc O1).alloc O2) O3;rw[E]at A;rw[G]at B;rw[H]at C;refine⟨?_,?_,?_,C⟩
 ·exact(Below.heap_alloc _ _ _ (by omega)).trans ((Below.heap_alloc _ _ _ (by omega)).trans ((Below.heap_alloc _ _ _ (by omega)).trans D))
 ·exact(Below.heap_alloc _ _ _ (by omega)).trans ((Below.heap_alloc _ _ _ (by omega)).trans A)
 ·exact(Below.heap_alloc _ _ _ (by omega)).trans B
theorem z1m(w:World)(O0 O1 O2 O3:Obj):Below w w ((((w.alloc O0).alloc O1).alloc O2).alloc O3).drew:=
 Below.drew (((((Below.refl _ w).alloc Zl _).alloc (by simp) _).alloc (by simp;omega) _).alloc (by simp;omega) _)
theorem q8v{w W:World}{s bp be bf cap:Nat}{a:Option Addr}{ds:List Nd}(hs:s<w.heap.size)(hN:q1i s w a ds)(bw:Below w w W)(rb:W.heap[w.heap.size]?=some (.cells #[.slice none 0 0,.slice none 0 0,.slice none 0 0] 98 (0,0)))
  (hp:W.heap[bp]?=some (.cells #[.slice a ds.length cap,.slice (some ⟨be,0,none⟩) ds.length ds.length,.slice (some ⟨bf,0,none⟩) ds.length ds.length] 98 (0,0))) {ce cf:Array Value} {Te Tf:TypeId} (he:W.heap[be]?=some (.cells ce Te (0,0))) (A:ce.size=ds.length) (hf:W.heap[bf]?=some (.cells cf Tf (0,0))) (B:cf.size=ds.length)
  (b1:w.heap.size<=bp) (b2:w.heap.size+1<=be) (b3:w.heap.size+1<=bf) (n1:bp≠be) (n2:bp≠bf) (n3:be≠bf):z7o w s bp be bf a cap ds W where
 b1:=b1
 b2:=b2
 b3:=b3
 n1:=n1
 n2:=n2
 n3:=n3
 c0:=by simp[World.cell?,hp]
 c1:=by simp[World.cell?,hp]
 c2:=by simp[World.cell?,hp]
 re:=⟨ce,Te,he,A⟩
 rf:=⟨cf,Tf,hf,B⟩
 rb:=rb
 bw:=bw
 nd:=hN.kept (bw.block s hs)
theorem k4l(ds:List Nd)(a:Option Addr)(cap s:Nat)(w:World)(h0:q3f ds=0)(hN:q1i s w a ds)(hs:s<w.heap.size):
  Calls prog 51 #[.slice a ds.length cap] w fun e w'=>(∃be bf,e=.returned (.agg #[.slice a ds.length cap,.slice (some ⟨be,0,none⟩) ds.length ds.length,.slice (some ⟨bf,0,none⟩) ds.length ds.length])/\be<w'.heap.size/\bf<w'.heap.size/\q9b w' be bf ds 0)/\Below w w w':=by
 obtain⟨n,I,Z⟩:=q5d h0
 have o:∀W:World,(Instr.makeSlice 45 (.int .i64 (ds.length:Int)) (.int .i64 (ds.length:Int))).run prog W=.ok (.slice (some ⟨W,0,none⟩) ds.length ds.length) (W.alloc (.cells (madeCells #[.int .i64 0] ds.length) 3)):=fun W=>
  run_make_row' 45 3 _ 8 Tryz.underlying45 k3x rfl .i64 .i64 ds.length (by omega) (by omega) W
 have q:∀W:World,(Instr.makeSlice 96 (.int .i64 (ds.length:Int)) (.int .i64 (ds.length:Int))).run prog W=.ok (.slice (some ⟨W,0,none⟩) ds.length ds.length) (W.alloc (.cells (madeCells #[.bool false] ds.length) 4)):=fun W=>
  run_make_row' 96 4 _ 1 Tryz.underlying96 v1q rfl .i64 .i64 ds.length (by omega) (by omega) W
 have M:Hid (∀x∈ds,q1a x=0):=I;have J:Hid (q0n ds 0 1=some ds.length):=Z;have G:Hid (q1i s w a ds):=hN;clear h0 hN I Z;go_in
 go_upto_region 1 with fail
 go_cut [0,2,3] (fun s0 s2 s3 wx=>s0=.slice a ds.length cap/\s2=.pointer (some ⟨w,0,none⟩)/\∃B be bf,s3=.pointer (some ⟨B,0,none⟩)/\z7o w s B be bf a cap ds wx)
 case first=>
  go_region_held3 (fun _=>True) (trivial) (fail)
  all_goals (go_wp2)
  all_goals
   go_meet
   first
    | exact⟨rfl,rfl,w.heap.size+1+1+1,w.heap.size+1,w.heap.size+1+1,rfl,q8v hs G.o (z1m w _ _ _ _) (q2n w _ _ _ _).1 (q2n w _ _ _ _).2.2.2 (q2n w _ _ _ _).2.1 (q4l _ _) (q2n w _ _ _ _).2.2.1 (q4l _ _) (by omega) (by omega) (by omega) (by omega) (by omega) (by omega)⟩
    | exact⟨rfl,rfl,w.heap.size+1+1,w.heap.size+1,w.heap.size+1+1+1,rfl,q8v hs G.o (z1m w _ _ _ _) (q2n w _ _ _ _).1 (q2n w _ _ _ _).2.2.1 (q2n w _ _ _ _).2.1 (q4l _ _) (q2n w _ _ _ _).2.2.2 (q4l _ _) (by omega) (by omega) (by omega) (by omega) (by omega) (by omega)⟩
    | exact⟨rfl,rfl,w.heap.size+1+1+1,w.heap.size+1+1,w.heap.size+1,rfl,q8v hs G.o (z1m w _ _ _ _) (q2n w _ _ _ _).1 (q2n w _ _ _ _).2.2.2 (q2n w _ _ _ _).2.2.1 (q4l _ _) (q2n w _ _ _ _).2.1 (q4l _ _) (by omega) (by omega) (by omega) (by omega) (by omega) (by omega)⟩
    | exact⟨rfl,rfl,w.heap.size+1,w.heap.size+1+1,w.heap.size+1+1+1,rfl,q8v hs G.o (z1m w _ _ _ _) (q2n w _ _ _ _).1 (q2n w _ _ _ _).2.1 (q2n w _ _ _ _).2.2.1 (q4l _ _) (q2n w _ _ _ _).2.2.2 (q4l _ _) (by omega) (by omega) (by omega) (by omega) (by omega) (by omega)⟩
    | exact⟨rfl,rfl,w.heap.size+1+1,w.heap.size+1+1+1,w.heap.size+1,rfl,q8v hs G.o (z1m w _ _ _ _) (q2n w _ _ _ _).1 (q2n w _ _ _ _).2.2.1 (q2n w _ _ _ _).2.2.2 (q4l _ _) (q2n w _ _ _ _).2.1 (q4l _ _) (by omega) (by omega) (by omega) (by omega) (by omega) (by omega)⟩
    | exact⟨rfl,rfl,w.heap.size+1,w.heap.size+1+1+1,w.heap.size+1+1,rfl,q8v hs G.o (z1m w _ _ _ _) (q2n w _ _ _ _).1 (q2n w _ _ _ _).2.1 (q2n w _ _ _ _).2.2.2 (q4l _ _) (q2n w _ _ _ _).2.2.1 (q4l _ _) (by omega) (by omega) (by omega) (by omega) (by omega) (by omega)⟩
 case rest=>
  obtain⟨rfl,rfl,B,be,bf,rfl,X⟩:=hcut;have h:Hid (z7o w s B be bf a cap ds wc):=X;clear X;go_wp2
  go_loopw [4] (fun i wr=>z7o w s B be bf a cap ds wr/\∃k:Nat,k<=ds.length/\i=.int .i64 ((k:Int)-1)/\q9b wr be bf ds k) (fun i _=>(intOf i+1).toNat)
  case atStart=>exact⟨h.o,ds.length,Nat.le_refl _,by go_num,q9b.end⟩
  case round=>
   obtain⟨d,k,C,rfl,V⟩:=hrel;have A:Hid (z7o w s B be bf a cap ds wr):=d;have K:Hid (q9b wr be bf ds k):=V;clear d V;by_cases Q:k=0
   ·subst Q;have c:¬((0:Int)<=((0:Nat):Int)-1):=by omega
    have c0:=A.o.c0;have c1:=A.o.c1;have c2:=A.o.c2;have E:=A.o.rb;have z:wr.cell? ⟨w,0,none⟩=some (.slice none 0 0):=by simp[World.cell?,E]
    have r1:wr.cell? ⟨w,1,none⟩=some (.slice none 0 0):=by simp[World.cell?,E]
    have r2:wr.cell? ⟨w,2,none⟩=some (.slice none 0 0):=by simp[World.cell?,E]
    have f0:wr.frozen? ⟨w,0,none⟩=false:=by simp[World.frozen?,E]
    have f1:wr.frozen? ⟨w,1,none⟩=false:=by simp[World.frozen?,E]
    have f2:wr.frozen? ⟨w,2,none⟩=false:=by simp[World.frozen?,E]
    clear E;go_wp2;refine bodyPost_ret (v:=.agg #[.slice a ds.length cap,.slice (some ⟨be,0,none⟩) ds.length ds.length,.slice (some ⟨bf,0,none⟩) ds.length ds.length]) (by simp[results,Tryz.results51,go_sem,z,r1,r2]) rfl ?_
    have P:∀v0 v1 v2,Below w wr (((wr.setCell ⟨w,0,none⟩ v0).setCell ⟨w,1,none⟩ v1).setCell ⟨w,2,none⟩ v2):=fun v0 v1 v2=>
     (((Below.refl _ wr).setCell (p:=⟨w,0,none⟩) Zl _).setCell (p:=⟨w,1,none⟩) Zl _).setCell (p:=⟨w,2,none⟩) Zl _
    have r:=A.o.b2;have u:=A.o.b3;have le:=A.o.re.lt;have y:=A.o.rf.lt
    have C:∀v0 v1 v2 k,k≠w.heap.size->(((wr.setCell ⟨w,0,none⟩ v0).setCell ⟨w,1,none⟩ v1).setCell ⟨w,2,none⟩ v2).heap[k]?=wr.heap[k]?:=fun v0 v1 v2 k C=>
     (Below.heap_setCell _ _ _ _ C).trans ((Below.heap_setCell _ _ _ _ C).trans (Below.heap_setCell _ _ _ _ C))
    exact⟨⟨be,bf,rfl,Nat.lt_of_lt_of_le le (P _ _ _).size,Nat.lt_of_lt_of_le y (P _ _ _).size,K.o.kept (C _ _ _ _ (by omega)) (C _ _ _ _ (by omega))⟩,A.o.bw.trans (P _ _ _)⟩
   ·obtain⟨i,rfl⟩:∃i,k=i+1:=⟨k-1,by omega⟩;have H:(((i+1:Nat):Int)-1)=(i:Int):=by omega
    rw[H];obtain⟨j,b,l,m⟩:=j3r J.o (show i<ds.length by omega);obtain⟨t,f,Y,_⟩:=j9w M.o b;have R:Hid (ds.drop i=t.N++ds.drop j):=Y;clear Y b H;go_wp2_with fail;refine(j5o B be bf s cap i ds a t (ds.drop j) _ f R.o n A.o.nd A.o.n1 A.o.n2 A.o.n3 (by have:=A.o.b2;omega) (by have:=A.o.b3;omega) A.o.c0 A.o.c1 A.o.c2 A.o.re A.o.rf K.o).mono ?_;rintro e g⟨rfl,D⟩;obtain⟨y1,S⟩:=A.o.re.cell (show i<ds.length by omega);obtain⟨y2,U⟩:=A.o.rf.cell (show i<ds.length by omega);have O:Hid (z7o w s B be bf a cap ds g):=A.o.put hs D;have L:Hid (q9b g be bf ds i):=K.o.step f R.o A.o.n3 S U D;clear D S U;go_wp2
    go_roundw
    case rel=>exact⟨O.o,i,by omega,by go_num,L.o⟩
    case measure=>simp[intOf]
end Go.Proofs.YtfdppahhbpfnoaaGreatDoor
