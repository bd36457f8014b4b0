import Derived.Test.YthcpdohdppkmkaaGreatDoorPl30
open Go.Proofs.Tryz
namespace Go.Proofs.YthcpdohdppkmkaaGreatDoor
open Go Go.RowKit
def q6f(ws:List Wd):Nat->Bool
 | 0=>false
 | k+1=>(ws.getD k []).headD 0==35
theorem z7p(t l:Wd):(q6n t l).length<=t.length+1+l.length:=by
 unfold q6n
 split<;>simp only[List.length_append,List.length_cons,List.length_nil]<;>omega
def k2m(ws:List Wd):Nat:=(ws.map fun l=>l.length+1).sum
theorem k6q:∀(ws:List Wd)(t:Wd),(ws.foldl q6n t).length<=t.length+k2m ws
 | [],t=>by simp[k2m]
 | w::r,t=>by
  have h1:=k6q r (q6n t w);have h2:=z7p t w;rw[List.foldl_cons];unfold k2m at h1⊢;rw[List.map_cons,List.sum_cons];omega
theorem z9l:∀s:List UInt8,k2m (q5l s)=s.length+1
 | []=>rfl
 | c::r=>by
  have ih:=z9l r;by_cases hc:c=32
  ·subst hc;rw[q6j];unfold k2m at ih⊢;rw[List.map_cons,List.sum_cons,ih];simp;omega
  ·cases hs:q5l r with
   | nil=>exact absurd hs (q9n r)
   | cons w ws=>
    rw[q4y hc hs];rw[hs]at ih;unfold k2m at ih⊢;rw[List.map_cons,List.sum_cons]at ih⊢;simp only[List.length_cons]at ih⊢;omega
theorem v6f(ws:List Wd)(k:Nat):k2m (ws.take k)<=k2m ws:=by
 have h:=congrArg k2m (List.take_append_drop k ws);unfold k2m at h⊢;rw[List.map_append,List.sum_append]at h;omega
theorem j8f(s:List UInt8)(k:Nat):(ntx ((q0f s).take k)).length<=s.length+1:=by
 have A:=k6q ((q0f s).take k) [];have B:=v6f (q0f s) k
 have C:k2m (q0f s)<=s.length+1:=by
  unfold q0f
  split
  ·simp[k2m]
  ·rw[z9l];omega
 unfold ntx;simp only[List.length_nil]at A;omega
theorem k9x{w:Wd}(h:w.length<=60000):(q0y w).length<=60001:=by
 have A:=j8f (w.drop 1) (q0f (w.drop 1)).length;rw[List.take_length]at A;have B:(w.drop 1).length<=w.length:=by simp
 unfold q0y;omega
def y8f:Job->List Td
 | .loop _ acc=>acc
 | .args _ _ acc=>acc
 | _=>[]
theorem j6z{w:Wd}(h:nmW w=true):(wbS w).size<=8:=by
 rw[<-q0b];exact q5p h
theorem y2p{j:Job}{ts:List Wd}{r:Rs}(h:PR j ts r):(∀x∈y8f j,x.tx.size<=8)->∀m ns u,r=.ok m ns u->∀x∈ns,x.tx.size<=8:=by
 have E:∀{a b:List Td},(∀x∈a,x.tx.size<=8)->(∀x∈b,x.tx.size<=8)->∀x∈a++b,x.tx.size<=8:=fun C hb x D=>by
  rcases List.mem_append.1 D with D|D
  ·exact C x D
  ·exact hb x D
 have B:∀{y:Td}{b:List Td},y.tx.size<=8->(∀x∈b,x.tx.size<=8)->∀x∈y::b,x.tx.size<=8:=fun hy hb x D=>by
  rcases List.mem_cons.1 D with rfl|D
  ·exact hy
  ·exact hb x D
 have A:∀x∈([]:List Td),x.tx.size<=8:=fun x D=>by cases D
 have G:(⟨#[]⟩:ByteArray).size<=8:=by decide
 induction h with
 | lev2 _ ih=>intro _ m ns u e;exact ih A m ns u e
 | levB=>intro _ m ns u e;cases e
 | levO _ _ _ ih1 ih2=>intro _ m ns u e;exact ih2 (ih1 A _ _ _ rfl) m ns u e
 | lopE=>intro C m ns u e;cases e;exact C
 | lopB=>intro _ m ns u e;cases e
 | lopO _ _ ih1 ih2=>intro C m ns u e;exact ih2 (B G (E C (ih1 A _ _ _ rfl))) m ns u e
 | sinN=>intro _ m ns u e;cases e
 | sPB=>intro _ m ns u e;cases e
 | sPC _ ih=>intro _ m ns u e;cases e;exact ih A _ _ _ rfl
 | sPX=>intro _ m ns u e;cases e
 | sLB=>intro _ m ns u e;cases e
 | sLO _ ih=>intro _ m ns u e;cases e;exact B G (ih A _ _ _ rfl)
 | sNum=>intro _ m ns u e;cases e;exact B G A
 | sName h=>intro _ m ns u e;cases e;exact B (j6z h) A
 | sCB=>intro _ m ns u e;cases e
 | sCO h _ ih=>intro _ m ns u e;cases e;exact B (j6z h) (ih A _ _ _ rfl)
 | sBad=>intro _ m ns u e;cases e
 | aEnd=>intro C m ns u e;cases e;exact C
 | aSep=>intro _ m ns u e;cases e
 | aB0=>intro _ m ns u e;cases e
 | aO0 _ _ _ ih1 ih2=>intro C m ns u e;exact ih2 (E C (ih1 A _ _ _ rfl)) m ns u e
 | aB=>intro _ m ns u e;cases e
 | aO _ _ _ ih1 ih2=>intro C m ns u e;exact ih2 (E C (ih1 A _ _ _ rfl)) m ns u e
structure PAt(b:Nat)(A:Option Addr)(c:Nat)(ws:List Wd)(w:World)(q:Nat)(bad:Bool)(acc:List (List Td))(v:Value)(wr:World):Prop where
 le:q<=ws.length
 len:acc.length<=q+1
 ln0:bad=false->acc.length<=q
 last:bad=false->q6f ws q=true->∃init x,acc=init++[[x]]/\x.tx.size<=60002*q
 o:q3t (b+1) v acc wr
 rd:Rd wr b A c ws q bad
 bt:But w b w wr
 ok:bad=false->∀r,PG (q6f ws q) acc (ws.drop q) r->PG false [] ws r
 bd:bad=true->PG false [] ws (.bad (ws.drop q))
 tx:bad=false->∀t∈acc,∀x∈t,x.tx.size<=60002*(q+1)
theorem y2m{b:Nat}{A:Option Addr}{c:Nat}{ws:List Wd}{w:World}(h:Rd w b A c ws 0 false):PAt b A c ws w 0 false [] (.slice none 0 0) w:=
 ⟨Nat.zero_le _,by simp,fun _=>by simp,(fun _ h=>by cases h),q3t.nil _ _,h,But.refl _ _ _,fun _ r hr=>hr,(fun h=>by cases h),fun _ t ht=>by cases ht⟩
theorem z0l{ws:List Wd}{q:Nat}(hq:q<ws.length):q6f ws (q+1)=(ws[q].headD 0==35):=by
 show((ws.getD q []).headD 0==35)=_
 rw[List.getD_eq_getElem?_getD,List.getElem?_eq_getElem hq];rfl
theorem y5u{b:Nat}{A:Option Addr}{c:Nat}{ws:List Wd}{w:World}{q:Nat}{D:List (List Td)}{v v':Value}{wr w':World}(hV:PAt b A c ws w q false D v wr)(hq:q<ws.length)(J:ws[q].headD 0=35)(N:ws[q].length<=60000)
  (hO:q3t (b+1) v' (k0d (q6f ws q) D (q0y ws[q])) w') (hR:Rd w' b A c ws (q+1) false) (hB:But w b w w'):PAt b A c ws w (q+1) false (k0d (q6f ws q) D (q0y ws[q])) v' w':=by
 have M:q6f ws (q+1)=true:=by rw[z0l hq,J];rfl
 have O:=hV.ln0 rfl;have L:=k9x N
 have K:(k0d (q6f ws q) D (q0y ws[q])).length<=q+1:=by
  unfold k0d
  split
  ·rename_i H;obtain⟨B,x,rfl,_⟩:=hV.last rfl H;simp at O⊢;omega
  ·simp;omega
 refine⟨by omega,by omega,fun _=>K,fun _ _=>?_,hO,hR,hB,fun _ r hr=>?_,(fun h=>by cases h),fun _=>?_⟩
 ·unfold k0d;cases H:q6f ws q with
  | true=>
   obtain⟨B,x,rfl,I⟩:=hV.last rfl H;refine⟨B,ntT (q6n (q5m (B++[[x]])) (q0y ws[q])),by simp,?_⟩;have e:q5m (B++[[x]])=btL x.tx:=by simp[q5m]
   rw[e];have C:=z7p (btL x.tx) (q0y ws[q]);rw[q0b]at C
   show(wbS _).size<=_
   rw[q2s];omega
  | false=>
   refine⟨D,ntT (q0y ws[q]),by simp,?_⟩
   show(wbS _).size<=_
   rw[q2s];omega
 ·refine hV.ok rfl r ?_;rw[List.drop_eq_getElem_cons hq];rw[M]at hr;exact .note J hr
 ·have G:∀t∈D,∀x∈t,x.tx.size<=60002*(q+1+1):=fun t L x I=>by
   have:=hV.tx rfl t L x I
   omega
  have E:∀y:Wd,y.length<=60002*(q+1+1)->∀t∈[[ntT y]],∀x∈t,x.tx.size<=60002*(q+1+1):=fun y hy t L x I=>by
   rw[List.mem_singleton]at L;subst L;rw[List.mem_singleton]at I;subst I
   show(wbS y).size<=_
   rw[q2s];exact hy
  intro t C;unfold k0d at C;cases H:q6f ws q with
  | true=>
   rw[H,if_pos rfl]at C;rcases List.mem_append.1 C with C|C
   ·exact G t (List.dropLast_subset _ C)
   ·refine E _ ?_ t C;obtain⟨B,x,rfl,I⟩:=hV.last rfl H;have e:q5m (B++[[x]])=btL x.tx:=by simp[q5m]
    rw[e];have C:=z7p (btL x.tx) (q0y ws[q]);rw[q0b]at C;omega
  | false=>
   rw[H]at C;rcases List.mem_append.1 (show t∈D++[[ntT (q0y ws[q])]]from C)with C|C
   ·exact G t C
   ·exact E _ (by omega) t C
theorem y2l{b:Nat}{A:Option Addr}{c:Nat}{ws:List Wd}{w:World}{q q2:Nat}{C B:List (List Td)}{v v':Value}{wr w':World}(hV:PAt b A c ws w q false C v wr)(h1:q<=q2)(h2:q2<=ws.length)(hl:B.length<=C.length+1)
  (hG:PG (q6f ws q) C (ws.drop q) (.bad (ws.drop q2))) (hO:q3t (b+1) v' B w') (hR:Rd w' b A c ws q2 true) (hB:But w b w w'):PAt b A c ws w q2 true B v' w':=by
 have D:=hV.ln0 rfl;exact⟨h2,by omega,(fun h=>by cases h),(fun h=>by cases h),hO,hR,hB,(fun h=>by cases h),(fun _=>hV.ok rfl _ hG),(fun h=>by cases h)⟩
theorem k8i{ws:List Wd}{k:Nat}{s:Wd}(h:ws[k]?=some s):q1o ws k false s=k+1/\q0u ws k false s=false:=by
 unfold q1o q0u;rw[h];simp
theorem v0p{ws:List Wd}{k:Nat}{s:Wd}(h:ws[k]?≠some s):q1o ws k false s=k/\q0u ws k false s=true:=by
 unfold q1o q0u
 have:(ws[k]?==some s)=false:=by simpa using h
 rw[this];simp
theorem v9b{b:Nat}{A:Option Addr}{c:Nat}{ws:List Wd}{w:World}{q q':Nat}{B:List (List Td)}{v v7:Value}{wr w3 w4 w7:World}{x:Td}{r:Rs}{ns:List Td}{v4:Value}(hV:PAt b A c ws w q false B v wr)(Z:q<=q')(hq:q'<=ws.length)(U:x.tx.size<=8)
  (hG:Got b A c ws (.level 0) q' w3 r ns v4 w4)
  (hB:∀u,PR (.level 0) (ws.drop q') (.bad u)->PG (q6f ws q) B (ws.drop q) (.bad u)) (hX:∀m ms u,PR (.level 0) (ws.drop q') (.ok m ms u)->u.head?≠some [59]->PG (q6f ws q) B (ws.drop q) (.bad u))
  (P:∀m ms u r,PR (.level 0) (ws.drop q') (.ok m ms ([59]::u))->PG false (B++[x::ms]) u r->PG (q6f ws q) B (ws.drop q) r)
  (hR:Rd w7 b A c ws (q1o ws (ws.length-r.rest.length) r.isBad [59]) (q0u ws (ws.length-r.rest.length) r.isBad [59])) (hO:q3t (b+1) v7 (B++[x::ns]) w7) (b7:But w b w w7):
  PAt b A c ws w (q1o ws (ws.length-r.rest.length) r.isBad [59]) (q0u ws (ws.length-r.rest.length) r.isBad [59]) (B++[x::ns]) v7 w7/\
  2*(ws.length-q1o ws (ws.length-r.rest.length) r.isBad [59])+(if q0u ws (ws.length-r.rest.length) r.isBad [59]then 0 else 1)<2*(ws.length-q)+1:=by
 have S:=q5h hG.pr;have V:=z4r S.1;have W:=hG.n;rw[q0k hq]at W;have d:=hV.ln0 rfl;have Y:(B++[x::ns]).length=B.length+1:=by simp
 cases r with
 | bad u=>
  simp only[Rs.rest,Rs.isBad,q1o,q0u,Bool.not_true,Bool.false_and,Bool.false_eq_true,if_false,Bool.not_false,if_true]at *;refine⟨y2l hV (by omega) (by omega) (by omega) ?_ hO hR b7,by omega⟩;rw[V];exact hB u hG.pr
 | ok m ms u=>
  have X:=hG.e m ms u rfl;subst X;have R:ms.length+u.length<=ws.length-q':=W;have E:ws.drop (ws.length-u.length)=u:=V;have C:Rd w7 b A c ws (q1o ws (ws.length-u.length) false [59]) (q0u ws (ws.length-u.length) false [59]):=hR;show PAt b A c ws w (q1o ws (ws.length-u.length) false [59]) (q0u ws (ws.length-u.length) false [59]) (B++[x::ms]) v7 w7/\2*(ws.length-q1o ws (ws.length-u.length) false [59])+(if q0u ws (ws.length-u.length) false [59]then 0 else 1)<2*(ws.length-q)+1;have K:ws[ws.length-u.length]?=u.head?:=by rw[<-q5e,E]
  by_cases H:u.head?=some ([59]:Wd)
  ·obtain⟨M,N⟩:=k8i (K.trans H);rw[M,N]at C⊢
   obtain⟨D,rfl⟩:∃D,u=[59]::D:=by
    cases u with
    | nil=>simp at H
    | cons a D=>
     have:a=[59]:=by simpa using H
     exact⟨D,by rw[this]⟩
   simp only[List.length_cons]at R C E K⊢;have I:ws.length-(D.length+1)<ws.length:=by omega
   have J:q6f ws (ws.length-(D.length+1)+1)=false:=by
    rw[z0l I];have O:ws[ws.length-(D.length+1)]?=some [59]:=by rw[K];rfl
    rw[List.getElem?_eq_getElem I]at O;rw[Option.some.inj O];rfl
   have Q:ws.drop (ws.length-(D.length+1)+1)=D:=by
    rw[<-List.drop_drop,E];rfl
   refine⟨⟨by omega,by omega,fun _=>by omega,(fun _ h=>by rw[J]at h;cases h),hO,C,b7,fun _ r hr=>?_,(fun h=>by cases h),fun _ t G y L=>?_⟩,by simp only[Bool.false_eq_true,if_false];omega⟩
   ·rw[J,Q]at hr;exact hV.ok rfl r (P m ms D r hG.pr hr)
   ·rcases List.mem_append.1 G with G|G
    ·have:=hV.tx rfl t G y L
     omega
    ·rw[List.mem_singleton]at G;subst G
     have O:y.tx.size<=8:=by
      rcases List.mem_cons.1 L with rfl|L
      ·exact U
      ·exact y2p hG.pr (fun x hx=>by cases hx) _ _ _ rfl y L
     omega
  ·obtain⟨M,N⟩:=v0p (show ws[ws.length-u.length]?≠some [59] by rw[K];exact H);rw[M,N]at C⊢;refine⟨y2l hV (by omega) (by omega) (by omega) ?_ hO C b7,by simp only[if_true];omega⟩;rw[E];exact hX m ms u hG.pr H
end Go.Proofs.YthcpdohdppkmkaaGreatDoor
