import Derived.Test.YtelcnplcpboonaaGreatDoorPe22
import Derived.Test.YtelcnplcpboonaaGreatDoorPe19
import Derived.Test.YtelcnplcpboonaaGreatDoorPe20
open Go.Proofs.Tryz
open List renaming length->ſ
open Bool renaming false->À,false_eq_true->Ç
open List renaming mem_append->Á,mem_singleton->Â,getElem?_eq_getElem->Ã,length_cons->Ä,map_cons->Å,sum_cons->Æ,mem_cons->È
namespace Go.Proofs.YtelcnplcpboonaaGreatDoor
open Go Go.RowKit
def fP(ws:List Wd):Nat->Bool
 | 0=>À
 | k+1=>(ws.getD k []).headD 0==35
theorem uE(t l):(cK t l).length<=ſ t+1+ſ l:=by
 unfold cK
 split<;>simp only[List.length_append,Ä,List.length_nil]<;>omega
def gU(ws:List Wd):Nat:=(ws.map λl=>ſ l+1).sum
theorem zG:∀(ws:List Wd)(t:Wd),(ws.foldl cK t).length<=ſ t+gU ws
 | [],t=>by simp[gU]
 | w::r,t=>by
  have A:=zG r (cK t w);have B:=uE t w;rw[List.foldl_cons];unfold gU at A⊢;rw[Å,Æ];omega
theorem sg:∀s:List UInt8,gU (bV s)=ſ s+1
 | []=>rfl
 | c::r=>by
  have ih:=sg r;by_cases B:c=32
  .subst B;rw[ou];unfold gU at ih⊢;rw[Å,Æ,ih];simp;omega
  .cases A:bV r with
   | nil=>exact absurd A (kN r)
   | cons w ws=>
    rw[ow B A];rw[A]at ih;unfold gU at ih⊢;rw[Å,Æ]at ih⊢;simp only[Ä]at ih⊢;omega
theorem VB(ws k):gU (ws.take k)<=gU ws:=by
 have h:=congrArg gU (List.take_append_drop k ws);unfold gU at h⊢;rw[List.map_append,List.sum_append]at h;omega
theorem GL(s k):(gk ((ar s).take k)).length<=ſ s+1:=by grind [zG,ar,VB,gU,sg,gk]
theorem NL{w}(h:ſ w<=60000):(cI w).length<=60001:=by
 have A:=GL (w.drop 1) (ar (w.drop 1)).length;rw[List.take_length]at A;have B:(w.drop 1).length<=ſ w:=by simp
 unfold cI;omega
def Qi:dO->List Td
 | .loop _ acc=>acc
 | .args _ _ acc=>acc
 | _=>[]
theorem wV{w}(h:bb w=true):(ab w).size<=8:=by
 rw[<-aw];exact jd h
theorem ui{j K r}(h:PR j K r):(∀x∈Qi j,x.tx.size<=8)->∀m H u,r=.ok m H u->∀x∈H,x.tx.size<=8:=by
 have E:∀{a b:List Td},(∀x∈a,x.tx.size<=8)->(∀x∈b,x.tx.size<=8)->∀x∈a++b,x.tx.size<=8:=λC I x D=>by
  rcases Á.1 D with D|D
  .exact C x D
  .exact I x D
 have B:∀{y:Td}{b:List Td},y.tx.size<=8->(∀x∈b,x.tx.size<=8)->∀x∈y::b,x.tx.size<=8:=λJ I x D=>by
  rcases È.1 D with rfl|D
  .exact J
  .exact I x D
 have A:∀x∈([]:List Td),x.tx.size<=8:=λx D=>by cases D
 have G:(⟨#[]⟩:ByteArray).size<=8:=by decide
 induction h with
 | lev2 _ ih=>intro _ m H u e;exact ih A m H u e
 | levB=>intro _ m H u e;cases e
 | levO _ _ _ ih1 ih2=>intro _ m H u e;exact ih2 (ih1 A _ _ _ rfl) m H u e
 | lopE=>intro C m H u e;cases e;exact C
 | lopB=>intro _ m H u e;cases e
 | lopO _ _ ih1 ih2=>intro C m H u e;exact ih2 (B G (E C (ih1 A _ _ _ rfl))) m H u e
 | sinN=>intro _ m H u e;cases e
 | sPB=>intro _ m H u e;cases e
 | sPC _ ih=>intro _ m H u e;cases e;exact ih A _ _ _ rfl
 | sPX=>intro _ m H u e;cases e
 | sLB=>intro _ m H u e;cases e
 | sLO _ ih=>intro _ m H u e;cases e;exact B G (ih A _ _ _ rfl)
 | sNum=>intro _ m H u e;cases e;exact B G A
 | sName h=>intro _ m H u e;cases e;exact B (wV h) A
 | sCB=>intro _ m H u e;cases e
 | sCO h _ ih=>intro _ m H u e;cases e;exact B (wV h) (ih A _ _ _ rfl)
 | sBad=>intro _ m H u e;cases e
 | aEnd=>intro C m H u e;cases e;exact C
 | aSep=>intro _ m H u e;cases e
 | aB0=>intro _ m H u e;cases e
 | aO0 _ _ _ ih1 ih2=>intro C m H u e;exact ih2 (E C (ih1 A _ _ _ rfl)) m H u e
 | aB=>intro _ m H u e;cases e
 | aO _ _ _ ih1 ih2=>intro C m H u e;exact ih2 (E C (ih1 A _ _ _ rfl)) m H u e
structure ir(b:Nat)(A:Option Addr)(c:Nat)(ws:List Wd)(w:World)(q:Nat)(bad:Bool)(acc:List (List Td))(v:Value)(wr:World):Prop where
 le:q<=ſ ws
 len:ſ acc<=q+1
 ln0:bad=À->ſ acc<=q
 last:bad=À->fP ws q=true->∃init x,acc=init++[[x]]/\x.tx.size<=60002*q
 o:bR (b+1) v acc wr
 rd:Rd wr b A c ws q bad
 bt:ak w b w wr
 ok:bad=À->∀r,PG (fP ws q) acc (ws.drop q) r->PG À [] ws r
 bd:bad=true->PG À [] ws (.bad (ws.drop q))
 tx:bad=À->∀t∈acc,∀x∈t,x.tx.size<=60002*(q+1)
theorem Lp{b A c ws w}(h:Rd w b A c ws 0 À):ir b A c ws w 0 À [] (.slice none 0 0) w:=
 ⟨Nat.zero_le _,by simp,λ_=>by simp,(λ_ h=>by cases h),bR.nil _ _,h,ak.refl _ _ _,λ_ r B=>B,(λh=>by cases h),λ_ t C=>by cases C⟩
theorem tz{ws q}(A:q<ſ ws):fP ws (q+1)=(ws[q].headD 0==35):=by
 show((ws.getD q []).headD 0==35)=_
 rw[List.getD_eq_getElem?_getD,Ã A];rfl
theorem MJ{b A c ws}{w:World}{q D v V wr R}(P:ir b A c ws w q À D v wr)(S:q<ſ ws)(J:ws[q].headD 0=35)(N:ws[q].length<=60000)
  (X:bR (b+1) V (gg (fP ws q) D (cI ws[q])) R) (Y:Rd R b A c ws (q+1) À) (W:ak w b w R):ir b A c ws w (q+1) À (gg (fP ws q) D (cI ws[q])) V R:=by
 have M:fP ws (q+1)=true:=by rw[tz S,J];rfl
 have O:=P.ln0 rfl;have L:=NL N
 have K:(gg (fP ws q) D (cI ws[q])).length<=q+1:=by
  unfold gg
  split
  .rename_i H;obtain⟨B,x,rfl,_⟩:=P.last rfl H;simp at O⊢;omega
  .simp;omega
 refine⟨by omega,by omega,λ_=>K,λ_ _=>?_,X,Y,W,λ_ r U=>?_,(λh=>by cases h),λ_=>?_⟩
 .unfold gg;cases H:fP ws q with
  | true=>
   obtain⟨B,x,rfl,I⟩:=P.last rfl H;refine⟨B,gL (cK (iF (B++[[x]])) (cI ws[q])),by simp,?_⟩;have e:iF (B++[[x]])=ae x.tx:=by simp[iF]
   rw[e];have C:=uE (ae x.tx) (cI ws[q]);rw[aw]at C
   show(ab _).size<=_
   rw[cg];omega
  | false=>
   refine⟨D,gL (cI ws[q]),by simp,?_⟩
   show(ab _).size<=_
   rw[cg];omega
 .refine P.ok rfl r ?_;rw[List.drop_eq_getElem_cons S];rw[M]at U;exact .note J U
 .have G:∀t∈D,∀x∈t,x.tx.size<=60002*(q+1+1):=λt L x I=>by
   have:=P.tx rfl t L x I
   omega
  have E:∀y:Wd,ſ y<=60002*(q+1+1)->∀t∈[[gL y]],∀x∈t,x.tx.size<=60002*(q+1+1):=λy Z t L x I=>by
   rw[Â]at L;subst L;rw[Â]at I;subst I
   show(ab y).size<=_
   rw[cg];exact Z
  intro t C;unfold gg at C;cases H:fP ws q with
  | true=>
   rw[H,if_pos rfl]at C;rcases Á.1 C with C|C
   .exact G t (List.dropLast_subset _ C)
   .refine E _ ?_ t C;obtain⟨B,x,rfl,I⟩:=P.last rfl H;have e:iF (B++[[x]])=ae x.tx:=by simp[iF]
    rw[e];have C:=uE (ae x.tx) (cI ws[q]);rw[aw]at C;omega
  | false=>
   rw[H]at C;rcases Á.1 (show t∈D++[[gL (cI ws[q])]]from C)with C|C
   .exact G t C
   .exact E _ (by omega) t C
theorem uh{b A c ws}{w:World}{q q2 C B v H wr E}(G:ir b A c ws w q À C v wr)(N:q<=q2)(I:q2<=ſ ws)(O:ſ B<=ſ C+1)
  (K:PG (fP ws q) C (ws.drop q) (.bad (ws.drop q2))) (L:bR (b+1) H B E) (M:Rd E b A c ws q2 true) (J:ak w b w E):ir b A c ws w q2 true B H E:=by
 have D:=G.ln0 rfl;exact⟨I,by omega,(λh=>by cases h),(λh=>by cases h),L,M,J,(λh=>by cases h),(λ_=>G.ok rfl _ K),(λh=>by cases h)⟩
theorem BD{ws k s}(h:ws[k]?=some s):dy ws k À s=k+1/\dx ws k À s=false:=by
 unfold dy dx;rw[h];simp
theorem Ha{ws k s}(h:ws[k]?≠some s):dy ws k À s=k/\dx ws k À s=true:=by
 unfold dy dx
 have:(ws[k]?==some s)=false:=by simpa using h
 rw[this];simp
theorem ID{b A c ws}{w:World}{q i B v s wr w3 w4 j x r l v4}(k:ir b A c ws w q À B v wr)(Z:q<=i)(hq:i<=ſ ws)(U:x.tx.size<=8)
  (g:gq b A c ws (.level 0) i w3 r l v4 w4)
  (hB:∀u,PR (.level 0) (ws.drop i) (.bad u)->PG (fP ws q) B (ws.drop q) (.bad u)) (hX:∀m f u,PR (.level 0) (ws.drop i) (.ok m f u)->u.head?≠some [59]->PG (fP ws q) B (ws.drop q) (.bad u))
  (P:∀m f u r,PR (.level 0) (ws.drop i) (.ok m f ([59]::u))->PG À (B++[x::f]) u r->PG (fP ws q) B (ws.drop q) r)
  (z:Rd j b A c ws (dy ws (ſ ws-ſ r.rest) r.isBad [59]) (dx ws (ſ ws-ſ r.rest) r.isBad [59])) (p:bR (b+1) s (B++[x::l]) j) (o:ak w b w j):
  ir b A c ws w (dy ws (ſ ws-ſ r.rest) r.isBad [59]) (dx ws (ſ ws-ſ r.rest) r.isBad [59]) (B++[x::l]) s j/\
  2*(ſ ws-dy ws (ſ ws-ſ r.rest) r.isBad [59])+(if dx ws (ſ ws-ſ r.rest) r.isBad [59]then 0 else 1)<2*(ſ ws-q)+1:=by
 have S:=il g.pr;have V:=qU S.1;have W:=g.n;rw[dE hq]at W;have d:=k.ln0 rfl;have Y:(B++[x::l]).length=ſ B+1:=by simp
 cases r with
 | bad u=>
  simp only[Rs.rest,Rs.isBad,dy,dx,Bool.not_true,Bool.false_and,Ç,if_false,Bool.not_false,if_true]at *;refine⟨uh k (by omega) (by omega) (by omega) ?_ p z o,by omega⟩;rw[V];exact hB u g.pr
 | ok m f u=>
  have X:=g.e m f u rfl;subst X;have R:ſ f+ſ u<=ſ ws-i:=W;have E:ws.drop (ſ ws-ſ u)=u:=V;have C:Rd j b A c ws (dy ws (ſ ws-ſ u) À [59]) (dx ws (ſ ws-ſ u) À [59]):=z;show ir b A c ws w (dy ws (ſ ws-ſ u) À [59]) (dx ws (ſ ws-ſ u) À [59]) (B++[x::f]) s j/\2*(ſ ws-dy ws (ſ ws-ſ u) À [59])+(if dx ws (ſ ws-ſ u) À [59]then 0 else 1)<2*(ſ ws-q)+1;have K:ws[ſ ws-ſ u]?=u.head?:=by rw[<-mF,E]
  by_cases H:u.head?=some ([59]:Wd)
  .obtain⟨M,N⟩:=BD (K.trans H);rw[M,N]at C⊢
   obtain⟨D,rfl⟩:∃D,u=[59]::D:=by
    cases u with
    | nil=>simp at H
    | cons a D=>
     have:a=[59]:=by simpa using H
     exact⟨D,by rw[this]⟩
   simp only[Ä]at R C E K⊢;have I:ſ ws-(ſ D+1)<ſ ws:=by omega
   have J:fP ws (ſ ws-(ſ D+1)+1)=false:=by
    rw[tz I];have O:ws[ſ ws-(ſ D+1)]?=some [59]:=by rw[K];rfl
    rw[Ã I]at O;rw[Option.some.inj O];rfl
   have Q:ws.drop (ſ ws-(ſ D+1)+1)=D:=by
    rw[<-List.drop_drop,E];rfl
   refine⟨⟨by omega,by omega,λ_=>by omega,(λ_ h=>by rw[J]at h;cases h),p,C,o,λ_ r hr=>?_,(λh=>by cases h),λ_ t G y L=>?_⟩,by simp only[Ç,if_false];omega⟩
   .rw[J,Q]at hr;exact k.ok rfl r (P m f D r g.pr hr)
   .rcases Á.1 G with G|G
    .have:=k.tx rfl t G y L
     omega
    .rw[Â]at G;subst G
     have O:y.tx.size<=8:=by
      rcases È.1 L with rfl|L
      .exact U
      .exact ui g.pr (λx a=>by cases a) _ _ _ rfl y L
     omega
  .obtain⟨M,N⟩:=Ha (show ws[ſ ws-ſ u]?≠some [59] by rw[K];exact H);rw[M,N]at C⊢;refine⟨uh k (by omega) (by omega) (by omega) ?_ p C o,by simp only[if_true];omega⟩;rw[E];exact hX m f u g.pr H
