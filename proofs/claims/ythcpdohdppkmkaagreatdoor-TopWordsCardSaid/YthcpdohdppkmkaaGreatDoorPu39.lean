import Derived.Test.YthcpdohdppkmkaaGreatDoorPu38
import Derived.Test.YthcpdohdppkmkaaGreatDoorPu36
import Derived.Test.YthcpdohdppkmkaaGreatDoorPu34
import Derived.LaidEql
import Derived.Stop.Asserts
import Derived.RowKitTokens
import Derived.Test.YthcpdohdppkmkaaGreatDoorRows
import Derived.ChangeSame
import Derived.ChangeVars
import Derived.RowKit
import Derived.LaidLaws
import Derived.LaidHandle
import Derived.Stop.Joined
open Go.Proofs.Tryz
namespace Go.Proofs.YthcpdohdppkmkaaGreatDoor
open Go Go.RowKit
theorem q6h(l:List UInt8):(wbS l).size=l.length:=by rw[<-q0b];rfl
def pgE(t:List Td):Int:=if opT t=9 then 0 else if 400<(q0n t).N.length then 3 else 0
theorem z2r{t:List Td}{wd:Int}(hw:¬(wd<10\/100<wd))(h:q0d t=0):z5m t wd=pgE t:=by
 rw[z5m,if_neg hw,if_neg (by simp[h])];rfl
theorem j1e{t:List Td}(h9:opT t=9):pgE t=0:=by rw[pgE,if_pos h9]
theorem k7c{t:List Td}(h:q0d t=0)(h9:opT t≠9):pgE t=q7s t:=by
 have e:q7s t=if opT t=9 then 2 else if 400<(q0n t).N.length then 3 else 0:=by rw[q7s,if_neg (by simp[h])]
 rw[e,if_neg h9,pgE,if_neg h9]
def j3i(t:List Td)(wd:Int):ByteArray:=if z5m t wd=0 then wbS (q4r wd.toNat t)else⟨#[]⟩
def fmE:List (List Td)->Int
 | []=>0
 | t::r=>if pgE t≠0 then pgE t else fmE r
theorem q4o{t:List Td}{r:List (List Td)}(h:pgE t=0):fmE (t::r)=fmE r:=by rw[fmE,if_neg (by simp[h])]
theorem z5a{t:List Td}{r:List (List Td)}(h:pgE t≠0):fmE (t::r)=pgE t:=by rw[fmE,if_pos h]
inductive q9v (s:ByteArray) (wd:Int):ByteArray->Int->Int->Prop where
 | range (h:wd<10\/100<wd):q9v s wd ⟨#[]⟩ 0 1
 | bad {ps k f} (h:¬(wd<10\/100<wd)) (hp:q2h s ps k f) (hf:f≠0):q9v s wd ⟨#[]⟩ k f
 | full {ps} (h:¬(wd<10\/100<wd)) (hp:q2h s ps 0 0) (hf:fmE ps≠0):q9v s wd ⟨#[]⟩ 0 (fmE ps)
 | ok {ps} (h:¬(wd<10\/100<wd)) (hp:q2h s ps 0 0) (hf:fmE ps=0):q9v s wd (wbS (q3k wd.toNat ps)) 0 0
theorem z0m{s t:ByteArray}{wd:Int}{ps:List (List Td)}(hs:q2h s ps 0 0)(ht:q2h t ps 0 0){a b:ByteArray}{k k' f f':Int}(ha:q9v s wd a k f)(hb:q9v t wd b k' f'):a=b/\k=k'/\f=f':=by
 cases ha with
 | range h=>cases hb with
  | range=>exact⟨rfl,rfl,rfl⟩
  | bad h'=>exact absurd h h'
  | full h'=>exact absurd h h'
  | ok h'=>exact absurd h h'
 | bad h hp hf=>exact absurd (q0k hp hs).2.2 hf
 | full h hp hf=>cases hb with
  | range h'=>exact absurd h' h
  | bad h' hp' hf'=>exact absurd (q0k hp' ht).2.2 hf'
  | full h' hp' hf'=>
   obtain⟨rfl,_⟩:=q0k hp hs;obtain⟨rfl,_⟩:=q0k hp' ht;exact⟨rfl,rfl,rfl⟩
  | ok h' hp' hf'=>
   obtain⟨rfl,_⟩:=q0k hp hs;obtain⟨rfl,_⟩:=q0k hp' ht;exact absurd hf' hf
 | ok h hp hf=>cases hb with
  | range h'=>exact absurd h' h
  | bad h' hp' hf'=>exact absurd (q0k hp' ht).2.2 hf'
  | full h' hp' hf'=>
   obtain⟨rfl,_⟩:=q0k hp hs;obtain⟨rfl,_⟩:=q0k hp' ht;exact absurd hf hf'
  | ok h' hp' hf'=>
   obtain⟨rfl,_⟩:=q0k hp hs;obtain⟨rfl,_⟩:=q0k hp' ht;exact⟨rfl,rfl,rfl⟩
theorem z9g{s:ByteArray}{wd:Int}{a b:ByteArray}{k k' f f':Int}(ha:q9v s wd a k f)(hb:q9v s wd b k' f'):a=b/\k=k'/\f=f':=by
 have key:∀{ps:List (List Td)},q2h s ps 0 0->a=b/\k=k'/\f=f':=fun hp=>z0m hp hp ha hb
 cases ha with
 | range h=>cases hb with
  | range=>exact⟨rfl,rfl,rfl⟩
  | bad h'=>exact absurd h h'
  | full h' hp' _=>exact key hp'
  | ok h' hp' _=>exact key hp'
 | bad h hp hf=>cases hb with
  | range h'=>exact absurd h' h
  | bad h' hp' hf'=>
   obtain⟨_,rfl,rfl⟩:=q0k hp hp';exact⟨rfl,rfl,rfl⟩
  | full h' hp' _=>exact key hp'
  | ok h' hp' _=>exact key hp'
 | full h hp hf=>exact key hp
 | ok h hp hf=>exact key hp
theorem q2g{s:ByteArray}{ps:List (List Td)}{k:Int}(h:q2h s ps k 0):k=0/\(q0q ps).2=0/\ps.length<=20/\∀t∈ps,q0d t=0:=by
 generalize hz:(0:Int)=z at h;cases h with
 | lex h1=>exact absurd hz.symm h1
 | bad=>cases hz
 | full _ _ h1=>exact absurd hz.symm h1
 | ok h1 h2 h3=>exact⟨rfl,h3,(q2y h3).1,q9p _ _ (q2y h3).2⟩
theorem k9x(wd:Nat):∀(n:Nat)(ws:List ByteArray),ws.length<=n->Few ws->∀l∈q3f wd ws,l.size<=1260
 | 0,ws,h,hF,l,hl=>by
  have:ws=[]:=List.eq_nil_of_length_eq_zero (by omega)
  subst this;rw[q5z]at hl;cases hl
 | n+1,ws,h,hF,l,hl=>by
  by_cases h0:ws=[]
  ·subst h0;rw[q5z]at hl;cases hl
  ·have hp:=q9f wd h0;rw[q5y wd h0]at hl;rcases List.mem_cons.1 hl with rfl|hl
   ·rw[j0b];exact(hF.take _).ln
   ·exact k9x wd n (ws.drop (agF wd ws)) (by simp only[List.length_drop];omega) (hF.drop _) l hl
abbrev ntF(l:ByteArray):List UInt8:=35::32::(btL l++[10])
theorem j8j{f:ByteArray->List UInt8}{b:Nat}:∀(ls:List ByteArray),(∀l∈ls,(f l).length<=b)->(ls.flatMap f).length<=ls.length*b
 | [],_=>by simp
 | l::r,h=>by
  have h1:=j8j r fun x hx=>h x (by simp[hx])
  have h2:=h l (by simp);rw[List.flatMap_cons,List.length_append,List.length_cons,Nat.add_mul];omega
theorem j0q{tx:ByteArray}(h:q3m tx=0):Few ((q0j (btL tx)).map wbS):=y1n h
theorem v0x{tx:ByteArray}(h:q3m tx=0)(wd:Nat):(ntL wd tx).length<=100000:=by
 have hF:=j0q h;rw[ntL]
 split
 ·simp
 ·have h1:=z0k (wd-2) _ ((q0j (btL tx)).map wbS) Zl
  have h2:=j8j (f:=ntF) (b:=1300) (q3f (wd-2) ((q0j (btL tx)).map wbS)) fun l hl=>by
   have:=k9x (wd-2) _ _ Zl hF l hl
   simp only[ntF,List.length_cons,List.length_append,List.length_nil,q0b];omega
  have h3:=hF.1
  show((q3f (wd-2) ((q0j (btL tx)).map wbS)).flatMap ntF).length<=100000
  have h4:(q3f (wd-2) ((q0j (btL tx)).map wbS)).length*1300<=60*1300:=Nat.mul_le_mul_right _ (by omega);omega
theorem y1w{t:List Td}(h:q7s t=0){ws:List Int}{r:List UInt8}(hs:(q0n t).show ws=.ok r):r.length<=2000000:=by
 obtain⟨h0,h9,hd,hl⟩:=k2q h;unfold Tr.show at hs
 split at hs
 ·cases hy:(q0n t).lay 0 ws with
  | error e=>rw[hy]at hs;cases hs
  | ok p=>
   obtain⟨r',ws'⟩:=p;rw[hy]at hs;have h1:=q7u _ 0 ws r' ws' (z0h h0 h9).w hy (by omega);cases ws' with
   | nil=>
    cases hs;omega
   | cons a b=>cases hs
 ·cases hs
theorem y4r{t:List Td}(h:q7s t=0)(wd:Nat):(dcL wd t).length<=2000001:=by
 obtain⟨u,_,e,hs,_⟩:=j0u (t:=t) wd
 have:=y1w h hs
 rw[e,List.length_append];simp only[List.length_cons,List.length_nil];omega
theorem k3s{t:List Td}(h:q0d t=0)(h9:opT t=9)(wd:Nat):q4r wd t=ntL wd (txT t):=by
 obtain⟨x,rfl,ho,_⟩:=z5l h h9;rw[q4r,if_pos ho];rfl
theorem k0c{t:List Td}(h:q0d t=0)(h9:opT t≠9)(wd:Nat):q4r wd t=dcL wd t:=by
 cases t with
 | nil=>exact absurd h (by decide)
 | cons x r=>exact if_neg (show ¬x.op=9 from h9)
theorem k0e{t:List Td}(h:q0d t=0)(hp:pgE t=0)(wd:Nat):(q4r wd t).length<=2000001:=by
 by_cases h9:opT t=9
 ·rw[k3s h h9];obtain⟨x,rfl,_,hf,_⟩:=z5l h h9
  have:=v0x hf wd
  show(ntL wd x.tx).length<=2000001
  omega
 ·rw[k0c h h9];exact y4r (by rw[<-k7c h h9];exact hp) wd
theorem k6c(wd:Nat):∀ps:List (List Td),(∀t∈ps,q0d t=0)->fmE ps=0->(q3k wd ps).length<=ps.length*2000001
 | [],_,_=>by simp[q3k]
 | t::r,h,hf=>by
  have hp:pgE t=0:=by
   rcases Classical.em (pgE t=0)with e|e
   ·exact e
   ·rw[z5a e]at hf;exact hf
  rw[q4o hp]at hf;have h1:=k6c wd r (fun x hx=>h x (by simp[hx])) hf;have h2:=k0e (h t (by simp)) hp wd;have e:q3k wd (t::r)=q4r wd t++q3k wd r:=by simp[q3k]
  rw[e,List.length_append,List.length_cons,Nat.add_mul];omega
set_option maxRecDepth 100000
set_option maxHeartbeats 2000000
inductive z6k (a b:ByteArray):Bool->Int->Prop where
 | badA {ps k f} (hp:q2h a ps k f) (hf:f≠0):z6k a b false f
 | badB {ps k qs k' f} (hp:q2h a ps k 0) (hq:q2h b qs k' f) (hf:f≠0):z6k a b false f
 | ok {ps k qs k' r} (hp:q2h a ps k 0) (hq:q2h b qs k' 0) (hr:r=true↔ps=qs):z6k a b r 0
abbrev g6l:Prop:=∀(a b:ByteArray)(w:World),q5u w->Calls prog 16 #[.string a,.string b] w fun e w'=>∃r f,e=.returned (.tuple #[.bool r,q0s f])/\z6k a b r f/\Below w w w'
theorem z7q:g6l:=by
 intro a b w ht;have HSY:Hid (∀(W:World)(s:ByteArray),Below w w W->Calls prog 20 #[.string s] W fun e w'=>∃ps k f A c,e=.returned (.tuple #[.slice A ps.length c,.int .i64 k,q0s f])/\q2h s ps k f/\Prg w' A ps/\ps.length<=c/\Below W W w'):=fun W s h=>q4g s W (ht.W h)
 clear ht;go_in;go_wp2_with fail;refine(HSY.o _ _ Zb).mono ?_;rintro e w1⟨ps,k,f,A,c,rfl,hR,hQ,_,b1⟩;have HB1:Hid (Below w w w1):=b1;have HR:Hid (q2h a ps k f):=hR;have HQ:Hid (Prg w1 A ps):=hQ;clear b1 hR hQ;by_cases hf:f=0
 ·subst hf;have hl20:=(q2g HR.o).2.2.1;have hl40:=(v8w HR.o).2;have HL:Hid (ps.length<=4611686018427387904):=by show ps.length<=_;omega
  have HLP:Hid (∀t∈ps,t.length<=4611686018427387904):=fun t ht=>by have:=hl40 t ht;omega
  rw[q0e];clear hl20 hl40;generalize hnp:ps.length=np;have HNP:Hid (ps.length=np):=hnp;clear hnp;go_wp2_with fail;refine(HSY.o _ _ HB1.o).mono ?_;rintro e w2⟨qs,k2,f2,A2,c2,rfl,hR2,hQ2,_,b2⟩;have HB2:Hid (Below w w w2):=q0c HB1.o Zl b2;have HR2:Hid (q2h b qs k2 f2):=hR2;by_cases hf2:f2=0
  ·subst hf2
   obtain⟨r,hr⟩:∃r:Bool,r=true↔ps=qs:=by
    by_cases h:ps=qs
    ·exact⟨true,by simp[h]⟩
    ·exact⟨false,by simp[h]⟩
   have HRR:Hid (r=true↔ps=qs):=hr
   have HE:Hid (Calls prog 44 #[.slice A np c,.slice A2 qs.length c2,.func (.func 45) #[] #[]] w2 fun e w'=>e=.returned (.bool r)/\∃q,w'=w2.drewN q):=by
    have h9:=y5a ps qs A A2 c c2 HL.o HLP.o r hr w2 (HQ.o.W b2) hQ2;rw[HNP.o]at h9;exact h9
   rw[q0e];clear hR2 hQ2 b2 hr HLP HL HQ;generalize qs.length=nq at HE⊢;go_wp2_with fail;refine HE.o.mono ?_;rintro e w3⟨rfl,q,rfl⟩;go_wp2;go_ret2;exact⟨r,0,by rw[q0e];rfl,.ok HR.o HR2.o HRR.o,q5n HB2.o q⟩
  ·have HF2:Hid (f2≠0):=hf2;rw[q0f hf2];clear hR2 hQ2 b2 HLP HL HQ hf2;generalize qs.length=nq;go_wp2;go_ret2;exact⟨false,f2,by rw[q0f HF2.o];rfl,.badB HR.o HR2.o HF2.o,HB2.o⟩
 ·have HF:Hid (f≠0):=hf;rw[q0f hf];clear hf HQ;generalize ps.length=np;go_wp2;go_ret2;exact⟨false,f,by rw[q0f HF.o];rfl,.badA HR.o HF.o,HB1.o⟩
theorem z5b{s:ByteArray}{wd:Int}{T:ByteArray}{k:Int}(h:q9v s wd T k 0):∃ps,q2h s ps 0 0/\q2h T ps 0 0:=by
 generalize hz:(0:Int)=z at h;cases h with
 | range=>cases hz
 | bad _ _ hg=>exact absurd hz.symm hg
 | full _ _ hg=>exact absurd hz.symm hg
 | ok _ hp _=>exact⟨_,hp,(v6p hp _).2⟩
theorem y2s{t:List Td}(h:q0d t=0):q0q [t]=(0,0):=by
 rw[q0q,if_neg (by simp),q5e,if_neg (by simp[h]),if_neg (by simp)];rfl
set_option maxHeartbeats 8000000
def fyA:List Td:=[⟨8,⟨#[]⟩,0⟩,⟨2,⟨#[97]⟩,0⟩]
abbrev fyI:ByteArray:=⟨#[97,59]⟩
abbrev fyJ:ByteArray:=⟨#[40,32,97,32,41,32,59]⟩
theorem j8q:(q0q [fyA]).2=0:=by decide +kernel
theorem y5g:q2h fyI [fyA] 0 0:=by
 refine .ok (by decide +kernel) ?_ j8q;have h:=q8s [fyA] 0 false [] (q2y j8q).2 (fun h=>by cases h);have e:[fyA].flatMap q5l=q1d (btL fyI):=by decide +kernel
 rw[e]at h;exact h
theorem v6v:q2h fyJ [fyA] 0 0:=by
 refine .ok (by decide +kernel) ?_ j8q;have e:q1d (btL fyJ)=[[40],[97],[41],[59]]:=by decide +kernel
 rw[e]
 have h1:PR (.level 0) [[97],[41],[59]] (.ok 0 [nmT [97]] [[41],[59]]):=
  .levO (by decide) (.levO (by decide) (.lev2 (.sName (by decide) (by decide))) (.lopE (by decide))) (.lopE (by decide))
 have h2:PR (.level 0) [[40],[97],[41],[59]] (.ok 0 [nmT [97]] [[59]]):=
  .levO (by decide) (.levO (by decide) (.lev2 (.sPC h1)) (.lopE (by decide))) (.lopE (by decide))
 exact .doO (by decide) (by decide) h2 .done
theorem z1e{a b:ByteArray}{r r':Bool}{f f':Int}(h:z6k a b r f)(h':z6k a b r' f'):r=r'/\f=f':=by
 cases h with
 | badA hp hf=>cases h' with
  | badA hp' hf'=>exact⟨rfl,(q0k hp hp').2.2⟩
  | badB hp' _ _=>exact absurd (q0k hp hp').2.2 hf
  | ok hp' _ _=>exact absurd (q0k hp hp').2.2 hf
 | badB hp hq hf=>cases h' with
  | badA hp' hf'=>exact absurd (q0k hp' hp).2.2 hf'
  | badB hp' hq' _=>exact⟨rfl,(q0k hq hq').2.2⟩
  | ok hp' hq' _=>exact absurd (q0k hq hq').2.2 hf
 | ok hp hq hr=>cases h' with
  | badA hp' hf'=>exact absurd (q0k hp' hp).2.2 hf'
  | badB hp' hq' hf'=>exact absurd (q0k hq' hq).2.2 hf'
  | ok hp' hq' hr'=>
   obtain⟨rfl,_⟩:=q0k hp hp';obtain⟨rfl,_⟩:=q0k hq hq';exact⟨by rw[Bool.eq_iff_iff,hr,hr'],rfl⟩
theorem k0j{a b:ByteArray}{r:Bool}(h:z6k a b r 0):∃ps qs,q2h a ps 0 0/\q2h b qs 0 0/\(r=true↔ps=qs):=by
 generalize hz:(0:Int)=z at h;cases h with
 | badA _ hf=>exact absurd hz.symm hf
 | badB _ _ hf=>exact absurd hz.symm hf
 | @ok ps k qs k' _ hp hq hr=>
  obtain⟨rfl,_⟩:=q2g hp;obtain⟨rfl,_⟩:=q2g hq;exact⟨ps,qs,hp,hq,hr⟩
theorem k0i{a b:ByteArray}{r:Bool}{f:Int}(h:z6k a b r f)(hf:f≠0):r=false:=by
 cases h with
 | badA=>rfl
 | badB=>rfl
 | ok=>exact absurd rfl hf
theorem v2d{r:Bool}{f:Int}(h:z6k fyI fyJ r f):r=true/\f=0:=z1e h (.ok y5g v6v (by simp))
theorem v2e{s:ByteArray}{r:Bool}(h:z6k s s r 0):r=true:=by
 obtain⟨ps,qs,hp,hq,hr⟩:=k0j h;exact hr.2 (q0k hp hq).1
theorem k4a{s t:ByteArray}{x:Bool}(h:z6k s t x 0):z6k t s x 0:=by
 obtain⟨ps,qs,hp,hq,hr⟩:=k0j h;exact .ok hq hp (by rw[hr];exact eq_comm)
theorem v9g{s t:ByteArray}{x y:Bool}{f g:Int}(h:z6k s t x f)(h':z6k t s y g):(f=0↔g=0)/\x=y:=by
 by_cases hf:f=0
 ·subst hf;obtain⟨rfl,rfl⟩:=z1e (k4a h) h';exact⟨Iff.rfl,rfl⟩
 ·by_cases hg:g=0
  ·subst hg;exact absurd (z1e (k4a h') h).2.symm hf
  ·exact⟨⟨fun e=>absurd e hf,fun e=>absurd e hg⟩,by rw[k0i h hf,k0i h' hg]⟩
theorem y7x{s t u:ByteArray}{x z v:Bool}{f:Int}(h1:z6k s t x 0)(h2:z6k t u z 0)(h3:z6k s u v f):f=0/\(x=true->z=v):=by
 obtain⟨ps,qs,a1,a2,a3⟩:=k0j h1;obtain⟨qs',rs,b1,b2,b3⟩:=k0j h2;obtain⟨rfl,_⟩:=q0k a2 b1;by_cases hf:f=0
 ·subst hf;refine⟨rfl,fun hx=>?_⟩;have e:=a3.1 hx;subst e;exact(z1e (.ok a1 b2 b3) h3).1
 ·obtain⟨r,hr⟩:∃r:Bool,r=true↔ps=rs:=by
   by_cases h:ps=rs
   ·exact⟨true,by simp[h]⟩
   ·exact⟨false,by simp[h]⟩
  exact absurd (z1e (.ok a1 b2 hr) h3).2.symm hf
theorem z9p(s t u:ByteArray)(w:World)(ht:q5u w):
  Calls prog 8 #[.string s,.string t,.string u] w fun e w'=>e=.returned (.bool true)/\Below w w w':=by
 have HS:Hid (∀(W:World)(a b:ByteArray),Below w w W->Calls prog 16 #[.string a,.string b] W fun e w'=>∃r f,e=.returned (.tuple #[.bool r,q0s f])/\z6k a b r f/\Below W W w'):=fun W a b h=>z7q a b W (ht.W h)
 clear ht;go_in;go_wp2_with fail;refine(HS.o _ _ _ Zb).mono ?_;rintro e w1⟨r0,f0,rfl,h0,b1⟩;obtain⟨rfl,rfl⟩:=v2d h0;rw[q0e];have HB1:Hid (Below w w w1):=b1;clear b1 h0;go_wp2_with fail;refine(HS.o _ _ _ HB1.o).mono ?_;rintro e w2⟨r1,f1,rfl,h1,b2⟩;have HB2:Hid (Below w w w2):=q0c HB1.o Zl b2;clear b2 HB1;rcases Classical.em (f1=0)with hf1|hf1
 case' inl=>
  subst hf1;obtain rfl:=v2e h1;rw[q0e]
 case' inr=>
  obtain rfl:=k0i h1 hf1;rw[q0f hf1];clear hf1
 all_goals
  clear h1;go_wp2_with fail;refine(HS.o _ _ _ HB2.o).mono ?_;rintro e w3⟨x,f3,rfl,h3,b3⟩;have HB3:Hid (Below w w w3):=q0c HB2.o Zl b3;have H3:Hid (z6k s t x f3):=h3;clear b3 HB2 h3;go_wp2_with fail;refine(HS.o _ _ _ HB3.o).mono ?_;rintro e w4⟨y,f4,rfl,h4,b4⟩;have HB4:Hid (Below w w w4):=q0c HB3.o Zl b4;obtain⟨hfg,rfl⟩:=v9g H3.o h4;clear b4 HB3 h4;by_cases hf3:f3=0
  ·subst hf3;obtain rfl:=hfg.1 rfl;rw[q0e];clear hfg;have hxx:(x != x)=false:=by simp
   go_wp2_with fail
   go_quiet (fail)
   go_wp2_with fail;refine(HS.o _ _ _ (q5n HB4.o _)).mono ?_;rintro e w5⟨z,f5,rfl,h5,b5⟩;have HB5:Hid (Below w w w5):=q0c (q5n HB4.o _) Zl b5;have H5:Hid (z6k t u z f5):=h5;clear b5 HB4 h5 hxx;go_wp2_with fail;refine(HS.o _ _ _ HB5.o).mono ?_;rintro e w6⟨v,f6,rfl,h6,b6⟩;have HB6:Hid (Below w w w6):=q0c HB5.o Zl b6;by_cases hf5:f5=0
   ·subst hf5;obtain⟨rfl,hzv⟩:=y7x H3.o H5.o h6;rw[q0e];clear h6 b6 H3 H5 HB5;cases x with
    | false=>
     clear hzv;go_wp2;go_ret;exact⟨rfl,HB6.o⟩
    | true=>
     obtain rfl:=hzv rfl;have hzz:(z==z)=true:=by simp
     clear hzv;go_wp2;go_ret;exact⟨rfl,HB6.o⟩
   ·rw[q0f hf5];clear h6 b6 H3 H5 HB5 hf5;go_wp2;go_ret;exact⟨rfl,HB6.o⟩
  ·have hf4:f4≠0:=fun e=>hf3 (hfg.2 e)
   obtain rfl:=k0i H3.o hf3;rw[q0f hf3,q0f hf4];clear hfg hf3 hf4 H3;go_wp2_with fail
   go_quiet (fail)
   go_wp2_with fail;refine(HS.o _ _ _ (q5n HB4.o _)).mono ?_;rintro e w5⟨z,f5,rfl,h5,b5⟩;have HB5:Hid (Below w w w5):=q0c (q5n HB4.o _) Zl b5;clear b5 HB4 h5;go_wp2_with fail;refine(HS.o _ _ _ HB5.o).mono ?_;rintro e w6⟨v,f6,rfl,h6,b6⟩;have HB6:Hid (Below w w w6):=q0c HB5.o Zl b6;clear h6 b6 HB5;go_wp2;go_ret;exact⟨rfl,HB6.o⟩
end Go.Proofs.YthcpdohdppkmkaaGreatDoor
namespace Go.Proofs.YthcpdohdppkmkaaGreatDoor
open Go Go.RowKit Go.Extern.Stop Go.Stop Go.Extern
set_option maxRecDepth 100000
set_option maxHeartbeats 4000000
theorem Tryz.valueOfP(t:Addr)(w:World):(ReflectliteValue.unpack (.iface 154 (.pointer (some t)))).run prog w
  =.ok (.agg #[.pointer (some ⟨12,154,none⟩),.pointer (some ⟨w,0,none⟩),.int .u64 150]) (w.alloc (.cells #[.pointer (some t)] 154)):=by kernel_rfl
theorem Tryz.typeP (a : Addr) (w : World) : (ReflectliteValue.methodAny (ReflectliteValue.valueError "reflectlite.Value.Type" 0) (fun t _ _ _ => ReflectliteType.toType t) #[.agg #[.pointer (some ⟨12, 154, none⟩), .pointer (some a), .int .u64 150]]).run prog w
  =.ok (.iface 268 (.agg #[.pointer (some ⟨12,154,none⟩)])) w:=by kernel_rfl
theorem Tryz.methodKind (h : Value) (w : World) : (Go.method 503 268 (.agg #[h]) "Kind").run prog w = .ok (300, h) w := by kernel_rfl
theorem Tryz.kindP(w:World):((ReflectliteType.abiMethod fun t=>(fun a:Nat=>Value.int IntKind.u8 (a:Int)) <$> Rtype.kind t) #[.pointer (some ⟨12,154,none⟩)]).run prog w=.ok (.int .u8 22) w:=by kernel_rfl
theorem Tryz.kindE(w:World):((ReflectliteType.abiMethod fun t=>(fun a:Nat=>Value.int IntKind.u8 (a:Int)) <$> Rtype.kind t) #[.pointer (some ⟨12,22,none⟩)]).run prog w=.ok (.int .u8 2) w:=by kernel_rfl
theorem v2b(z:Sem Value)(f:TypeId->Addr->Nat->Nat->Sem Value)(v:Value):
  ∃K:Option (TypeId × Addr × Nat)->Sem Value,ReflectliteValue.method z f #[v]=(ReflectliteValue.parts v >>=K)/\∀t a fl,K (some (t,a,fl))=f t a fl (fl % 32):=⟨_,rfl,fun _ _ _=>rfl⟩
theorem z1b{P:Program}{z:Sem Value}{f:TypeId->Addr->Nat->Nat->Sem Value}{v:Value}{W:World}{t:TypeId}{a:Addr}{fl:Nat}
  (h:(ReflectliteValue.parts v).run P W=.ok (some (t,a,fl)) W):(ReflectliteValue.method z f #[v]).run P W=(f t a fl (fl % 32)).run P W:=by
 obtain⟨K,e,hK⟩:=v2b z f v;rw[e];simp[Sem.run_bind,h,Result.andThen,hK]
theorem g2q(v x:Value):
  ∃K:Option (TypeId × Addr × Nat)->Option (TypeId × Addr × Nat)->Sem Value,ReflectliteValue.set #[v,x]=(ReflectliteValue.parts v >>=fun p=>ReflectliteValue.parts x >>=fun q=>K p q)/\
   ∀(P:Program)(W W1:World)(dst src:TypeId)(a b:Addr)(fl g:Nat)(val:Value),(fl / ReflectliteValue.flagAddr % 2==0)=false->(loadVar src b).run P W=.ok val W->(Rtype.directlyAssignable dst src).run P W=.ok true W->
    (storeVar dst a val).run P W=.ok () W1->(K (some (dst,a,fl)) (some (src,b,g))).run P W=.ok (.tuple #[]) W1:=by
 refine⟨_,rfl,?_⟩;intro P W W1 dst src a b fl g val h1 h2 h3 h4;simp[h1,h2,h3,h4,Sem.run_bind,Result.andThen]
theorem Tryz.partsP(a:Addr)(w:World):(ReflectliteValue.parts (.agg #[.pointer (some ⟨12,154,none⟩),.pointer (some a),.int .u64 150])).run prog w=.ok (some (154,a,150)) w:=by kernel_rfl
theorem Tryz.isNilP(a p:Addr)(W:World)(ha:W.cell? a=some (.pointer (some p))):
  (ReflectliteValue.method (ReflectliteValue.valueError "reflectlite.Value.IsNil" 0) ReflectliteValue.isNil #[.agg #[.pointer (some ⟨12, 154, none⟩), .pointer (some a), .int .u64 150]]).run prog W = .ok (.bool false) W := by
 rw[z1b (Tryz.partsP a W)];simp[ReflectliteValue.isNil,loadVar,isAgg,underlying,Tryz.underlying154,ha,Result.andThen]
theorem Tryz.methodElem (h : Value) (w : World) : (Go.method 503 268 (.agg #[h]) "Elem").run prog w = .ok (311, .agg #[h]) w := by kernel_rfl
theorem Tryz.methodImplements (h : Value) (w : World) : (Go.method 503 268 (.agg #[h]) "Implements").run prog w = .ok (312, .agg #[h]) w := by kernel_rfl
theorem Tryz.methodAssignableTo (h : Value) (w : World) : (Go.method 503 268 (.agg #[h]) "AssignableTo").run prog w = .ok (309, .agg #[h]) w := by kernel_rfl
theorem Tryz.elemP(w:World):(ReflectliteType.method ReflectliteType.elem #[.agg #[.pointer (some ⟨12,154,none⟩)]]).run prog w=.ok (.iface 268 (.agg #[.pointer (some ⟨12,22,none⟩)])) w:=by kernel_rfl
theorem Tryz.implementsE (w : World) : (ReflectliteType.relation "Implements" ReflectliteType.implements_ #[.agg #[.pointer (some ⟨12, 22, none⟩)], .iface 268 (.agg #[.pointer (some ⟨12, 31, none⟩)])]).run prog w = .ok (.bool true) w := by kernel_rfl
theorem Tryz.typeOfE(v:Value)(w:World):(ReflectliteType.typeOf #[.iface 22 v]).run prog w=.ok (.iface 268 (.agg #[.pointer (some ⟨12,22,none⟩)])) w:=by kernel_rfl
theorem Tryz.assignableE (w : World) : (ReflectliteType.relation "AssignableTo" ReflectliteType.assignableTo #[.agg #[.pointer (some ⟨12, 22, none⟩)], .iface 268 (.agg #[.pointer (some ⟨12, 22, none⟩)])]).run prog w = .ok (.bool true) w := by kernel_rfl
theorem Tryz.valueOfE(e:Int)(w:World):(ReflectliteValue.unpack (.iface 22 (.int .i64 e))).run prog w
  =.ok (.agg #[.pointer (some ⟨12,22,none⟩),.pointer (some ⟨w,0,none⟩),.int .u64 130]) (w.alloc (.cells #[.int .i64 e] 22)):=by kernel_rfl
theorem Tryz.elemOfP(w:World):(Rtype.elem? 154).run prog w=.ok (some 22) w:=by kernel_rfl
theorem Tryz.mkE(p:Addr)(w:World):(ReflectliteValue.mk 22 p ReflectliteValue.flagAddr).run prog w=.ok (.agg #[.pointer (some ⟨12,22,none⟩),.pointer (some p),.int .u64 386]) w:=by kernel_rfl
theorem Tryz.elemVP(a p:Addr)(W:World)(ha:W.cell? a=some (.pointer (some p))):
  (ReflectliteValue.method (ReflectliteValue.valueError "reflectlite.Value.Elem" 0) ReflectliteValue.elem #[.agg #[.pointer (some ⟨12, 154, none⟩), .pointer (some a), .int .u64 150]]).run prog W
   =.ok (.agg #[.pointer (some ⟨12,22,none⟩),.pointer (some p),.int .u64 386]) W:=by
 rw[z1b (Tryz.partsP a W)];simp[ReflectliteValue.elem,loadVar,isAgg,underlying,Tryz.underlying154,ha,Result.andThen,Tryz.elemOfP,Tryz.mkE]
theorem Tryz.partsEa(a:Addr)(w:World):(ReflectliteValue.parts (.agg #[.pointer (some ⟨12,22,none⟩),.pointer (some a),.int .u64 386])).run prog w=.ok (some (22,a,386)) w:=by kernel_rfl
theorem Tryz.partsE(a:Addr)(w:World):(ReflectliteValue.parts (.agg #[.pointer (some ⟨12,22,none⟩),.pointer (some a),.int .u64 130])).run prog w=.ok (some (22,a,130)) w:=by kernel_rfl
theorem Tryz.directE(w:World):(Rtype.directlyAssignable 22 22).run prog w=.ok true w:=by kernel_rfl
theorem Tryz.setE(ta b:Addr)(e:Int)(old:Value)(W:World)(hb:W.cell? b=some (.int .i64 e))(ht:W.cell? ta=some old)(hf:W.frozen? ta=false):
  (ReflectliteValue.set #[.agg #[.pointer (some ⟨12,22,none⟩),.pointer (some ta),.int .u64 386],.agg #[.pointer (some ⟨12,22,none⟩),.pointer (some b),.int .u64 130]]).run prog W
   =.ok (.tuple #[]) (W.setCell ta (.int .i64 e)):=by
 obtain⟨K,e1,hK⟩:=g2q (.agg #[.pointer (some ⟨12,22,none⟩),.pointer (some ta),.int .u64 386]) (.agg #[.pointer (some ⟨12,22,none⟩),.pointer (some b),.int .u64 130]);rw[e1];simp only[Sem.run_bind,Tryz.partsEa,Tryz.partsE,Result.andThen];refine hK prog W _ 22 22 ta b 386 130 (.int .i64 e) (by simp[ReflectliteValue.flagAddr]) ?_ (Tryz.directE W) ?_
 ·simp[loadVar,isAgg,underlying,Tryz.underlying22,hb,Result.andThen]
 ·simp[storeVar,Value.cells,storeCells,Addr.add,Result.andThen];rw[run_store prog W ta _ _ (by rfl)];simp[ht,hf]
theorem y9j(e:Int)(t:Addr)(old:Value)(w:World)(hg:w.cell? ⟨0,0,none⟩=some (.iface 268 (.agg #[.pointer (some ⟨12,31,none⟩)])))(ht0:w.cell? t=some old)(hf0:w.frozen? t=false):
  Calls prog 82 #[.iface 22 (.int .i64 e),.iface 154 (.pointer (some t))] w fun ev w'=>ev=.returned (.bool true)/\w'=((((w.alloc (.cells #[.pointer (some t)] 154)).alloc (.cells #[.pointer (some ⟨12,154,none⟩),.pointer (some ⟨w,0,none⟩),.int .u64 150] 222)).alloc (.cells #[.pointer (some ⟨12,154,none⟩),.pointer (some ⟨w,0,none⟩),.int .u64 150] 222)).alloc (.cells #[.int .i64 e] 22)).setCell t (.int .i64 e):=by
 have h6:=@run_callFunc_extern prog 136 _ (fun args=>ReflectliteValue.unpack (args.getD 0 (.tuple #[]))) func136 (by kernel_rfl) (by kernel_rfl) (by kernel_rfl) (by kernel_rfl)
 have h7 := @run_callFunc_extern prog 137 _ (ReflectliteValue.methodAny (ReflectliteValue.valueError "reflectlite.Value.Type" 0) (fun t _ _ _ => ReflectliteType.toType t)) func137 (by kernel_rfl) (by kernel_rfl) (by kernel_rfl) (by kernel_rfl)
 have h8 := @run_callFunc_extern prog 138 _ (ReflectliteValue.method (ReflectliteValue.valueError "reflectlite.Value.IsNil" 0) ReflectliteValue.isNil) func138 (by kernel_rfl) (by kernel_rfl) (by kernel_rfl) (by kernel_rfl)
 have h27:=@run_callFunc_extern prog 300 _ (ReflectliteType.abiMethod fun t=>do pure (.int .u8 (<-Rtype.kind t))) func300 (by kernel_rfl) (by kernel_rfl) (by kernel_rfl) (by kernel_rfl);have h37:=@run_callFunc_extern prog 311 _ (ReflectliteType.method ReflectliteType.elem) func311 (by kernel_rfl) (by kernel_rfl) (by kernel_rfl) (by kernel_rfl)
 have h38 := @run_callFunc_extern prog 312 _ (ReflectliteType.relation "Implements" ReflectliteType.implements_) func312 (by kernel_rfl) (by kernel_rfl) (by kernel_rfl) (by kernel_rfl)
 have h10:=@run_callFunc_extern prog 190 _ ReflectliteType.typeOf func190 (by kernel_rfl) (by kernel_rfl) (by kernel_rfl) (by kernel_rfl)
 have h35 := @run_callFunc_extern prog 309 _ (ReflectliteType.relation "AssignableTo" ReflectliteType.assignableTo) func309 (by kernel_rfl) (by kernel_rfl) (by kernel_rfl) (by kernel_rfl)
 have h11 := @run_callFunc_extern prog 191 _ (ReflectliteValue.method (ReflectliteValue.valueError "reflectlite.Value.Elem" 0) ReflectliteValue.elem) func191 (by kernel_rfl) (by kernel_rfl) (by kernel_rfl) (by kernel_rfl)
 have h12:=@run_callFunc_extern prog 192 _ ReflectliteValue.set func192 (by kernel_rfl) (by kernel_rfl) (by kernel_rfl) (by kernel_rfl);have tO:=Tryz.typeOfE;have mA:=Tryz.methodAssignableTo;have a25:=Tryz.assignableE;have v25:=Tryz.valueOfE;have f6:=Tryz.valueOfP;have f7:=Tryz.typeP;have mK:=Tryz.methodKind;have mE:=Tryz.methodElem;have mI:=Tryz.methodImplements;have k27:=Tryz.kindP;have k25:=Tryz.kindE;have e27:=Tryz.elemP;have i25:=Tryz.implementsE;have n8:=Tryz.isNilP ⟨w,0,none⟩ t ((w.alloc (.cells #[.pointer (some t)] 154)).alloc (.cells #[.pointer (some ⟨12,154,none⟩),.pointer (some ⟨w,0,none⟩),.int .u64 150] 222)) (by simp)
 have hlt:0<w.heap.size:=by
  rcases Nat.lt_or_ge 0 w.heap.size with h|h
  ·exact h
  ·simp[World.cell?,Array.getElem?_eq_none h]at hg
 have hg2:((w.alloc (.cells #[.pointer (some t)] 154)).alloc (.cells #[.pointer (some ⟨12,154,none⟩),.pointer (some ⟨w,0,none⟩),.int .u64 150] 222)).cell? ⟨0,0,none⟩=some (.iface 268 (.agg #[.pointer (some ⟨12,31,none⟩)])):=by
  rw[World.cell?_alloc_lt _ _ ⟨0,0,none⟩ (by simp only[World.size_alloc];omega),World.cell?_alloc_lt _ _ ⟨0,0,none⟩ hlt];exact hg
 have htl:t.block<w.heap.size:=by
  rcases Nat.lt_or_ge t.block w.heap.size with h|h
  ·exact h
  ·simp[World.cell?,Array.getElem?_eq_none h]at ht0
 have el:=Tryz.elemVP ⟨w,0,none⟩ t (((w.alloc (.cells #[.pointer (some t)] 154)).alloc (.cells #[.pointer (some ⟨12,154,none⟩),.pointer (some ⟨w,0,none⟩),.int .u64 150] 222)).alloc (.cells #[.pointer (some ⟨12,154,none⟩),.pointer (some ⟨w,0,none⟩),.int .u64 150] 222)) (by rw[World.cell?_alloc_lt _ _ ⟨w,0,none⟩ (by simp;omega)];simp)
 have st:=Tryz.setE t ⟨w.heap.size+1+1+1,0,none⟩ e old ((((w.alloc (.cells #[.pointer (some t)] 154)).alloc (.cells #[.pointer (some ⟨12,154,none⟩),.pointer (some ⟨w,0,none⟩),.int .u64 150] 222)).alloc (.cells #[.pointer (some ⟨12,154,none⟩),.pointer (some ⟨w,0,none⟩),.int .u64 150] 222)).alloc (.cells #[.int .i64 e] 22))
  (by rw[World.cell?_alloc_at _ _ _ _ (by simp)];rfl)
  (by rw[World.cell?_alloc_lt _ _ t (by simp;omega),World.cell?_alloc_lt _ _ t (by simp;omega),World.cell?_alloc_lt _ _ t (by simp;omega),World.cell?_alloc_lt _ _ t htl];exact ht0)
  (by rw[World.frozen?_alloc_old _ _ t (by simp;omega),World.frozen?_alloc_old _ _ t (by simp;omega),World.frozen?_alloc_old _ _ t (by simp;omega),World.frozen?_alloc_old _ _ t (Nat.ne_of_lt htl)];exact hf0)
 go_in;go_wp2;refine wp_loop_rounds 1 ?_;rw[rounds_succ];go_wp2;go_ret;exact⟨rfl,rfl⟩
end Go.Proofs.YthcpdohdppkmkaaGreatDoor
namespace Go.Proofs.YthcpdohdppkmkaaGreatDoor
open Go Go.RowKit
set_option maxRecDepth 100000
set_option maxHeartbeats 1000000
def Hnd(w:World):Prop:=w.cell? ⟨0,0,none⟩=some (.iface 268 (.agg #[.pointer (some ⟨12,31,none⟩)]))
theorem Hnd.lt{w:World}(h:Hnd w):0<w.heap.size:=by
 unfold Hnd at h;rcases Nat.lt_or_ge 0 w.heap.size with h'|h'
 ·exact h'
 ·simp[World.cell?,Array.getElem?_eq_none h']at h
theorem Hnd.W{w w':World}(h:Hnd w)(hb:Below w w w'):Hnd w':=((q1c hb).1 _ _ h.lt).trans h
theorem Hnd.alloc{w:World}(h:Hnd w)(o:Obj):Hnd (w.alloc o):=h.W (Zb.alloc Zl _)
theorem y0f(w:World):Calls prog 42 #[.nilIface] w fun e w'=>e=.returned (.int .i64 0)/\Below w w w':=by
 go_in;go_wp2;go_ret;exact⟨rfl,Below.refl _ _⟩
theorem y0e(n:Int)(w:World)(hg:Hnd w):Calls prog 42 #[.iface 22 (.int .i64 n)] w fun e w'=>e=.returned (.int .i64 n)/\Below w w w':=by
 have HG:Hid (Hnd w):=hg;have hl:=hg.lt;clear hg;go_in;go_wp2_with fail;refine(y9j n ⟨w,0,none⟩ (.int .i64 0) _ (HG.o.alloc _) (by simp[go_sem]) (by simp[go_sem])).mono ?_;rintro e w1⟨rfl,rfl⟩;go_wp2;go_ret;refine⟨rfl,?_⟩
 repeat (first|exact Below.refl _ _|refine Below.setCell ?_ (by simp) _|refine Below.alloc ?_ (by simp;try omega) _)
theorem y0d(n:Int)(w:World)(hg:Hnd w):Calls prog 42 #[q0s n] w fun e w'=>e=.returned (.int .i64 n)/\Below w w w':=by
 by_cases h:n=0
 ·subst h;exact y0f w
 ·have e:q0s n=.iface 22 (.int .i64 n):=by simp[q0s,h]
  rw[e];exact y0e n w hg
theorem v9l(n m:Int)(w:World)(hg:Hnd w):Calls prog 14 #[q0s n,.int .i64 m] w fun e w'=>e=.returned (.bool (n==m))/\Below w w w':=by
 have HG:Hid (Hnd w):=hg;clear hg;go_in;go_wp2_with fail;refine(y0d n _ HG.o).mono ?_;rintro e w1⟨rfl,hb⟩;go_wp2;go_ret;exact⟨rfl,hb⟩
end Go.Proofs.YthcpdohdppkmkaaGreatDoor
namespace Go.Proofs.YthcpdohdppkmkaaGreatDoor
open Go.ChangeShapes Go.WideShapes Go.RowKit
theorem Tryz.own:ownKnob prog.godebug=none:=by kernel_rfl
theorem Tryz.et : prog.globalNamed "errors.errorType" = some 0 := by kernel_rfl
theorem Tryz.rt : (prog.cutTypes.find? (·.1 == "internal/reflectlite.rtype")).map (·.2) = some 268 := by kernel_rfl
theorem Tryz.oneRow:((List.range 403).filter fun t=>prog.rowNamed t [101,114,114,111,114])=[31]:=by kernel_rfl
theorem Tryz.size:prog.types.size=403:=by kernel_rfl
abbrev y5o : List (String × DataW Unit) := [("errors.errorType", Rows.laid_errors_errorType)]
theorem z6n{W:World}(h:laidMetH prog y5o W):Hnd W:=by
 have h':laidMet prog [] W/\handlesMet prog y5o W:=h;obtain⟨name,u,ty,e1,e2,e3,e4,e5⟩:=h'.2 _ (List.mem_singleton.2 rfl);have en:name=[101,114,114,111,114]:=(Option.some.inj e1).symm;subst en;obtain rfl:=Option.some.inj (Tryz.rt.symm.trans e2);have hm:ty∈(List.range 403).filter fun t=>prog.rowNamed t [101,114,114,111,114]:=List.mem_filter.2 ⟨List.mem_range.2 (by rw[<-Tryz.size];exact e3),e4⟩
 rw[Tryz.oneRow]at hm;obtain rfl:=List.mem_singleton.1 hm;have hh:typeHandle prog 31=.pointer (some ⟨12,31,none⟩):=by kernel_rfl
 rw[hh]at e5
 have:=World.var?_cell Tryz.et e5 0
 simpa[Hnd]using this
def k2p(P:Program)(os:Os):World:=
 let w0:=World.holding P os ⟨#[],#[],[]⟩
 {w0 with heap:=w0.heap.modify 0 fun
   | .cells _ t frozen=>.cells #[.iface 268 (.agg #[.pointer (some ⟨12,31,none⟩)])] t frozen
   | o=>o}
end Go.Proofs.YthcpdohdppkmkaaGreatDoor
