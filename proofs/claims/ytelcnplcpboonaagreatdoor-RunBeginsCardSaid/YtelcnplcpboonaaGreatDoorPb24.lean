import Derived.Test.YtelcnplcpboonaaGreatDoorPb20
import Derived.Test.YtelcnplcpboonaaGreatDoorPb10
import Derived.Test.YtelcnplcpboonaaGreatDoorShf
open Go.Proofs.Tryz
namespace Go.Proofs.YtelcnplcpboonaaGreatDoor
open Go Go.RowKit
set_option maxRecDepth 100000
set_option maxHeartbeats 4000000
section
variable {K:LwK} {ws:List Wd} {pl:Nat→Nat} {b p:Nat} {w:World}
theorem v5p{X:Wd}(h:Ry K ws pl b p w)(hX:ws.getD p []=X)(ht:X=[]\/q3q X):
  (Calls prog 117 #[.pointer (some ⟨b,0,none⟩)] w fun e w'=>e=.returned (.string (wbS X))/\w=w')/\(Calls prog 240 #[.string (wbS X)] w fun e w'=>e=.returned (.bool (k3j X))/\w=w')/\(Calls prog 184 #[.string (wbS X)] w fun e w'=>e=.returned (.bool (nmW X))/\w=w'):=by
 subst hX;exact⟨(q5m h).mono fun _ _ h=>⟨h.1,h.2.symm⟩,(j0n _ w).mono fun _ _ h=>⟨h.1,h.2.symm⟩,(k4i _ ht w).mono fun _ _ h=>⟨h.1,h.2.symm⟩⟩
theorem z6f(ht:∀x∈ws,q3q x)(hS:∀q,p<q->q<=ws.length->j0z K ws pl b q):y3e K ws pl b p:=by
 intro w h;have t:=h.le;have Ao:b<w.heap.size:=h.row.lt;show Calls prog 218 #[.pointer (some ⟨b,0,none⟩)] w fun e C=>q3p K ws pl b (.level 2) p w e C
 by_cases j:p<ws.length
 ·have L:=ht _ (List.getElem_mem j);have i:=q3d j;obtain⟨d,O,P⟩:=v5p h i (.inr L);have v:Hid (ws.drop p=ws[p]::ws.drop (p+1)):=q3w j;by_cases E:k3j ws[p]=true
  ·rw[E]at O;have B:=(show Hid (Calls _ _ _ _ _)from d);have D:=(show Hid (Calls _ _ _ _ _)from O);obtain⟨l,h6⟩:=y2v L E;have HN:Hid (Calls prog 183 #[.pointer (some ⟨b,0,none⟩)] w fun e C=>e=.returned (.string (wbS ws[p]))/\Ry K ws pl b (p+1) C/\But w b w C):=q6y h j;have HA:Hid (∀W,Calls prog 61 #[.string (wbS ws[p])] W fun e C=>e=.returned (.tuple #[.int .i64 ((q4m ws[p]:Nat):Int),.nilIface])/\Below W W C):=fun W=>k4l ws[p] l (v7q L) h6 W
   have HX:Hid (∀W,Ry K ws pl b (p+1) W->But w b w W->q3p K ws pl b (.level 2) p w (.returned (.slice (some ⟨W,0,none⟩) 1 1)) (W.alloc (.cells #[.int .i64 1,.string ⟨#[]⟩,.int .i64 ((q4m ws[p]:Nat):Int)] 81))):=fun W hW hB=>by
    refine q3p.ok (m:=0) (ns:=[y7w ws[p]]) (u:=ws.drop (p+1)) ⟨by rw[v.o];exact .lev2 (.sNum E),(q1p.one W (y7w ws[p])).down hB.size,?_,?_,hB.alloc hB.size _⟩
    ·rw[q0e,q0e];simp only[List.length_cons,List.length_nil];omega
    ·rw[q0e,show ws.length-(ws.length-(p+1))=p+1 by omega];exact hW.keep (q1c W _)
   generalize wbS ws[p]=S at B D HN HA
   generalize((q4m ws[p]:Nat):Int)=V at HA HX
   clear d O P h hS ht L i E l h6;go_in;go_wp2_with fail;refine B.o.mono ?_;rintro e f⟨rfl,rfl⟩;go_wp2_with fail;refine D.o.mono ?_;rintro e M⟨rfl,rfl⟩;go_wp2_with fail;refine HN.o.mono ?_;rintro e U⟨rfl,h3,z⟩;have K3:=hid (And.intro h3 z);have a:=z.size;clear h3 z;go_wp2_with fail;refine(HA.o _).mono ?_;rintro e w4⟨rfl,b4⟩;have Am:=hid (HX.o w4 (K3.o.1.keep b4) (K3.o.2.trans (But.of (b4.mono a))));clear b4;go_wp2;go_ret;exact Am.o
  ·have G:k3j ws[p]=false:=by simpa using E
   rw[G]at O;have B:=(show Hid (Calls _ _ _ _ _)from d);have D:=(show Hid (Calls _ _ _ _ _)from O);by_cases N:nmW ws[p]=true
   ·rw[N]at P;have H:=(show Hid (Calls _ _ _ _ _)from P);have HN:Hid (Calls prog 241 #[.pointer (some ⟨b,0,none⟩)] w fun e C=>q3p K ws pl b (.level 2) p w e C):=(j0o hS j N h).mono fun _ _ g=>g.lev2
    generalize wbS ws[p]=S at B D H;clear d O P h hS ht L i E G N;go_in;go_wp2_with fail;refine B.o.mono ?_;rintro e f⟨rfl,rfl⟩;go_wp2_with fail;refine D.o.mono ?_;rintro e M⟨rfl,rfl⟩;go_wp2_with fail;refine B.o.mono ?_;rintro e f⟨rfl,rfl⟩;go_wp2_with fail;refine H.o.mono ?_;rintro e M⟨rfl,rfl⟩;go_wp2_with fail;refine HN.o.mono ?_;intro r U g;cases g with
    | @bad u _ pr bt=>
     have X:Hid (q3p K ws pl b (.level 2) p w (.panicked [q4c (pl (ws.length-u.length))]) U):=.bad pr bt;clear pr bt;go_wp2;exact⟨rfl,X.o⟩
    | @ok m ns u A c _ hg=>
     have X:Hid (q3p K ws pl b (.level 2) p w (.returned (.slice A ns.length c)) U):=.ok hg;clear hg;generalize ns.length=nl at X⊢;go_wp2;go_ret;exact X.o
   ·have J:nmW ws[p]=false:=by simpa using N
    rw[J]at P;have H:=(show Hid (Calls _ _ _ _ _)from P);by_cases I:ws[p]=[91]
    ·have hm:ws[p]?=some [91]:=by rw[List.getElem?_eq_getElem j,I]
     have k:Hid (Calls prog 147 #[.pointer (some ⟨b,0,none⟩),.string ⟨#[91]⟩] w fun e C=>e=.returned (.bool true)/\Ry K ws pl b (p+1) C/\But w b w C):=q6f h [91] hm
     have HK:Hid (∀W,Ry K ws pl b (p+1) W->But w b w W->Calls prog 242 #[.pointer (some ⟨b,0,none⟩),.agg #[.int .i64 4,.string ⟨#[]⟩,.int .i64 0],.string ⟨#[93]⟩] W fun r C=>q3p K ws pl b (.level 2) p w r C):=fun W hW hB=>by
      refine(k1m (e:=[93]) (op:=4) (tx:=⟨#[]⟩) (by simp) (by decide) (fun q h1 h2=>hS q (by omega) h2) hW).mono ?_;intro r C g;have hs:=hB.size;cases g with
      | bad pr bt=>exact .bad (by rw[v.o,I];exact .lev2 (.sLB pr)) (hB.trans (bt.mono hs))
      | @ok n ns u A c _ hg=>
       have hl:=hg.n;rw[q0e]at hl;refine q3p.ok (m:=0) (ns:=lsT n::ns) (u:=u) ⟨by rw[v.o,I];exact .lev2 (.sLO hg.pr),hg.o.down hs,?_,hg.rd,hB.trans (hg.bt.mono hs)⟩;rw[q0e,List.length_cons];omega
     generalize wbS ws[p]=S at B D H;clear d O P h hS ht L i E G N J hm I;go_in;go_wp2_with fail;refine B.o.mono ?_;rintro e f⟨rfl,rfl⟩;go_wp2_with fail;refine D.o.mono ?_;rintro e M⟨rfl,rfl⟩;go_wp2_with fail;refine B.o.mono ?_;rintro e f⟨rfl,rfl⟩;go_wp2_with fail;refine H.o.mono ?_;rintro e M⟨rfl,rfl⟩;go_wp2_with fail;refine k.o.mono ?_;rintro e M⟨rfl,h2,b2⟩;have Ak:Hid (Calls prog 242 #[.pointer (some ⟨b,0,none⟩),.agg #[.int .i64 4,.string ⟨#[]⟩,.int .i64 0],.string ⟨#[93]⟩] M fun r C=>q3p K ws pl b (.level 2) p w r C):=HK.o M h2 b2;clear h2 b2 k HK;go_wp2_with fail;refine Ak.o.mono ?_;intro r U g;cases g with
     | @bad u _ pr bt=>
      have X:Hid (q3p K ws pl b (.level 2) p w (.panicked [q4c (pl (ws.length-u.length))]) U):=.bad pr bt;clear pr bt;go_wp2;exact⟨rfl,X.o⟩
     | @ok m ns u A c _ hg=>
      have X:Hid (q3p K ws pl b (.level 2) p w (.returned (.slice A ns.length c)) U):=.ok hg;clear hg;generalize ns.length=nl at X⊢;go_wp2;go_ret;exact X.o
    ·have hm:ws[p]?≠some [91]:=by rw[List.getElem?_eq_getElem j];simpa using I
     have k:Hid (Calls prog 147 #[.pointer (some ⟨b,0,none⟩),.string ⟨#[91]⟩] w fun e C=>e=.returned (.bool false)/\w=C):=(q6x h [91] (by simp) hm).mono fun _ _ h=>⟨h.1,h.2.symm⟩
     by_cases Q:ws[p]=[40]
     ·have Z:ws[p]?=some [40]:=by rw[List.getElem?_eq_getElem j,Q]
      have HM:Hid (Calls prog 149 #[.pointer (some ⟨b,0,none⟩),.string ⟨#[40]⟩] w fun e C=>e=.returned (.tuple #[])/\Ry K ws pl b (p+1) C/\But w b w C):=q5l h [40] Z
      have y:Hid (ws.drop p=[40]::ws.drop (p+1)):=by
       show _=_;rw[v.o,Q]
      have HS:Hid (j0z K ws pl b (p+1)):=hS (p+1) (by omega) (by omega);generalize wbS ws[p]=S at B D H;clear d O P h hS ht L i E G N J hm I Q Z v;go_in;go_wp2_with fail;refine B.o.mono ?_;rintro e f⟨rfl,rfl⟩;go_wp2_with fail;refine D.o.mono ?_;rintro e M⟨rfl,rfl⟩;go_wp2_with fail;refine B.o.mono ?_;rintro e f⟨rfl,rfl⟩;go_wp2_with fail;refine H.o.mono ?_;rintro e M⟨rfl,rfl⟩;go_wp2_with fail;refine k.o.mono ?_;rintro e M⟨rfl,rfl⟩;go_wp2_with fail;refine HM.o.mono ?_;rintro e U⟨rfl,h3,z⟩;have Ad:Hid (But w b w U):=z;have a:=z.size;have Al:Hid (Calls prog 150 #[.pointer (some ⟨b,0,none⟩)] U fun e C=>q3p K ws pl b (.level 0) (p+1) U e C):=HS.o U h3;clear h3 z HM k;go_wp2_with fail;refine Al.o.mono ?_;intro r w4 g;cases g with
      | @bad u _ pr bt=>
       have X:Hid (q3p K ws pl b (.level 2) p w (.panicked [q4c (pl (ws.length-u.length))]) w4):=.bad (by rw[y.o];exact .lev2 (.sPB pr)) (Ad.o.trans (bt.mono a));clear pr bt;go_wp2;exact⟨rfl,X.o⟩
      | @ok m ns u A c _ hg=>
       have Ab:=q9f hg.pr;have hu:ws.drop (ws.length-u.length)=u:=q5w Ab.1;have hl:=hg.n;rw[q0e]at hl;have Ap:=hg.bt.size;have Ae:But w b w w4:=Ad.o.trans (hg.bt.mono a);by_cases R:ws[ws.length-u.length]?=some [41]
       ·obtain⟨Ag,Af⟩:=List.getElem?_eq_some_iff.1 R
        have Ac:u=[41]::ws.drop (ws.length-u.length+1):=by
         have h9:=q3w Ag;rw[hu,Af]at h9;exact h9
        have Y:Hid (Calls prog 149 #[.pointer (some ⟨b,0,none⟩),.string ⟨#[41]⟩] w4 fun e C=>e=.returned (.tuple #[])/\q3p K ws pl b (.level 2) p w (.returned (.slice A ns.length c)) C):=by
         refine(q5l hg.rd [41] R).mono ?_;rintro e w5⟨rfl,h5,b5⟩
         have Aq:u.length=(ws.drop (ws.length-u.length+1)).length+1:=by
          have h9:=congrArg List.length Ac;rw[List.length_cons]at h9;exact h9
         have Aj:=hg.pr;rw[Ac]at Aj;refine⟨rfl,q3p.ok (m:=0) (ns:=ns) (u:=ws.drop (ws.length-u.length+1)) ⟨by rw[y.o];exact .lev2 (.sPC Aj),(hg.o.but2 b5 (by omega)).down a,?_,?_,Ae.trans (b5.mono (by omega))⟩⟩
         ·rw[q0e (p:=p)];omega
         ·rw[show ws.length-(ws.drop (ws.length-u.length+1)).length=ws.length-u.length+1 by omega];exact h5
        clear hg hu Ac R Af Ab hl;generalize ns.length=nl at Y⊢;go_wp2_with fail;refine Y.o.mono ?_;rintro e w5⟨rfl,h5⟩;have K5:=(show Hid (q3p _ _ _ _ _ _ _ _ _)from h5);clear h5;go_wp2;go_ret;exact K5.o
       ·have Y:Hid (Calls prog 149 #[.pointer (some ⟨b,0,none⟩),.string ⟨#[41]⟩] w4 fun e C=>e=.panicked [q4c (pl (ws.length-u.length))]/\q3p K ws pl b (.level 2) p w (.panicked [q4c (pl (ws.length-u.length))]) C):=by
         refine(q6g hg.rd [41] (by simp) R).mono ?_;rintro e w5⟨rfl,rfl⟩;refine⟨rfl,.bad ?_ Ae⟩;rw[y.o];refine .lev2 (.sPX hg.pr ?_);rw[<-hu,q1r];exact R
        clear hg hu R Ab hl;generalize ns.length=nl;generalize pl (ws.length-u.length)=pp at Y;go_wp2_with fail;refine Y.o.mono ?_;rintro e w5⟨rfl,h5⟩;have K5:=(show Hid (q3p _ _ _ _ _ _ _ _ _)from h5);clear h5;go_wp2;exact⟨rfl,K5.o⟩
     ·have Z:ws[p]?≠some [40]:=by rw[List.getElem?_eq_getElem j];simpa using Q
      have HM:Hid (Calls prog 149 #[.pointer (some ⟨b,0,none⟩),.string ⟨#[40]⟩] w fun e C=>e=.panicked [q4c (pl p)]/\w=C):=(q6g h [40] (by simp) Z).mono fun _ _ h=>⟨h.1,h.2.symm⟩
      have HX:Hid (q3p K ws pl b (.level 2) p w (.panicked [q4c (pl p)]) w):=j9o t (by rw[v.o];exact .lev2 (.sBad Q I G J)) (But.refl _ _ _);generalize wbS ws[p]=S at B D H;clear d O P h hS ht L i E G N J hm I Q Z v;go_in;go_wp2_with fail;refine B.o.mono ?_;rintro e f⟨rfl,rfl⟩;go_wp2_with fail;refine D.o.mono ?_;rintro e M⟨rfl,rfl⟩;go_wp2_with fail;refine B.o.mono ?_;rintro e f⟨rfl,rfl⟩;go_wp2_with fail;refine H.o.mono ?_;rintro e M⟨rfl,rfl⟩;go_wp2_with fail;refine k.o.mono ?_;rintro e M⟨rfl,rfl⟩;go_wp2_with fail;refine HM.o.mono ?_;rintro e U⟨rfl,rfl⟩;go_wp2;exact⟨rfl,HX.o⟩
 ·have An:p=ws.length:=by omega
  have i:=q5q (ws:=ws) (q:=p) (by omega);obtain⟨d,O,P⟩:=v5p h i (.inl rfl);have Ah:k3j []=false:=rfl;have Ai:nmW []=false:=by decide
  rw[Ah]at O;rw[Ai]at P;have B:=(show Hid (Calls _ _ _ _ _)from d);have D:=(show Hid (Calls _ _ _ _ _)from O);have H:=(show Hid (Calls _ _ _ _ _)from P);have Aa:∀s,ws[p]?≠some s:=fun s=>by rw[List.getElem?_eq_none (by omega)];simp
  have k:Hid (Calls prog 147 #[.pointer (some ⟨b,0,none⟩),.string ⟨#[91]⟩] w fun e C=>e=.returned (.bool false)/\w=C):=(q6x h [91] (by simp) (Aa _)).mono fun _ _ h=>⟨h.1,h.2.symm⟩
  have HM:Hid (Calls prog 149 #[.pointer (some ⟨b,0,none⟩),.string ⟨#[40]⟩] w fun e C=>e=.panicked [q4c (pl p)]/\w=C):=(q6g h [40] (by simp) (Aa _)).mono fun _ _ h=>⟨h.1,h.2.symm⟩
  have HX:Hid (q3p K ws pl b (.level 2) p w (.panicked [q4c (pl p)]) w):=by
   refine j9o t ?_ (But.refl _ _ _);rw[List.drop_eq_nil_of_le (by omega)];exact .lev2 .sinN
  generalize wbS []=S at B D H;clear d O P h hS ht i Ah Ai Aa An;go_in;go_wp2_with fail;refine B.o.mono ?_;rintro e f⟨rfl,rfl⟩;go_wp2_with fail;refine D.o.mono ?_;rintro e M⟨rfl,rfl⟩;go_wp2_with fail;refine B.o.mono ?_;rintro e f⟨rfl,rfl⟩;go_wp2_with fail;refine H.o.mono ?_;rintro e M⟨rfl,rfl⟩;go_wp2_with fail;refine k.o.mono ?_;rintro e M⟨rfl,rfl⟩;go_wp2_with fail;refine HM.o.mono ?_;rintro e U⟨rfl,rfl⟩;go_wp2;exact⟨rfl,HX.o⟩
theorem j9q(ht:∀x∈ws,q3q x):∀n p,p<=ws.length->ws.length-p<=n->y3e K ws pl b p/\y3f K ws pl b p/\j0z K ws pl b p:=by
 intro n
 induction n with
 | zero=>
  intro p H G;have B:y3e K ws pl b p:=z6f ht fun q A h2=>by omega
  have A:y3f K ws pl b p:=k1n fun q A h2=>by
   obtain rfl:q=p:=by omega
   exact B
  exact⟨B,A,j9t fun q E h4=>by
   obtain rfl:q=p:=by omega
   exact A⟩
 | succ n ih=>
  intro p H G;have B:y3e K ws pl b p:=z6f ht fun q A h2=>(ih q h2 (by omega)).2.2
  have D:∀q,p<=q->q<=ws.length->y3e K ws pl b q:=fun q A h2=>by
   rcases Nat.eq_or_lt_of_le A with rfl|E
   ·exact B
   ·exact(ih q h2 (by omega)).1
  have A:y3f K ws pl b p:=k1n D
  have C:∀q,p<=q->q<=ws.length->y3f K ws pl b q:=fun q h1q h2=>by
   rcases Nat.eq_or_lt_of_le h1q with rfl|E
   ·exact A
   ·exact(ih q h2 (by omega)).2.1
  exact⟨B,A,j9t C⟩
theorem k7j(ht:∀x∈ws,q3q x)(hp:p<=ws.length):j0z K ws pl b p:=(j9q ht _ p hp Zl).2.2
end
theorem j4l(s:ByteArray)(w:World):Calls prog 155 #[.slice none 0 0,.string s] w fun e w'=>e=.returned (.string ⟨#[]⟩)/\Below w w w':=by
 go_in;go_wp2;go_ret;exact⟨rfl,Below.refl _ _⟩
theorem k0z{B:Nat}{w:World}{A:Option Addr}{n c:Nat}{xs:List ByteArray}(h:q1n B (.slice A n c) xs w):n=xs.length/\n<=c/\((A=none/\n=0/\c=0)\/∃g,A=some ⟨g,0,none⟩/\g<w.heap.size):=by
 rcases h.2 with⟨C,G⟩|⟨g,I,E,C,_,H,D,_⟩
 ·simp only[Value.slice.injEq]at C;obtain⟨rfl,rfl,rfl⟩:=C;exact⟨G.symm,Nat.le_refl _,.inl ⟨rfl,rfl,rfl⟩⟩
 ·simp only[Value.slice.injEq]at C;obtain⟨rfl,rfl,rfl⟩:=C;exact⟨rfl,D,.inr ⟨g,rfl,(Array.getElem?_eq_some_iff.1 H).1⟩⟩
theorem j4k{B:Nat}{A:Option Addr}{n c:Nat}{W:List Wd}{w:World}(h:q1n B (.slice A n c) (W.map wbS) w)(hs:szW W<=1000000):Calls prog 155 #[.slice A n c,.string ⟨#[32]⟩] w fun e w'=>e=.returned (.string (wbS (jb W)))/\Below w w w':=by
 obtain⟨M,J,I⟩:=k0z h;have P:=z8d W;have E:=v9s W;have L:(W.map wbS).length=W.length:=List.length_map ..;rcases I with⟨rfl,rfl,rfl⟩|⟨g,rfl,K⟩
 ·have:W=[]:=List.eq_nil_of_length_eq_zero (by omega)
  subst this;exact j4l _ w
 ·subst M
  have H:(W.map wbS).map (fun x=>x.data.toList)=W:=by
   rw[List.map_map];exact List.map_id W
  have C:Lib.join ((W.map wbS).map (fun x=>x.data.toList)) (⟨#[32]⟩:ByteArray).data.toList=jb W:=by
   rw[H];exact j4i W
  have D:=join_sh g 0 c (W.map wbS) ⟨#[32]⟩ w ?_ K (by omega) J (by rw[C];omega)
  ·rw[C]at D;exact D
  ·intro j x N;obtain⟨E,rfl⟩:=List.getElem?_eq_some_iff.1 N;obtain⟨O,Q,e,_,G⟩:=q9k h j E;simp only[Option.some.injEq,Addr.mk.injEq,and_true]at e;obtain⟨rfl,rfl⟩:=e;exact G
theorem y3b{w:Wd}{S:ByteArray}(h:wbS w=S):S.extract 1 S.size=wbS (w.drop 1):=by
 subst h;rw[k4b]
 congr 1
 rw[List.take_of_length_le]
 ·rfl
 ·rw[List.length_drop,q0b];omega
theorem k8e{x:Wd}(hx:v6o x)(hl:x.length<=60000)(w:World)(ht:q7n w):Calls prog 182 #[.string (wbS (x.drop 1))] w fun e w'=>∃g,e=.returned (.slice (some ⟨g,0,none⟩) (q8f x).length (q8f x).length)/\Wds w' (some ⟨g,0,none⟩) ((q8f x).map wbS)/\Below w w w':=by
 have B:btL (wbS (x.drop 1))=x.drop 1:=rfl;refine(fields_sh (wbS (x.drop 1)) w (by rw[<-q0b,B,List.length_drop];omega) ?_ ht.spc).mono ?_
 ·intro j c D;have G:c∈x:=List.mem_of_mem_drop (List.mem_of_getElem? (show(x.drop 1)[j]?=some c from D))
  have:=hx.2 c G
  simp only[prB,Bool.and_eq_true,decide_eq_true_eq]at this;omega
 ·rintro e w'⟨rfl,rfl⟩;refine⟨w.heap.size,rfl,?_,q1c w _⟩;intro i C;have A:i<(q8f x).length:=by simpa using C
  refine⟨w.heap.size,0,rfl,by rw[World.size_alloc];omega,?_⟩;rw[Nat.zero_add];have E:=heap_alloc_new w (.cells ((Lib.fields (btL (wbS (x.drop 1)))).map fun l=>Value.string ⟨l.toArray⟩).toArray 9);rw[Lib.cell_of_heap E]
  show((Lib.fields (x.drop 1)).map fun l=>Value.string ⟨l.toArray⟩).toArray[i]?=_
  rw[List.getElem?_toArray,List.getElem?_map,show(Lib.fields (x.drop 1))[i]?=some (q8f x)[i]from List.getElem?_eq_getElem A];simp[wbS]
theorem z9y:∀(ws:List Wd)(x:Wd),x∈ws->x.length<=(ws.map List.length).sum
 | y::r,x,h=>by
  rw[List.map_cons,List.sum_cons];rcases List.mem_cons.1 h with rfl|h
  ·omega
  ·have:=z9y r x h
   omega
structure y8g(K:LwK)(ws:List Wd)(pl:Nat->Nat)(b p:Nat)(w:World)(q:Nat)(W:List Wd)(v:Value)(wr:World):Prop where
 pq:p<=q
 o:q1n w v (W.map wbS) wr
 rd:Ry K ws pl b q wr
 bt:But w b w wr
 eq:W=((ws.drop p).take (q-p)).flatMap q8f
 nt:∀x∈(ws.drop p).take (q-p),v6o x
structure y3n(K:LwK)(ws:List Wd)(pl:Nat->Nat)(b p:Nat)(w:World)(q:Nat)(n:Bool)(t:List Td)(v:Value)(w':World):Prop where
 lt:p<q
 o:q1p w v t w'
 ne:t≠[]
 l:t.length<=100000
 rd:Ry K ws pl b q w'
 bt:But w b w w'
 pg:∀pv acc r,(pv=true->∀x,ws[p]?=some x->x.headD 0≠35)->PG n (acc++[t]) (ws.drop q) r->PG pv acc (ws.drop p) r
 nx:n=true->∀x,ws[q]?=some x->x.headD 0≠35
inductive q9t (K:LwK) (ws:List Wd) (pl:Nat->Nat) (b p:Nat) (w:World):Ending->World->Prop where
 | ok {q n t A c w'} (h:y3n K ws pl b p w q n t (.slice A t.length c) w'):q9t K ws pl b p w (.returned (.slice A t.length c)) w'
 | bad {u w'} (pg:∀pv acc,PG pv acc (ws.drop p) (.bad u)) (bt:But w b w w'):q9t K ws pl b p w (.panicked [q4c (pl (ws.length-u.length))]) w'
theorem z8e{ws:List Wd}{p q:Nat}(h:p<=q)(hq:q<ws.length):(ws.drop p).take (q+1-p)=(ws.drop p).take (q-p)++[ws[q]]:=by
 rw[show q+1-p=q-p+1 by omega,List.take_succ_eq_append_getElem (by rw[List.length_drop];omega)]
 congr 2
 rw[List.getElem_drop]
 congr 1
 omega
theorem k7z(ws:List Wd){p q:Nat}(h:p<=q):ws.drop p=(ws.drop p).take (q-p)++ws.drop q:=by
 have e:ws.drop q=(ws.drop p).drop (q-p):=by rw[List.drop_drop];congr 1;omega
 rw[e,List.take_append_drop]
theorem j0p{K:LwK}{ws:List Wd}{pl:Nat->Nat}{b p:Nat}{w:World}(Ab:∀x∈ws,q3q x)(Av:(ws.map List.length).sum<=60000)(hp:p<ws.length)(hn:ws[p].headD 0=35)(v:∀w',But w b w w'->q7n w')(h:Ry K ws pl b p w):
  Calls prog 146 #[.pointer (some ⟨b,0,none⟩)] w fun e w'=>q9t K ws pl b p w e w':=by
 have l:Hid (∀x∈ws,q3q x):=Ab;have Ah:Hid (∀w',But w b w w'->q7n w'):=v
 have Af:Hid (∀x∈ws,x.length<=60000):=fun x I=>by
  have:=z9y ws x I
  omega
 have j:Hid (∀q,szW (((ws.drop p).take (q-p)).flatMap q8f)<=120000):=fun q=>by
  have h1:=j3v ((ws.drop p).take (q-p));have h2:=v4m ws p (q-p);omega
 have Ao:b<w.heap.size:=h.row.lt;have Aq:=h.gwlt;have Ap:=h.galt;have Ai:Hid (y8g K ws pl b p w p [] (.slice none 0 0) w):=⟨Nat.le_refl _,World.ownsRow_nil _ _ _ _,h,But.refl _ _ _,by simp,fun x I=>by simp at I⟩;clear h Ab v;go_in;go_wp2_with fail
 go_loopw [3] (fun x wr=>∃(q:Nat)(W:List Wd)(A:Option Addr)(n c:Nat),x=.slice A n c/\W.length=n/\y8g K ws pl b p w q W (.slice A n c) wr) (fun _ wr=>k9o wr b)
 case atStart=>exact⟨p,[],_,_,_,rfl,rfl,Ai.o⟩
 case round=>
  obtain⟨q,W,A,n,c,rfl,P,D⟩:=hrel;have Au:=D.rd.le;have N:=hid D;have Ak:Hid (W.length=n):=P;have Ac:=D.bt.size;have G:Hid (Calls prog 117 #[.pointer (some ⟨b,0,none⟩)] wr fun e w'=>e=.returned (.string (wbS (ws.getD q [])))/\wr=w'):=(q5m D.rd).mono fun _ _ h=>⟨h.1,h.2.symm⟩
  have E:Hid (Calls prog 145 #[.string (wbS (ws.getD q []))] wr fun e w'=>e=.returned (.bool (decide ((ws.getD q []).headD 0=35)))/\wr=w'):=(z4h _ wr).mono fun _ _ h=>⟨h.1,h.2.symm⟩
  by_cases B:(ws.getD q []).headD 0=35
  ·have O:q<ws.length:=by
    rcases Nat.lt_or_ge q ws.length with h'|h'
    ·exact h'
    ·rw[q5q h']at B;simp at B
   rw[decide_eq_true B]at E;rw[q3d O]at B G E;have L:=y6t (l.o _ (List.getElem_mem O)) B;have HN:Hid (Calls prog 183 #[.pointer (some ⟨b,0,none⟩)] wr fun e w'=>e=.returned (.string (wbS ws[q]))/\Ry K ws pl b (q+1) w'/\But wr b wr w'):=q6y D.rd O
   have Aa:1<=(wbS ws[q]).size:=by
    have:=j8f (l.o _ (List.getElem_mem O))
    rw[<-q0b];exact this
   have HF:Hid (∀W',But w b w W'->Calls prog 182 #[.string ((wbS ws[q]).extract 1 (wbS ws[q]).size)] W' fun e w'=>∃g,e=.returned (.slice (some ⟨g,0,none⟩) (q8f ws[q]).length (q8f ws[q]).length)/\Wds w' (some ⟨g,0,none⟩) ((q8f ws[q]).map wbS)/\Below W' W' w'):=fun W' hB=>by
    rw[y3b rfl];exact k8e L (Af.o _ (List.getElem_mem O)) W' (Ah.o W' hB)
   have Y:=j.o (q+1);rw[z8e D.pq O,List.flatMap_append,<-D.eq,List.flatMap_singleton,k3y]at Y;have Ar:=z8d W;have y:=z8d (q8f ws[q]);have z:n+(q8f ws[q]).length<=1000000:=by omega
   have Z:Hid (∀A2 c2 w2,q1n w (.slice A2 (n+(q8f ws[q]).length) c2) (W.map wbS++(q8f ws[q]).map wbS) w2->Ry K ws pl b (q+1) w2->But w b w w2->(W++q8f ws[q]).length=n+(q8f ws[q]).length/\y8g K ws pl b p w (q+1) (W++q8f ws[q]) (.slice A2 (n+(q8f ws[q]).length) c2) w2):=fun A2 c2 w2 h1 h2 h3=>by
    refine⟨by rw[List.length_append,Ak.o],Nat.le_succ_of_le N.o.pq,by rw[List.map_append];exact h1,h2,h3,?_,?_⟩
    ·rw[z8e N.o.pq O,List.flatMap_append,<-N.o.eq,List.flatMap_singleton]
    ·rw[z8e N.o.pq O];intro x I;rcases List.mem_append.1 I with I|I
     ·exact N.o.nt x I
     ·rw[List.mem_singleton]at I;rw[I];exact L
   have U:Hid (((q8f ws[q]).map wbS).length=(q8f ws[q]).length):=List.length_map ..;have Ag:Hid ((W.map wbS).length=n):=(show _=_ by rw[List.length_map];exact P);generalize wbS ws[q]=S at G E HN HF Aa
   generalize(q8f ws[q]).map wbS=FS at HF Z U
   generalize(q8f ws[q]).length=fn at HF Z z U Y y
   clear D P B L Y Ar y;go_wp2_with fail;refine G.o.mono ?_;rintro e H⟨rfl,rfl⟩;go_wp2_with fail;refine E.o.mono ?_;rintro e H⟨rfl,rfl⟩;go_wp2_with fail;refine HN.o.mono ?_;rintro e w3⟨rfl,h3,b3⟩;have Ay:=b3.size;have R:Hid (But w b w w3):=N.o.bt.trans (b3.mono Ac);have f:Hid (Ry K ws pl b (q+1) w3):=h3
   have d:Hid (q1n w (.slice A n c) (W.map wbS) w3):=by
    refine⟨N.o.o.1,?_⟩;rcases N.o.o.2 with h0|⟨g,c',Am,hv,hB,hg,Ad⟩
    ·exact .inl h0
    ·exact .inr ⟨g,c',Am,hv,hB,(b3.block g (Array.getElem?_eq_some_iff.1 hg).1 (by omega)).trans hg,Ad⟩
   clear h3 b3 HN G E;go_wp2_with fail;refine(HF.o w3 R.o).mono ?_;rintro e a⟨g,rfl,s,m⟩;have Az:=m.size;have V:Hid (q1n w (.slice A n c) (W.map wbS) a):=q1z d.o m;have Aj:Hid (Wds a (some ⟨g,0,none⟩) FS):=s;have i:Hid (Ry K ws pl b (q+1) a):=f.o.keep m;have Ae:Hid (But w b w a):=R.o.trans (But.of (m.mono (by omega)));have Aw:b<a.heap.size:=i.o.row.lt;clear s m d f R;go_wp2_with(at_builtin;refine z6k rfl _ _ rfl w.heap.size _ (W.map wbS) rfl V.o (some ⟨g,0,none⟩) fn FS U.o fn rfl Aj.o (fun e=>by cases e) (n+fn) (by rw[Ag.o]) z (by omega) ?_);intro A5 c5 w5 M C;have u:=Z.o A5 c5 w5 M ?rd5 ?bt5
   case rd5=>exact i.o.keepB ((Below.refl w.heap.size a).grown C (by omega) (fun k hk=>(World.ownsRow.lt V.o k hk).1)) Ao Aq Ap
   case bt5=>exact Ae.o.grown C (by omega) (fun k hk=>(World.ownsRow.lt V.o k hk).1)
   have X:=hid u;clear u M C;go_wp2;refine⟨⟨q+1,_,A5,n+fn,c5,rfl,X.o.1,X.o.2⟩,?_⟩;rw[X.o.2.rd.len_eq,N.o.rd.len_eq];omega
  ·rw[decide_eq_false B]at E
   have At:p<q:=by
    rcases Nat.eq_or_lt_of_le D.pq with e|e
    ·subst e;rw[q3d hp]at B;exact absurd hn B
    ·exact e
   have Q:=j.o q;rw[<-D.eq]at Q;have HJ:Hid (Calls prog 155 #[.slice A n c,.string ⟨#[32]⟩] wr fun e w'=>e=.returned (.string (wbS (jb W)))/\Below wr wr w'):=j4k D.o (by omega)
   have Z:Hid (∀H,Below wr wr H->q9t K ws pl b p w (.returned (.slice (some ⟨H,0,none⟩) 1 1)) (H.alloc (.cells #[.int .i64 9,.string (wbS (jb W)),.int .i64 0] 81))):=fun H hb1=>by
    have D:=N.o;have Ax:=hb1.size;have An:But w b w H:=D.bt.trans (But.of (hb1.mono Ac));refine q9t.ok (q:=q) (n:=true) (t:=[ntT (jb W)]) ⟨At,(q1p.one H (ntT (jb W))).down (by omega),by simp,by simp,(D.rd.keep hb1).keep (q1c H _),An.alloc (by omega) _,fun pv acc r hpv hr=>?_,fun _ x I=>?_⟩
    ·have As:pv=false:=by
      cases pv with
      | false=>rfl
      | true=>exact absurd hn (hpv rfl _ (List.getElem?_eq_getElem hp))
     subst As;rw[k7z ws D.pq];refine v3s (fun e=>?_) D.nt ?_
     ·have:=congrArg List.length e
      rw[List.length_take,List.length_drop]at this;simp only[List.length_nil]at this;omega
     ·rw[<-D.eq];exact hr
    ·obtain⟨O,rfl⟩:=List.getElem?_eq_some_iff.1 I;rw[q3d O]at B;exact B
   generalize wbS (jb W)=J at HJ Z;generalize wbS (ws.getD q [])=S at G E;clear D P B Q;go_wp2_with fail;refine G.o.mono ?_;rintro e H⟨rfl,rfl⟩;go_wp2_with fail;refine E.o.mono ?_;rintro e H⟨rfl,rfl⟩;go_wp2_with fail;refine HJ.o.mono ?_;rintro e H⟨rfl,b1⟩;have Al:=hid (Z.o H b1);clear b1;go_wp2;go_ret;exact Al.o
end Go.Proofs.YtelcnplcpboonaaGreatDoor
