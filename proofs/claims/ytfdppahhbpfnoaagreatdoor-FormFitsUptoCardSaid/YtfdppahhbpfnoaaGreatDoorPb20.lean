import Derived.Test.YtfdppahhbpfnoaaGreatDoorPb18
import Derived.Test.YtfdppahhbpfnoaaGreatDoorShf
import Derived.Test.YtfdppahhbpfnoaaGreatDoorPb14
import Derived.Test.YtfdppahhbpfnoaaGreatDoorPb13
open Go.Proofs.Tryz
namespace Go.Proofs.YtfdppahhbpfnoaaGreatDoor
open Go Go.RowKit
set_option maxRecDepth 100000
set_option maxHeartbeats 4000000
section
variable {K:LwK} {ws:List Wd} {pl:Nat→Nat} {b p:Nat} {w:World}
theorem v6w{X:Wd}(h:Ry K ws pl b p w)(hX:ws.getD p []=X)(ht:X=[]\/q3u X):
  (Calls prog 80 #[.pointer (some ⟨b,0,none⟩)] w fun e w'=>e=.returned (.string (wbS X))/\w=w')/\(Calls prog 227 #[.string (wbS X)] w fun e w'=>e=.returned (.bool (k3y X))/\w=w')/\(Calls prog 176 #[.string (wbS X)] w fun e w'=>e=.returned (.bool (nmW X))/\w=w'):=by
 subst hX;exact⟨(q5x h).mono fun _ _ h=>⟨h.1,h.2.symm⟩,(j2b _ w).mono fun _ _ h=>⟨h.1,h.2.symm⟩,(k6y _ ht w).mono fun _ _ h=>⟨h.1,h.2.symm⟩⟩
theorem z7i(ht:∀x∈ws,q3u x)(hS:∀q,p<q->q<=ws.length->j2k K ws pl b q):y4l K ws pl b p:=by
 intro w h;have t:=h.le;have Ao:b<w.heap.size:=h.row.lt;show Calls prog 204 #[.pointer (some ⟨b,0,none⟩)] w fun e C=>q3s K ws pl b (.level 2) p w e C
 by_cases j:p<ws.length
 ·have L:=ht _ (List.getElem_mem j);have i:=q3j j;obtain⟨d,O,P⟩:=v6w h i (.inr L);have v:Hid (ws.drop p=ws[p]::ws.drop (p+1)):=q4b j;by_cases E:k3y ws[p]=true
  ·rw[E]at O;have B:=(show Hid (Calls _ _ _ _ _)from d);have D:=(show Hid (Calls _ _ _ _ _)from O);obtain⟨l,h6⟩:=y3z L E;have HN:Hid (Calls prog 175 #[.pointer (some ⟨b,0,none⟩)] w fun e C=>e=.returned (.string (wbS ws[p]))/\Ry K ws pl b (p+1) C/\But w b w C):=q7v h j;have HA:Hid (∀W,Calls prog 228 #[.string (wbS ws[p])] W fun e C=>e=.returned (.tuple #[.int .i64 ((j8b ws[p]:Nat):Int),.nilIface])/\Below W W C):=fun W=>v1x ws[p] l (v9l L) h6 W
   have HX:Hid (∀W,Ry K ws pl b (p+1) W->But w b w W->q3s K ws pl b (.level 2) p w (.returned (.slice (some ⟨W,0,none⟩) 1 1)) (W.alloc (.cells #[.int .i64 1,.string ⟨#[]⟩,.int .i64 ((j8b ws[p]:Nat):Int)] 47))):=fun W hW hB=>by
    refine q3s.ok (m:=0) (ns:=[v8b ws[p]]) (u:=ws.drop (p+1)) ⟨by rw[v.o];exact .lev2 (.sNum E),(q1s.one W (v8b ws[p])).down hB.size,?_,?_,hB.alloc hB.size _⟩
    ·rw[q0h,q0h];simp only[List.length_cons,List.length_nil];omega
    ·rw[q0h,show ws.length-(ws.length-(p+1))=p+1 by omega];exact hW.keep (q2m W _)
   generalize wbS ws[p]=S at B D HN HA
   generalize((j8b ws[p]:Nat):Int)=V at HA HX
   clear d O P h hS ht L i E l h6;go_in;go_wp2_with fail;refine B.o.mono ?_;rintro e f⟨rfl,rfl⟩;go_wp2_with fail;refine D.o.mono ?_;rintro e M⟨rfl,rfl⟩;go_wp2_with fail;refine HN.o.mono ?_;rintro e U⟨rfl,h3,z⟩;have K3:=hid (And.intro h3 z);have a:=z.size;clear h3 z;go_wp2_with fail;refine(HA.o _).mono ?_;rintro e w4⟨rfl,b4⟩;have Am:=hid (HX.o w4 (K3.o.1.keep b4) (K3.o.2.trans (But.of (b4.mono a))));clear b4;go_wp2;go_ret;exact Am.o
  ·have G:k3y ws[p]=false:=by simpa using E
   rw[G]at O;have B:=(show Hid (Calls _ _ _ _ _)from d);have D:=(show Hid (Calls _ _ _ _ _)from O);by_cases N:nmW ws[p]=true
   ·rw[N]at P;have H:=(show Hid (Calls _ _ _ _ _)from P);have HN:Hid (Calls prog 229 #[.pointer (some ⟨b,0,none⟩)] w fun e C=>q3s K ws pl b (.level 2) p w e C):=(j2c hS j N h).mono fun _ _ g=>g.lev2
    generalize wbS ws[p]=S at B D H;clear d O P h hS ht L i E G N;go_in;go_wp2_with fail;refine B.o.mono ?_;rintro e f⟨rfl,rfl⟩;go_wp2_with fail;refine D.o.mono ?_;rintro e M⟨rfl,rfl⟩;go_wp2_with fail;refine B.o.mono ?_;rintro e f⟨rfl,rfl⟩;go_wp2_with fail;refine H.o.mono ?_;rintro e M⟨rfl,rfl⟩;go_wp2_with fail;refine HN.o.mono ?_;intro r U g;cases g with
    | @bad u _ pr bt=>
     have X:Hid (q3s K ws pl b (.level 2) p w (.panicked [q4g (pl (ws.length-u.length))]) U):=.bad pr bt;clear pr bt;go_wp2;exact⟨rfl,X.o⟩
    | @ok m ns u A c _ hg=>
     have X:Hid (q3s K ws pl b (.level 2) p w (.returned (.slice A ns.length c)) U):=.ok hg;clear hg;generalize ns.length=nl at X⊢;go_wp2;go_ret;exact X.o
   ·have J:nmW ws[p]=false:=by simpa using N
    rw[J]at P;have H:=(show Hid (Calls _ _ _ _ _)from P);by_cases I:ws[p]=[91]
    ·have hm:ws[p]?=some [91]:=by rw[List.getElem?_eq_getElem j,I]
     have k:Hid (Calls prog 127 #[.pointer (some ⟨b,0,none⟩),.string ⟨#[91]⟩] w fun e C=>e=.returned (.bool true)/\Ry K ws pl b (p+1) C/\But w b w C):=q6w h [91] hm
     have HK:Hid (∀W,Ry K ws pl b (p+1) W->But w b w W->Calls prog 230 #[.pointer (some ⟨b,0,none⟩),.agg #[.int .i64 4,.string ⟨#[]⟩,.int .i64 0],.string ⟨#[93]⟩] W fun r C=>q3s K ws pl b (.level 2) p w r C):=fun W hW hB=>by
      refine(k3t (e:=[93]) (op:=4) (tx:=⟨#[]⟩) (by simp) (by decide) (fun q h1 h2=>hS q (by omega) h2) hW).mono ?_;intro r C g;have hs:=hB.size;cases g with
      | bad pr bt=>exact .bad (by rw[v.o,I];exact .lev2 (.sLB pr)) (hB.trans (bt.mono hs))
      | @ok n ns u A c _ hg=>
       have hl:=hg.n;rw[q0h]at hl;refine q3s.ok (m:=0) (ns:=lsT n::ns) (u:=u) ⟨by rw[v.o,I];exact .lev2 (.sLO hg.pr),hg.o.down hs,?_,hg.rd,hB.trans (hg.bt.mono hs)⟩;rw[q0h,List.length_cons];omega
     generalize wbS ws[p]=S at B D H;clear d O P h hS ht L i E G N J hm I;go_in;go_wp2_with fail;refine B.o.mono ?_;rintro e f⟨rfl,rfl⟩;go_wp2_with fail;refine D.o.mono ?_;rintro e M⟨rfl,rfl⟩;go_wp2_with fail;refine B.o.mono ?_;rintro e f⟨rfl,rfl⟩;go_wp2_with fail;refine H.o.mono ?_;rintro e M⟨rfl,rfl⟩;go_wp2_with fail;refine k.o.mono ?_;rintro e M⟨rfl,h2,b2⟩;have Ak:Hid (Calls prog 230 #[.pointer (some ⟨b,0,none⟩),.agg #[.int .i64 4,.string ⟨#[]⟩,.int .i64 0],.string ⟨#[93]⟩] M fun r C=>q3s K ws pl b (.level 2) p w r C):=HK.o M h2 b2;clear h2 b2 k HK;go_wp2_with fail;refine Ak.o.mono ?_;intro r U g;cases g with
     | @bad u _ pr bt=>
      have X:Hid (q3s K ws pl b (.level 2) p w (.panicked [q4g (pl (ws.length-u.length))]) U):=.bad pr bt;clear pr bt;go_wp2;exact⟨rfl,X.o⟩
     | @ok m ns u A c _ hg=>
      have X:Hid (q3s K ws pl b (.level 2) p w (.returned (.slice A ns.length c)) U):=.ok hg;clear hg;generalize ns.length=nl at X⊢;go_wp2;go_ret;exact X.o
    ·have hm:ws[p]?≠some [91]:=by rw[List.getElem?_eq_getElem j];simpa using I
     have k:Hid (Calls prog 127 #[.pointer (some ⟨b,0,none⟩),.string ⟨#[91]⟩] w fun e C=>e=.returned (.bool false)/\w=C):=(q7u h [91] (by simp) hm).mono fun _ _ h=>⟨h.1,h.2.symm⟩
     by_cases Q:ws[p]=[40]
     ·have Z:ws[p]?=some [40]:=by rw[List.getElem?_eq_getElem j,Q]
      have HM:Hid (Calls prog 129 #[.pointer (some ⟨b,0,none⟩),.string ⟨#[40]⟩] w fun e C=>e=.returned (.tuple #[])/\Ry K ws pl b (p+1) C/\But w b w C):=q5w h [40] Z
      have y:Hid (ws.drop p=[40]::ws.drop (p+1)):=by
       show _=_;rw[v.o,Q]
      have HS:Hid (j2k K ws pl b (p+1)):=hS (p+1) (by omega) (by omega);generalize wbS ws[p]=S at B D H;clear d O P h hS ht L i E G N J hm I Q Z v;go_in;go_wp2_with fail;refine B.o.mono ?_;rintro e f⟨rfl,rfl⟩;go_wp2_with fail;refine D.o.mono ?_;rintro e M⟨rfl,rfl⟩;go_wp2_with fail;refine B.o.mono ?_;rintro e f⟨rfl,rfl⟩;go_wp2_with fail;refine H.o.mono ?_;rintro e M⟨rfl,rfl⟩;go_wp2_with fail;refine k.o.mono ?_;rintro e M⟨rfl,rfl⟩;go_wp2_with fail;refine HM.o.mono ?_;rintro e U⟨rfl,h3,z⟩;have Ad:Hid (But w b w U):=z;have a:=z.size;have Al:Hid (Calls prog 130 #[.pointer (some ⟨b,0,none⟩)] U fun e C=>q3s K ws pl b (.level 0) (p+1) U e C):=HS.o U h3;clear h3 z HM k;go_wp2_with fail;refine Al.o.mono ?_;intro r w4 g;cases g with
      | @bad u _ pr bt=>
       have X:Hid (q3s K ws pl b (.level 2) p w (.panicked [q4g (pl (ws.length-u.length))]) w4):=.bad (by rw[y.o];exact .lev2 (.sPB pr)) (Ad.o.trans (bt.mono a));clear pr bt;go_wp2;exact⟨rfl,X.o⟩
      | @ok m ns u A c _ hg=>
       have Ab:=z0g hg.pr;have hu:ws.drop (ws.length-u.length)=u:=q6k Ab.1;have hl:=hg.n;rw[q0h]at hl;have Ap:=hg.bt.size;have Ae:But w b w w4:=Ad.o.trans (hg.bt.mono a);by_cases R:ws[ws.length-u.length]?=some [41]
       ·obtain⟨Ag,Af⟩:=List.getElem?_eq_some_iff.1 R
        have Ac:u=[41]::ws.drop (ws.length-u.length+1):=by
         have h9:=q4b Ag;rw[hu,Af]at h9;exact h9
        have Y:Hid (Calls prog 129 #[.pointer (some ⟨b,0,none⟩),.string ⟨#[41]⟩] w4 fun e C=>e=.returned (.tuple #[])/\q3s K ws pl b (.level 2) p w (.returned (.slice A ns.length c)) C):=by
         refine(q5w hg.rd [41] R).mono ?_;rintro e w5⟨rfl,h5,b5⟩
         have Aq:u.length=(ws.drop (ws.length-u.length+1)).length+1:=by
          have h9:=congrArg List.length Ac;rw[List.length_cons]at h9;exact h9
         have Aj:=hg.pr;rw[Ac]at Aj;refine⟨rfl,q3s.ok (m:=0) (ns:=ns) (u:=ws.drop (ws.length-u.length+1)) ⟨by rw[y.o];exact .lev2 (.sPC Aj),(hg.o.but2 b5 (by omega)).down a,?_,?_,Ae.trans (b5.mono (by omega))⟩⟩
         ·rw[q0h (p:=p)];omega
         ·rw[show ws.length-(ws.drop (ws.length-u.length+1)).length=ws.length-u.length+1 by omega];exact h5
        clear hg hu Ac R Af Ab hl;generalize ns.length=nl at Y⊢;go_wp2_with fail;refine Y.o.mono ?_;rintro e w5⟨rfl,h5⟩;have K5:=(show Hid (q3s _ _ _ _ _ _ _ _ _)from h5);clear h5;go_wp2;go_ret;exact K5.o
       ·have Y:Hid (Calls prog 129 #[.pointer (some ⟨b,0,none⟩),.string ⟨#[41]⟩] w4 fun e C=>e=.panicked [q4g (pl (ws.length-u.length))]/\q3s K ws pl b (.level 2) p w (.panicked [q4g (pl (ws.length-u.length))]) C):=by
         refine(q6x hg.rd [41] (by simp) R).mono ?_;rintro e w5⟨rfl,rfl⟩;refine⟨rfl,.bad ?_ Ae⟩;rw[y.o];refine .lev2 (.sPX hg.pr ?_);rw[<-hu,q1z];exact R
        clear hg hu R Ab hl;generalize ns.length=nl;generalize pl (ws.length-u.length)=pp at Y;go_wp2_with fail;refine Y.o.mono ?_;rintro e w5⟨rfl,h5⟩;have K5:=(show Hid (q3s _ _ _ _ _ _ _ _ _)from h5);clear h5;go_wp2;exact⟨rfl,K5.o⟩
     ·have Z:ws[p]?≠some [40]:=by rw[List.getElem?_eq_getElem j];simpa using Q
      have HM:Hid (Calls prog 129 #[.pointer (some ⟨b,0,none⟩),.string ⟨#[40]⟩] w fun e C=>e=.panicked [q4g (pl p)]/\w=C):=(q6x h [40] (by simp) Z).mono fun _ _ h=>⟨h.1,h.2.symm⟩
      have HX:Hid (q3s K ws pl b (.level 2) p w (.panicked [q4g (pl p)]) w):=v1k t (by rw[v.o];exact .lev2 (.sBad Q I G J)) (But.refl _ _ _);generalize wbS ws[p]=S at B D H;clear d O P h hS ht L i E G N J hm I Q Z v;go_in;go_wp2_with fail;refine B.o.mono ?_;rintro e f⟨rfl,rfl⟩;go_wp2_with fail;refine D.o.mono ?_;rintro e M⟨rfl,rfl⟩;go_wp2_with fail;refine B.o.mono ?_;rintro e f⟨rfl,rfl⟩;go_wp2_with fail;refine H.o.mono ?_;rintro e M⟨rfl,rfl⟩;go_wp2_with fail;refine k.o.mono ?_;rintro e M⟨rfl,rfl⟩;go_wp2_with fail;refine HM.o.mono ?_;rintro e U⟨rfl,rfl⟩;go_wp2;exact⟨rfl,HX.o⟩
 ·have An:p=ws.length:=by omega
  have i:=q6c (ws:=ws) (q:=p) (by omega);obtain⟨d,O,P⟩:=v6w h i (.inl rfl);have Ah:k3y []=false:=rfl;have Ai:nmW []=false:=by decide
  rw[Ah]at O;rw[Ai]at P;have B:=(show Hid (Calls _ _ _ _ _)from d);have D:=(show Hid (Calls _ _ _ _ _)from O);have H:=(show Hid (Calls _ _ _ _ _)from P);have Aa:∀s,ws[p]?≠some s:=fun s=>by rw[List.getElem?_eq_none (by omega)];simp
  have k:Hid (Calls prog 127 #[.pointer (some ⟨b,0,none⟩),.string ⟨#[91]⟩] w fun e C=>e=.returned (.bool false)/\w=C):=(q7u h [91] (by simp) (Aa _)).mono fun _ _ h=>⟨h.1,h.2.symm⟩
  have HM:Hid (Calls prog 129 #[.pointer (some ⟨b,0,none⟩),.string ⟨#[40]⟩] w fun e C=>e=.panicked [q4g (pl p)]/\w=C):=(q6x h [40] (by simp) (Aa _)).mono fun _ _ h=>⟨h.1,h.2.symm⟩
  have HX:Hid (q3s K ws pl b (.level 2) p w (.panicked [q4g (pl p)]) w):=by
   refine v1k t ?_ (But.refl _ _ _);rw[List.drop_eq_nil_of_le (by omega)];exact .lev2 .sinN
  generalize wbS []=S at B D H;clear d O P h hS ht i Ah Ai Aa An;go_in;go_wp2_with fail;refine B.o.mono ?_;rintro e f⟨rfl,rfl⟩;go_wp2_with fail;refine D.o.mono ?_;rintro e M⟨rfl,rfl⟩;go_wp2_with fail;refine B.o.mono ?_;rintro e f⟨rfl,rfl⟩;go_wp2_with fail;refine H.o.mono ?_;rintro e M⟨rfl,rfl⟩;go_wp2_with fail;refine k.o.mono ?_;rintro e M⟨rfl,rfl⟩;go_wp2_with fail;refine HM.o.mono ?_;rintro e U⟨rfl,rfl⟩;go_wp2;exact⟨rfl,HX.o⟩
theorem v1m(ht:∀x∈ws,q3u x):∀n p,p<=ws.length->ws.length-p<=n->y4l K ws pl b p/\y4m K ws pl b p/\j2k K ws pl b p:=by
 intro n
 induction n with
 | zero=>
  intro p H G;have B:y4l K ws pl b p:=z7i ht fun q A h2=>by omega
  have A:y4m K ws pl b p:=k3u fun q A h2=>by
   obtain rfl:q=p:=by omega
   exact B
  exact⟨B,A,v1p fun q E h4=>by
   obtain rfl:q=p:=by omega
   exact A⟩
 | succ n ih=>
  intro p H G;have B:y4l K ws pl b p:=z7i ht fun q A h2=>(ih q h2 (by omega)).2.2
  have D:∀q,p<=q->q<=ws.length->y4l K ws pl b q:=fun q A h2=>by
   rcases Nat.eq_or_lt_of_le A with rfl|E
   ·exact B
   ·exact(ih q h2 (by omega)).1
  have A:y4m K ws pl b p:=k3u D
  have C:∀q,p<=q->q<=ws.length->y4m K ws pl b q:=fun q h1q h2=>by
   rcases Nat.eq_or_lt_of_le h1q with rfl|E
   ·exact A
   ·exact(ih q h2 (by omega)).2.1
  exact⟨B,A,v1p C⟩
theorem k9o(ht:∀x∈ws,q3u x)(hp:p<=ws.length):j2k K ws pl b p:=(v1m ht _ p hp Zl).2.2
end
theorem j5r(s:ByteArray)(w:World):Calls prog 70 #[.slice none 0 0,.string s] w fun e w'=>e=.returned (.string ⟨#[]⟩)/\Below w w w':=by
 go_in;go_wp2;go_ret;exact⟨rfl,Below.refl _ _⟩
theorem k3c{B:Nat}{w:World}{A:Option Addr}{n c:Nat}{xs:List ByteArray}(h:q2r B (.slice A n c) xs w):n=xs.length/\n<=c/\((A=none/\n=0/\c=0)\/∃g,A=some ⟨g,0,none⟩/\g<w.heap.size):=by
 rcases h.2 with⟨C,G⟩|⟨g,I,E,C,_,H,D,_⟩
 ·simp only[Value.slice.injEq]at C;obtain⟨rfl,rfl,rfl⟩:=C;exact⟨G.symm,Nat.le_refl _,.inl ⟨rfl,rfl,rfl⟩⟩
 ·simp only[Value.slice.injEq]at C;obtain⟨rfl,rfl,rfl⟩:=C;exact⟨rfl,D,.inr ⟨g,rfl,(Array.getElem?_eq_some_iff.1 H).1⟩⟩
theorem j5q{B:Nat}{A:Option Addr}{n c:Nat}{W:List Wd}{w:World}(h:q2r B (.slice A n c) (W.map wbS) w)(hs:szW W<=1000000):Calls prog 70 #[.slice A n c,.string ⟨#[32]⟩] w fun e w'=>e=.returned (.string (wbS (jb W)))/\Below w w w':=by
 obtain⟨M,J,I⟩:=k3c h;have P:=k0b W;have E:=y2b W;have L:(W.map wbS).length=W.length:=List.length_map ..;rcases I with⟨rfl,rfl,rfl⟩|⟨g,rfl,K⟩
 ·have:W=[]:=List.eq_nil_of_length_eq_zero (by omega)
  subst this;exact j5r _ w
 ·subst M
  have H:(W.map wbS).map (fun x=>x.data.toList)=W:=by
   rw[List.map_map];exact List.map_id W
  have C:Lib.join ((W.map wbS).map (fun x=>x.data.toList)) (⟨#[32]⟩:ByteArray).data.toList=jb W:=by
   rw[H];exact j5m W
  have D:=join_sh g 0 c (W.map wbS) ⟨#[32]⟩ w ?_ K (by omega) J (by rw[C];omega)
  ·rw[C]at D;exact D
  ·intro j x N;obtain⟨E,rfl⟩:=List.getElem?_eq_some_iff.1 N;obtain⟨O,Q,e,_,G⟩:=z0m h j E;simp only[Option.some.injEq,Addr.mk.injEq,and_true]at e;obtain⟨rfl,rfl⟩:=e;exact G
theorem y4i{w:Wd}{S:ByteArray}(h:wbS w=S):S.extract 1 S.size=wbS (w.drop 1):=by
 subst h;rw[z5a]
 congr 1
 rw[List.take_of_length_le]
 ·rfl
 ·rw[List.length_drop,q0c];omega
theorem j0j{x:Wd}(hx:v7w x)(hl:x.length<=60000)(w:World)(ht:z1a w):Calls prog 103 #[.string (wbS (x.drop 1))] w fun e w'=>∃g,e=.returned (.slice (some ⟨g,0,none⟩) (q9i x).length (q9i x).length)/\Wds w' (some ⟨g,0,none⟩) ((q9i x).map wbS)/\Below w w w':=by
 have B:btL (wbS (x.drop 1))=x.drop 1:=rfl;refine(fields_sh (wbS (x.drop 1)) w (by rw[<-q0c,B,List.length_drop];omega) ?_ ht.spc).mono ?_
 ·intro j c D;have G:c∈x:=List.mem_of_mem_drop (List.mem_of_getElem? (show(x.drop 1)[j]?=some c from D))
  have:=hx.2 c G
  simp only[prB,Bool.and_eq_true,decide_eq_true_eq]at this;omega
 ·rintro e w'⟨rfl,rfl⟩;refine⟨w.heap.size,rfl,?_,q2m w _⟩;intro i C;have A:i<(q9i x).length:=by simpa using C
  refine⟨w.heap.size,0,rfl,by rw[World.size_alloc];omega,?_⟩;rw[Nat.zero_add];have E:=heap_alloc_new w (.cells ((Lib.fields (btL (wbS (x.drop 1)))).map fun l=>Value.string ⟨l.toArray⟩).toArray 9);rw[Lib.cell_of_heap E]
  show((Lib.fields (x.drop 1)).map fun l=>Value.string ⟨l.toArray⟩).toArray[i]?=_
  rw[List.getElem?_toArray,List.getElem?_map,show(Lib.fields (x.drop 1))[i]?=some (q9i x)[i]from List.getElem?_eq_getElem A];simp[wbS]
theorem k2n:∀(ws:List Wd)(x:Wd),x∈ws->x.length<=(ws.map List.length).sum
 | y::r,x,h=>by
  rw[List.map_cons,List.sum_cons];rcases List.mem_cons.1 h with rfl|h
  ·omega
  ·have:=k2n r x h
   omega
structure y9o(K:LwK)(ws:List Wd)(pl:Nat->Nat)(b p:Nat)(w:World)(q:Nat)(W:List Wd)(v:Value)(wr:World):Prop where
 pq:p<=q
 o:q2r w v (W.map wbS) wr
 rd:Ry K ws pl b q wr
 bt:But w b w wr
 eq:W=((ws.drop p).take (q-p)).flatMap q9i
 nt:∀x∈(ws.drop p).take (q-p),v7w x
structure y4s(K:LwK)(ws:List Wd)(pl:Nat->Nat)(b p:Nat)(w:World)(q:Nat)(n:Bool)(t:List Td)(v:Value)(w':World):Prop where
 lt:p<q
 o:q1s w v t w'
 ne:t≠[]
 l:t.length<=100000
 rd:Ry K ws pl b q w'
 bt:But w b w w'
 pg:∀pv acc r,(pv=true->∀x,ws[p]?=some x->x.headD 0≠35)->PG n (acc++[t]) (ws.drop q) r->PG pv acc (ws.drop p) r
 nx:n=true->∀x,ws[q]?=some x->x.headD 0≠35
inductive z0v (K:LwK) (ws:List Wd) (pl:Nat->Nat) (b p:Nat) (w:World):Ending->World->Prop where
 | ok {q n t A c w'} (h:y4s K ws pl b p w q n t (.slice A t.length c) w'):z0v K ws pl b p w (.returned (.slice A t.length c)) w'
 | bad {u w'} (pg:∀pv acc,PG pv acc (ws.drop p) (.bad u)) (bt:But w b w w'):z0v K ws pl b p w (.panicked [q4g (pl (ws.length-u.length))]) w'
theorem k0c{ws:List Wd}{p q:Nat}(h:p<=q)(hq:q<ws.length):(ws.drop p).take (q+1-p)=(ws.drop p).take (q-p)++[ws[q]]:=by
 rw[show q+1-p=q-p+1 by omega,List.take_succ_eq_append_getElem (by rw[List.length_drop];omega)]
 congr 2
 rw[List.getElem_drop]
 congr 1
 omega
theorem j0f(ws:List Wd){p q:Nat}(h:p<=q):ws.drop p=(ws.drop p).take (q-p)++ws.drop q:=by
 have e:ws.drop q=(ws.drop p).drop (q-p):=by rw[List.drop_drop];congr 1;omega
 rw[e,List.take_append_drop]
theorem j2d{K:LwK}{ws:List Wd}{pl:Nat->Nat}{b p:Nat}{w:World}(Ab:∀x∈ws,q3u x)(Av:(ws.map List.length).sum<=60000)(hp:p<ws.length)(hn:ws[p].headD 0=35)(v:∀w',But w b w w'->z1a w')(h:Ry K ws pl b p w):
  Calls prog 126 #[.pointer (some ⟨b,0,none⟩)] w fun e w'=>z0v K ws pl b p w e w':=by
 have l:Hid (∀x∈ws,q3u x):=Ab;have Ah:Hid (∀w',But w b w w'->z1a w'):=v
 have Af:Hid (∀x∈ws,x.length<=60000):=fun x I=>by
  have:=k2n ws x I
  omega
 have j:Hid (∀q,szW (((ws.drop p).take (q-p)).flatMap q9i)<=120000):=fun q=>by
  have h1:=j4w ((ws.drop p).take (q-p));have h2:=v5x ws p (q-p);omega
 have Ao:b<w.heap.size:=h.row.lt;have Aq:=h.gwlt;have Ap:=h.galt;have Ai:Hid (y9o K ws pl b p w p [] (.slice none 0 0) w):=⟨Nat.le_refl _,World.ownsRow_nil _ _ _ _,h,But.refl _ _ _,by simp,fun x I=>by simp at I⟩;clear h Ab v;go_in;go_wp2_with fail
 go_loopw [3] (fun x wr=>∃(q:Nat)(W:List Wd)(A:Option Addr)(n c:Nat),x=.slice A n c/\W.length=n/\y9o K ws pl b p w q W (.slice A n c) wr) (fun _ wr=>j1m wr b)
 case atStart=>exact⟨p,[],_,_,_,rfl,rfl,Ai.o⟩
 case round=>
  obtain⟨q,W,A,n,c,rfl,P,D⟩:=hrel;have Au:=D.rd.le;have N:=hid D;have Ak:Hid (W.length=n):=P;have Ac:=D.bt.size;have G:Hid (Calls prog 80 #[.pointer (some ⟨b,0,none⟩)] wr fun e w'=>e=.returned (.string (wbS (ws.getD q [])))/\wr=w'):=(q5x D.rd).mono fun _ _ h=>⟨h.1,h.2.symm⟩
  have E:Hid (Calls prog 125 #[.string (wbS (ws.getD q []))] wr fun e w'=>e=.returned (.bool (decide ((ws.getD q []).headD 0=35)))/\wr=w'):=(z5f _ wr).mono fun _ _ h=>⟨h.1,h.2.symm⟩
  by_cases B:(ws.getD q []).headD 0=35
  ·have O:q<ws.length:=by
    rcases Nat.lt_or_ge q ws.length with h'|h'
    ·exact h'
    ·rw[q6c h']at B;simp at B
   rw[decide_eq_true B]at E;rw[q3j O]at B G E;have L:=y7z (l.o _ (List.getElem_mem O)) B;have HN:Hid (Calls prog 175 #[.pointer (some ⟨b,0,none⟩)] wr fun e w'=>e=.returned (.string (wbS ws[q]))/\Ry K ws pl b (q+1) w'/\But wr b wr w'):=q7v D.rd O
   have Aa:1<=(wbS ws[q]).size:=by
    have:=v0d (l.o _ (List.getElem_mem O))
    rw[<-q0c];exact this
   have HF:Hid (∀W',But w b w W'->Calls prog 103 #[.string ((wbS ws[q]).extract 1 (wbS ws[q]).size)] W' fun e w'=>∃g,e=.returned (.slice (some ⟨g,0,none⟩) (q9i ws[q]).length (q9i ws[q]).length)/\Wds w' (some ⟨g,0,none⟩) ((q9i ws[q]).map wbS)/\Below W' W' w'):=fun W' hB=>by
    rw[y4i rfl];exact j0j L (Af.o _ (List.getElem_mem O)) W' (Ah.o W' hB)
   have Y:=j.o (q+1);rw[k0c D.pq O,List.flatMap_append,<-D.eq,List.flatMap_singleton,k6o]at Y;have Ar:=k0b W;have y:=k0b (q9i ws[q]);have z:n+(q9i ws[q]).length<=1000000:=by omega
   have Z:Hid (∀A2 c2 w2,q2r w (.slice A2 (n+(q9i ws[q]).length) c2) (W.map wbS++(q9i ws[q]).map wbS) w2->Ry K ws pl b (q+1) w2->But w b w w2->(W++q9i ws[q]).length=n+(q9i ws[q]).length/\y9o K ws pl b p w (q+1) (W++q9i ws[q]) (.slice A2 (n+(q9i ws[q]).length) c2) w2):=fun A2 c2 w2 h1 h2 h3=>by
    refine⟨by rw[List.length_append,Ak.o],Nat.le_succ_of_le N.o.pq,by rw[List.map_append];exact h1,h2,h3,?_,?_⟩
    ·rw[k0c N.o.pq O,List.flatMap_append,<-N.o.eq,List.flatMap_singleton]
    ·rw[k0c N.o.pq O];intro x I;rcases List.mem_append.1 I with I|I
     ·exact N.o.nt x I
     ·rw[List.mem_singleton]at I;rw[I];exact L
   have U:Hid (((q9i ws[q]).map wbS).length=(q9i ws[q]).length):=List.length_map ..;have Ag:Hid ((W.map wbS).length=n):=(show _=_ by rw[List.length_map];exact P);generalize wbS ws[q]=S at G E HN HF Aa
   generalize(q9i ws[q]).map wbS=FS at HF Z U
   generalize(q9i ws[q]).length=fn at HF Z z U Y y
   clear D P B L Y Ar y;go_wp2_with fail;refine G.o.mono ?_;rintro e H⟨rfl,rfl⟩;go_wp2_with fail;refine E.o.mono ?_;rintro e H⟨rfl,rfl⟩;go_wp2_with fail;refine HN.o.mono ?_;rintro e w3⟨rfl,h3,b3⟩;have Ay:=b3.size;have R:Hid (But w b w w3):=N.o.bt.trans (b3.mono Ac);have f:Hid (Ry K ws pl b (q+1) w3):=h3
   have d:Hid (q2r w (.slice A n c) (W.map wbS) w3):=by
    refine⟨N.o.o.1,?_⟩;rcases N.o.o.2 with h0|⟨g,c',Am,hv,hB,hg,Ad⟩
    ·exact .inl h0
    ·exact .inr ⟨g,c',Am,hv,hB,(b3.block g (Array.getElem?_eq_some_iff.1 hg).1 (by omega)).trans hg,Ad⟩
   clear h3 b3 HN G E;go_wp2_with fail;refine(HF.o w3 R.o).mono ?_;rintro e a⟨g,rfl,s,m⟩;have Az:=m.size;have V:Hid (q2r w (.slice A n c) (W.map wbS) a):=q2s d.o m;have Aj:Hid (Wds a (some ⟨g,0,none⟩) FS):=s;have i:Hid (Ry K ws pl b (q+1) a):=f.o.keep m;have Ae:Hid (But w b w a):=R.o.trans (But.of (m.mono (by omega)));have Aw:b<a.heap.size:=i.o.row.lt;clear s m d f R;go_wp2_with(at_builtin;refine k7c rfl _ _ rfl w.heap.size _ (W.map wbS) rfl V.o (some ⟨g,0,none⟩) fn FS U.o fn rfl Aj.o (fun e=>by cases e) (n+fn) (by rw[Ag.o]) z (by omega) ?_);intro A5 c5 w5 M C;have u:=Z.o A5 c5 w5 M ?rd5 ?bt5
   case rd5=>exact i.o.keepB ((Below.refl w.heap.size a).grown C (by omega) (fun k hk=>(World.ownsRow.lt V.o k hk).1)) Ao Aq Ap
   case bt5=>exact Ae.o.grown C (by omega) (fun k hk=>(World.ownsRow.lt V.o k hk).1)
   have X:=hid u;clear u M C;go_wp2;refine⟨⟨q+1,_,A5,n+fn,c5,rfl,X.o.1,X.o.2⟩,?_⟩;rw[X.o.2.rd.len_eq,N.o.rd.len_eq];omega
  ·rw[decide_eq_false B]at E
   have At:p<q:=by
    rcases Nat.eq_or_lt_of_le D.pq with e|e
    ·subst e;rw[q3j hp]at B;exact absurd hn B
    ·exact e
   have Q:=j.o q;rw[<-D.eq]at Q;have HJ:Hid (Calls prog 70 #[.slice A n c,.string ⟨#[32]⟩] wr fun e w'=>e=.returned (.string (wbS (jb W)))/\Below wr wr w'):=j5q D.o (by omega)
   have Z:Hid (∀H,Below wr wr H->z0v K ws pl b p w (.returned (.slice (some ⟨H,0,none⟩) 1 1)) (H.alloc (.cells #[.int .i64 9,.string (wbS (jb W)),.int .i64 0] 47))):=fun H hb1=>by
    have D:=N.o;have Ax:=hb1.size;have An:But w b w H:=D.bt.trans (But.of (hb1.mono Ac));refine z0v.ok (q:=q) (n:=true) (t:=[ntT (jb W)]) ⟨At,(q1s.one H (ntT (jb W))).down (by omega),by simp,by simp,(D.rd.keep hb1).keep (q2m H _),An.alloc (by omega) _,fun pv acc r hpv hr=>?_,fun _ x I=>?_⟩
    ·have As:pv=false:=by
      cases pv with
      | false=>rfl
      | true=>exact absurd hn (hpv rfl _ (List.getElem?_eq_getElem hp))
     subst As;rw[j0f ws D.pq];refine v5f (fun e=>?_) D.nt ?_
     ·have:=congrArg List.length e
      rw[List.length_take,List.length_drop]at this;simp only[List.length_nil]at this;omega
     ·rw[<-D.eq];exact hr
    ·obtain⟨O,rfl⟩:=List.getElem?_eq_some_iff.1 I;rw[q3j O]at B;exact B
   generalize wbS (jb W)=J at HJ Z;generalize wbS (ws.getD q [])=S at G E;clear D P B Q;go_wp2_with fail;refine G.o.mono ?_;rintro e H⟨rfl,rfl⟩;go_wp2_with fail;refine E.o.mono ?_;rintro e H⟨rfl,rfl⟩;go_wp2_with fail;refine HJ.o.mono ?_;rintro e H⟨rfl,b1⟩;have Al:=hid (Z.o H b1);clear b1;go_wp2;go_ret;exact Al.o
def g2b(L:List UInt8):List Int:=(z9u L).map fun(k:Nat)=>(k:Int)
def g2d(L:List UInt8):List ByteArray:=(q2p L).map wbS
structure y9q(L:List UInt8)(A P:Option Addr)(ac pc:Nat)(w:World):Prop where
 ws:Wds w A (g2d L)
 ps:q7w w P (g2b L)
 wl:(q2p L).length<=ac
 pl:(q2p L).length<=pc
 wn:A=none->(q2p L).length=0/\ac=0
 pn:P=none->(q2p L).length=0/\pc=0
theorem y9q.W{L:List UInt8}{A P:Option Addr}{ac pc:Nat}{w w':World}(h:y9q L A P ac pc w)(hb:Below w w w'):y9q L A P ac pc w':=
 {ws:=h.ws.W hb,ps:=h.ps.W hb,wl:=h.wl,pl:=h.pl,wn:=h.wn,pn:=h.pn}
theorem y2k{L:List UInt8}(h:q7a L=0):(q2p L).length<=60000:=Nat.le_trans (v0r L) (z4e h).1
theorem v1g(ws:List ByteArray)(a:Option Addr)(cap:Nat)(wd:Int)(w:World)(hW:Wds w a ws):
  Calls prog 104 #[.slice a ws.length cap,.int .i64 wd] w fun e w'=>e=.returned (q1m (q6b ws wd))/\w=w':=by
 have D:Hid (Wds w a ws):=hW;clear hW;by_cases C:q0s ws=0
 ·have B:Hid (q0s ws=0):=C;clear C;by_cases H:wd<1
  ·have A:Hid (q6b ws wd=1):=by
    show q6b ws wd=1;rw[q6b,if_neg (by rw[B.o];simp),if_pos (.inl H)]
   go_in;go_wp2_with fail;refine(q5v ws a cap _ D.o).mono ?_;rintro e E⟨rfl,rfl⟩;rw[B.o,q0n];go_wp2;go_ret;exact⟨by rw[A.o];rfl,rfl⟩
  by_cases I:100<wd
  ·have A:Hid (q6b ws wd=1):=by
    show q6b ws wd=1;rw[q6b,if_neg (by rw[B.o];simp),if_pos (.inr I)]
   go_in;go_wp2_with fail;refine(q5v ws a cap _ D.o).mono ?_;rintro e E⟨rfl,rfl⟩;rw[B.o,q0n];go_wp2;go_ret;exact⟨by rw[A.o];rfl,rfl⟩
  ·have A:Hid (q6b ws wd=0):=by
    show q6b ws wd=0;rw[q6b,if_neg (by rw[B.o];simp),if_neg (by omega)]
   go_in;go_wp2_with fail;refine(q5v ws a cap _ D.o).mono ?_;rintro e E⟨rfl,rfl⟩;rw[B.o,q0n];go_wp2;go_ret;exact⟨by rw[A.o];rfl,rfl⟩
 ·have A:Hid (q6b ws wd=q0s ws):=by
   show q6b ws wd=q0s ws;rw[q6b,if_pos C]
  have G:Hid (q1m (q0s ws)=.iface 23 (.int .i64 (q0s ws))):=q0k C;clear C;go_in;go_wp2_with fail;refine(q5v ws a cap _ D.o).mono ?_;rintro e E⟨rfl,rfl⟩;rw[G.o];go_wp2;go_ret;exact⟨by rw[A.o,G.o];rfl,rfl⟩
theorem v1f(ws:List ByteArray)(a:Option Addr)(cap:Nat)(w:World)(h0:ws≠[])(hF:Few ws)(hW:Wds w a ws):
  Calls prog 158 #[.slice a ws.length cap] w fun e w'=>e=.returned (.int .i64 (ln ws))/\w=w':=by
 have H:Hid (Wds w a ws):=hW;have Q:0<ws.length:=List.length_pos_iff.2 h0;have P:=hF.1
 have E:Hid ((ln ws:Int)=(ws.length:Int)-1+tot ws):=by
  show(ln ws:Int)=_
  simp only[ln];omega
 have D:Hid (Few ws):=hF;clear hW hF h0;go_in;go_wp2
 go_loopw [3,11] (fun s i wr=>wr=w/\∃k:Nat,k<=ws.length/\i=.int .i64 k/\s=.int .i64 ((ws.length:Int)-1+tot (ws.take k))) (fun _ i _=>ws.length-(intOf i).toNat)
 case atStart=>exact⟨rfl,0,Nat.zero_le _,rfl,by simp[tot]⟩
 case round=>
  obtain⟨rfl,k,O,rfl,rfl⟩:=hrel;by_cases A:k<ws.length
  ·obtain⟨N,R,J,K,I⟩:=H.o k A;subst J;have B:Hid (tot (ws.take (k+1))=tot (ws.take k)+ws[k].size):=v6g A;have L:=(D.o.take k).tot;have M:=D.o.2 _ (List.getElem_mem A);generalize ws[k]=x at I B M;generalize tot (ws.take k)=t0 at B L;go_wp2
   go_roundw
   case rel=>exact⟨by trivial,k+1,by omega,by go_num,by rw[B.o];go_num⟩
   case measure=>simp[intOf];omega
  ·have C:k=ws.length:=by omega
   subst C;have G:Hid (tot (ws.take ws.length)=tot ws):=by show _=_;rw[List.take_length]
   go_wp2;go_ret;exact⟨by rw[E.o,<-G.o];rfl,rfl⟩
theorem y0c{n wd:Nat}{last:Bool}(h:wd<n):(bd n wd last:Int)=1000*((n:Int)-wd):=by
 rw[bd,if_pos h];omega
theorem y0b{n wd:Nat}(h:¬wd<n):bd n wd true=0:=by rw[bd,if_neg h];rfl
theorem v2a{n wd:Nat}(h:¬wd<n):(bd n wd false:Int)=((wd:Int)-n)*((wd:Int)-n):=by
 rw[bd,if_neg h];simp only[Bool.false_eq_true,if_false];rw[Int.natCast_mul]
 congr 1<;>omega
theorem v6q(n wd:Nat)(last:Bool)(w:World)(hn:n<=1260)(hw:wd<=100):
  Calls prog 157 #[.int .i64 n,.int .i64 wd,.bool last] w fun e w'=>e=.returned (.int .i64 (bd n wd last))/\w=w':=by
 by_cases h:wd<n
 ·have A:Hid ((bd n wd last:Int)=1000*((n:Int)-wd)):=y0c h;have B:(wd:Int)-n<0:=by omega
  clear h;go_in;go_wp2;go_ret;exact⟨by rw[A.o];go_num,rfl⟩
 ·cases last with
  | true=>
   have A:Hid (bd n wd true=0):=y0b h;have B:¬(wd:Int)-n<0:=by omega
   clear h;go_in;go_wp2;go_ret;exact⟨by rw[A.o];rfl,rfl⟩
  | false=>
   have A:Hid ((bd n wd false:Int)=((wd:Int)-n)*((wd:Int)-n)):=v2a h;have B:¬(wd:Int)-n<0:=by omega
   obtain⟨m,C⟩:∃m:Int,m=(wd:Int)-n:=⟨_,rfl⟩;have G:IntKind.i64.wrap ((wd:Int)-n)=(wd:Int)-n:=by rw[IntKind.wrap_i64];omega
   have H:IntKind.i64.wrap (((wd:Int)-n)*((wd:Int)-n))=((wd:Int)-n)*((wd:Int)-n):=by
    have D:0<=((wd:Int)-n)*((wd:Int)-n):=Int.mul_nonneg (by omega) (by omega);have E:((wd:Int)-n)*((wd:Int)-n)<=100*100:=Int.mul_le_mul (by omega) (by omega) (by omega) (by omega);rw[IntKind.wrap_i64];omega
   clear h C;go_in;go_wp2;go_ret;exact⟨by rw[A.o];rfl,rfl⟩
theorem v6u(n:Nat)(ws:List ByteArray)(hn:ws.length=n)(a:Option Addr)(cap:Nat)(w:World)(h0:ws≠[])(hF:Few ws)(hW:Wds w a ws):
  Calls prog 158 #[.slice a n cap] w fun e w'=>e=.returned (.int .i64 (ln ws))/\w=w':=by
 subst hn;exact v1f ws a cap w h0 hF hW
structure Lst(wd:Nat)(ws:List ByteArray)(bL bF k:Nat)(w:World):Prop where
 ne:bL≠bF
 rl:k0j w bL (ws.length+1)
 rf:k0j w bF ws.length
 cl:∀j,k<=j->j<=ws.length->w.cell? ⟨bL,j,none⟩=some (.int .i64 ((best wd (ws.drop j):Nat):Int))
 cf:∀j,k<=j->j<ws.length->w.cell? ⟨bF,j,none⟩=some (.int .i64 ((agF wd (ws.drop j):Nat):Int))
theorem Lst.kept{wd:Nat}{ws:List ByteArray}{bL bF k:Nat}{w w':World}(h:Lst wd ws bL bF k w)(h1:w'.heap[bL]?=w.heap[bL]?)(h2:w'.heap[bF]?=w.heap[bF]?):Lst wd ws bL bF k w' where
 ne:=h.ne
 rl:=h.rl.kept h1
 rf:=h.rf.kept h2
 cl:=fun j a b=>(World.cell?_of_block (w:=w) (a:=⟨bL,j,none⟩) h1).trans (h.cl j a b)
 cf:=fun j a b=>(World.cell?_of_block (w:=w) (a:=⟨bF,j,none⟩) h2).trans (h.cf j a b)
theorem Lst.made(wd:Nat)(ws:List ByteArray)(w:World):
  Lst wd ws w.heap.size (w.heap.size+1) ws.length ((w.alloc (.cells (madeCells #[.int .i64 0] (ws.length+1)) 3)).alloc (.cells (madeCells #[.int .i64 0] ws.length) 3)):=by
 have A:((w.alloc (.cells (madeCells #[.int .i64 0] (ws.length+1)) 3)).alloc (.cells (madeCells #[.int .i64 0] ws.length) 3)).heap[w.heap.size]?=some (.cells (madeCells #[.int .i64 0] (ws.length+1)) 3 (0,0)):=
  (Below.heap_alloc _ _ _ (by simp)).trans (heap_alloc_new w _)
 have B:((w.alloc (.cells (madeCells #[.int .i64 0] (ws.length+1)) 3)).alloc (.cells (madeCells #[.int .i64 0] ws.length) 3)).heap[w.heap.size+1]?=some (.cells (madeCells #[.int .i64 0] ws.length) 3 (0,0)):=by
  have:=heap_alloc_new (w.alloc (.cells (madeCells #[.int .i64 0] (ws.length+1)) 3)) (.cells (madeCells #[.int .i64 0] ws.length) 3)
  simpa using this
 refine⟨by omega,⟨_,_,A,size_madeCells _ _⟩,⟨_,_,B,size_madeCells _ _⟩,fun j a b=>?_,fun j a b=>by omega⟩;obtain rfl:j=ws.length:=by omega
 have:best wd (ws.drop ws.length)=0:=by rw[List.drop_length];rfl
 rw[this];simp only[World.cell?,A];exact k2k _ (by omega)
structure Mid(wd:Nat)(ws:List ByteArray)(bL bF i m:Nat)(w:World):Prop where
 l:Lst wd ws bL bF (i+1) w
 c:1<=m->w.cell? ⟨bL,i,none⟩=some (.int .i64 ((z4h (fOf wd (ws.drop i)) m:Nat):Int))/\w.cell? ⟨bF,i,none⟩=some (.int .i64 ((v1q (fOf wd (ws.drop i)) m:Nat):Int))
theorem Mid.kept{wd:Nat}{ws:List ByteArray}{bL bF i m:Nat}{w w':World}(h:Mid wd ws bL bF i m w)(h1:w'.heap[bL]?=w.heap[bL]?)(h2:w'.heap[bF]?=w.heap[bF]?):Mid wd ws bL bF i m w' where
 l:=h.l.kept h1 h2
 c:=fun hm=>⟨(World.cell?_of_block (w:=w) (a:=⟨bL,i,none⟩) h1).trans (h.c hm).1,(World.cell?_of_block (w:=w) (a:=⟨bF,i,none⟩) h2).trans (h.c hm).2⟩
theorem Mid.start{wd:Nat}{ws:List ByteArray}{bL bF i:Nat}{w:World}(h:Lst wd ws bL bF (i+1) w):Mid wd ws bL bF i 0 w:=⟨h,fun hm=>by omega⟩
theorem Mid.skip{wd:Nat}{ws:List ByteArray}{bL bF i m:Nat}{w:World}(h:Mid wd ws bL bF i m w)(h1:¬(m=0\/fOf wd (ws.drop i) (m+1)<=z4h (fOf wd (ws.drop i)) m)):Mid wd ws bL bF i (m+1) w:=by
 refine⟨h.l,fun _=>?_⟩;rw[z4h,v1q,if_neg h1,if_neg h1];exact h.c (by omega)
theorem Mid.put{wd:Nat}{ws:List ByteArray}{bL bF i m:Nat}{w:World}(h:Mid wd ws bL bF i m w)(hi:i<ws.length)(h1:m=0\/fOf wd (ws.drop i) (m+1)<=z4h (fOf wd (ws.drop i)) m):
  Mid wd ws bL bF i (m+1) ((w.setCell ⟨bL,i,none⟩ (.int .i64 ((fOf wd (ws.drop i) (m+1):Nat):Int))).setCell ⟨bF,i,none⟩ (.int .i64 ((m:Int)+1))):=by
 have ne:=h.l.ne;refine⟨⟨ne,h.l.rl.set.set,h.l.rf.set.set,fun j a b=>?_,fun j a b=>?_⟩,fun _=>?_⟩
 ·exact(cso (.inl (Ne.symm ne))).trans ((cso (.inr (by omega))).trans (h.l.cl j a b))
 ·exact(cso (.inr (by omega))).trans ((cso (.inl ne)).trans (h.l.cf j a b))
 ·rw[z4h,v1q,if_pos h1,if_pos h1];obtain⟨C,A⟩:=h.l.rl.cell (i:=i) (by omega);obtain⟨D,B⟩:=h.l.rf.cell (i:=i) hi;exact⟨(cso (.inl (Ne.symm ne))).trans (css A),css ((cso (.inl ne)).trans B)⟩
theorem Mid.done{wd:Nat}{ws:List ByteArray}{bL bF i m:Nat}{w:World}(h:Mid wd ws bL bF i m w)(hi:i<ws.length)(hm:m=ws.length-i):Lst wd ws bL bF i w:=by
 have A:ws.drop i≠[]:=fun e=>by
  have:=congrArg List.length e
  rw[List.length_drop,List.length_nil]at this;omega
 obtain⟨B,C⟩:=h.c (by omega);refine⟨h.l.ne,h.l.rl,h.l.rf,fun j a b=>?_,fun j a b=>?_⟩
 ·by_cases e:j=i
  ·subst e;rw[k4f wd A,List.length_drop,<-hm];exact B
  ·exact h.l.cl j (by omega) b
 ·by_cases e:j=i
  ·subst e;rw[agF,List.length_drop,<-hm];exact C
  ·exact h.l.cf j (by omega) b
theorem y5q(wd:Nat)(ws:List ByteArray)(i k:Nat):fOf wd (ws.drop i) k=bd (ln ((ws.drop i).take k)) wd (k==ws.length-i)+best wd (ws.drop (i+k)):=by
 rw[fOf,List.drop_drop,List.length_drop]
theorem Lst.next{wd:Nat}{ws:List ByteArray}{bL bF i m:Nat}{w:World}(h:Mid wd ws bL bF i m w)(hm:i+(m+1)<=ws.length):w.cell? ⟨bL,i+(m+1),none⟩=some (.int .i64 ((best wd (ws.drop (i+(m+1))):Nat):Int)):=h.l.cl _ (by omega) hm
def Hnd(w:World):Prop:=w.cell? ⟨0,0,none⟩=some (.iface 227 (.agg #[.pointer (some ⟨12,29,none⟩)]))
theorem Hnd.lt{w:World}(h:Hnd w):0<w.heap.size:=by
 unfold Hnd at h;rcases Nat.lt_or_ge 0 w.heap.size with A|A
 ·exact A
 ·simp[World.cell?,Array.getElem?_eq_none A]at h
theorem Hnd.W{w w':World}(h:Hnd w)(hb:Below w w w'):Hnd w':=((q1o hb).1 _ _ h.lt).trans h
theorem Hnd.alloc{w:World}(h:Hnd w)(o:Obj):Hnd (w.alloc o):=h.W (Zb.alloc Zl _)
end Go.Proofs.YtfdppahhbpfnoaaGreatDoor
