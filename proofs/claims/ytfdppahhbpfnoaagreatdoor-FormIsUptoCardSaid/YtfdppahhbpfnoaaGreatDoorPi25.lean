import Derived.Test.YtfdppahhbpfnoaaGreatDoorPi23
import Derived.Test.YtfdppahhbpfnoaaGreatDoorPi18
import Derived.Test.YtfdppahhbpfnoaaGreatDoorPi20
open Go.Proofs.Tryz
namespace Go.Proofs.YtfdppahhbpfnoaaGreatDoor
open Go Go.RowKit
set_option maxRecDepth 100000
set_option maxHeartbeats 16000000
def k5q(s:ByteArray)(W:World)(e:Ending)(w':World):Prop:=∃ps k f A c,e=.returned (.tuple #[.slice A ps.length c,.int .i64 k,.int .i64 f])/\q6r s ps k f/\Prg w' A ps/\(A=none->ps.length=0/\c=0)/\ps.length<=c/\Below W W w'
theorem q4v{s:ByteArray}{W w':World}{k f:Int}(h:q6r s [] k f)(hb:Below W W w'):k5q s W (.returned (.tuple #[.slice none 0 0,.int .i64 k,.int .i64 f])) w':=
 ⟨[],k,f,none,0,rfl,h,Prg.nil _ _,fun _=>⟨rfl,rfl⟩,Nat.le_refl _,hb⟩
theorem v5f{B:Nat}{w:World}{A:Option Addr}{n c:Nat}{xs:List ByteArray}(h:q2g B (.slice A n c) xs w):∀ba oa,A=some ⟨ba,oa,none⟩->ba<w.heap.size:=by
 intro ba oa e;rcases h.2 with⟨C,_⟩|⟨g,G,D,C,_,E,_⟩
 ·simp only[Value.slice.injEq]at C;rw[C.1]at e;cases e
 ·simp only[Value.slice.injEq]at C;rw[C.1]at e;simp only[Option.some.injEq,Addr.mk.injEq,and_true]at e;rw[<-e.1];exact(Array.getElem?_eq_some_iff.1 E).1
theorem y5b{w:World}{A:Option Addr}{c:Nat}{ws:List Wd}(hw:Wds w A (ws.map wbS))(D:∀ba oa,A=some ⟨ba,oa,none⟩->ba<w.heap.size):Rd (w.alloc (.cells #[.slice A ws.length c,.int .i64 0,.bool false] 73)) w.heap.size A c ws 0 false:=by
 have B:(w.alloc (.cells #[.slice A ws.length c,.int .i64 0,.bool false] 73)).heap[w.heap.size]?=some (.cells #[.slice A ws.length c,.int .i64 0,.bool false] 73 (0,0)):=by
  show(w.heap.push _)[w.heap.size]?=_
  simp
 have C:∀k,(w.alloc (.cells #[.slice A ws.length c,.int .i64 0,.bool false] 73)).cell? ⟨w,k,none⟩=(match (w.alloc (.cells #[.slice A ws.length c,.int .i64 0,.bool false] 73)).heap[w.heap.size]? with
  | some (.cells c _ _)=>c[k]?
  | _=>none):=fun _=>rfl
 refine⟨by rw[C,B];rfl,by rw[C,B];rfl,by rw[C,B];rfl,⟨_,_,B,rfl⟩,hw.W (Zb.alloc Zl _),D⟩
theorem v0j{L:List UInt8}:∀x∈q2c L,q3b x/\x.length<=L.length:=by
 intro x B;obtain⟨j,A,rfl⟩:=List.getElem_of_mem B;have h:=y6g L j A (by rw[<-z2r];exact A);exact⟨h.2.2.1,by omega⟩
theorem j6h:∀(ws:List Wd)(w:Wd),w∈ws->w.length+1<=k2k ws
 | a::r,w,h=>by
  unfold k2k;rw[List.map_cons,List.sum_cons];rcases List.mem_cons.1 h with rfl|h
  ·omega
  ·have:=j6h r w h
   unfold k2k at this;omega
theorem j5p:∀ws:List Wd,ws.length<=k2k ws
 | []=>by simp
 | a::r=>by
  have:=j5p r
  unfold k2k at this⊢;rw[List.map_cons,List.sum_cons,List.length_cons];omega
theorem j7q(s:List UInt8):(q0e s).length<=s.length+1:=by
 unfold q0e
 split
 ·simp
 ·have:=j5p (q5n s)
  rw[z9m]at this;exact this
theorem j7r{s:List UInt8}{w:Wd}(h:w∈q0e s):w.length<=s.length:=by
 unfold q0e at h
 split at h
 ·cases h
 ·have A:=j6h _ _ h;rw[z9m]at A;omega
theorem j2a{t l:Wd}(h:l≠[]/\t≠[]):wbS t++(⟨#[32]⟩:ByteArray)++wbS l=wbS (q6p t l):=by
 unfold q6p;rw[if_pos h,<-q1z,<-q1z];rfl
theorem k2z{t l:Wd}(h:¬(l≠[]/\t≠[])):wbS t++wbS l=wbS (q6p t l):=by
 unfold q6p;rw[if_neg h,<-q1z]
theorem v0d{t:Wd}(h:t≠[]):(0:Int)<((wbS t).size:Int):=by
 rw[q2s]
 have:=List.length_pos_iff.2 h
 omega
theorem k5i{t:Wd}(h:t=[]):¬(0:Int)<((wbS t).size:Int):=by
 rw[q2s,h];simp
theorem y2i{w:Wd}{S:ByteArray}(h:wbS w=S)(h0:w≠[]):0<S.size/\∀h1:0<S.size,S[0]=w.headD 0:=by
 subst h;cases w with
 | nil=>exact absurd rfl h0
 | cons c r=>exact⟨by rw[<-q0c];show 0<(c::r).length;simp,fun _=>rfl⟩
theorem y1w{w:Wd}{S:ByteArray}(h:wbS w=S):btL (S.extract 1 S.size)=w.drop 1:=by
 subst h;rw[q9s];have A:btL (wbS w)=w:=rfl;have B:∀l:List UInt8,btL (wbS l)=l:=fun _=>rfl
 rw[B,A,q2s,List.take_of_length_le (by simp)]
structure y6y(b:Nat)(A:Option Addr)(c:Nat)(ws:List Wd)(p:Nat)(w:World)(r:Rs)(ns:List Td)(v:Value)(w':World):Prop where
 o:q0w w v ns w'
 n:ns.length+r.rest.length<=(ws.drop p).length
 rd:Rd w' b A c ws (ws.length-r.rest.length) r.isBad
 bt:But w b w w'
 er:r=.bad (ws.drop p)
 en:ns=[]
theorem y4q{b:Nat}{A:Option Addr}{c:Nat}{ws:List Wd}{w:World}{q p:Nat}{B:List (List Td)}{v v7:Value}{wr w3 w4 w7:World}{x:Td}{r:Rs}{ns:List Td}{v4:Value}(hV:PAt b A c ws w q false B v wr)(H:q<p)(hp:p<=ws.length)
  (hG:y6y b A c ws p w3 r ns v4 w4) (hP:PG (q6h ws q) B (ws.drop q) (.bad (ws.drop p)))
  (hR:Rd w7 b A c ws (q1n ws (ws.length-r.rest.length) r.isBad [59]) (q0u ws (ws.length-r.rest.length) r.isBad [59])) (hO:q3t (b+1) v7 (B++[x::ns]) w7) (b7:But w b w w7):
  PAt b A c ws w (q1n ws (ws.length-r.rest.length) r.isBad [59]) (q0u ws (ws.length-r.rest.length) r.isBad [59]) (B++[x::ns]) v7 w7/\
  2*(ws.length-q1n ws (ws.length-r.rest.length) r.isBad [59])+(if q0u ws (ws.length-r.rest.length) r.isBad [59]then 0 else 1)<2*(ws.length-q)+1:=by
 have G:=hG.er;subst G
 have C:ws.length-(Rs.bad (ws.drop p)).rest.length=p:=by
  show ws.length-(ws.drop p).length=p;rw[q0k hp];omega
 rw[C]at hR⊢;have D:q1n ws p (Rs.bad (ws.drop p)).isBad [59]=p:=by simp[q1n,Rs.isBad]
 have E:q0u ws p (Rs.bad (ws.drop p)).isBad [59]=true:=by simp[q0u,Rs.isBad]
 rw[D,E]at hR⊢;exact⟨y1j hV (by omega) hp (by simp) hP hO hR b7,by simp only[if_true];omega⟩
theorem z4q(s:ByteArray)(W:World):Calls prog 11 #[.string s] W fun e w'=>k5q s W e w':=by
 have HL:Hid (Calls prog 33 #[.string s] W fun e w'=>j1t s W e w'/\Below W W w'):=j5r s W;go_in;go_wp2_with fail;refine HL.o.mono ?_;rintro e w1⟨Eh,Da⟩;have Cb:Hid (Below W W w1):=Da;clear Da HL;rcases Eh with⟨Bj,rfl⟩|⟨h0,A,P,V,pc,rfl,hS,hP⟩
 ·have HP:Hid (q6r s [] ((z3f (btL s):Nat):Int) (q5u (btL s))):=.lex Bj
  generalize((z3f (btL s):Nat):Int)=K at HP
  generalize q5u (btL s)=E at HP Bj;go_wp2;refine bodyPost_ret (v:=.tuple #[.slice none 0 0,.int .i64 K,.int .i64 E]) (by simp[results,Tryz.results11,go_sem]) rfl ?_;exact q4v HP.o Cb.o
 have hl:=j5t h0;have Ej:∀x∈q2c (btL s),q3b x:=fun x hx=>(v0j x hx).1
 have Ek:∀x∈q2c (btL s),x.length<=60000:=fun x hx=>Nat.le_trans (v0j x hx).2 (z4g h0).1
 have Ay:Hid (∀q,q<=(q2c (btL s)).length->PG false [] (q2c (btL s)) (.bad ((q2c (btL s)).drop q))->q6r s [] ((((z1h (btL s))[q]?).getD s.size:Nat):Int) 5):=fun q hq hg=>by
  have h9:=q6r.bad h0 hg;unfold y4t at h9;rw[q0k hq,show(q2c (btL s)).length-((q2c (btL s)).length-q)=q by omega]at h9;exact h9
 have Dn:Hid (∀qs,PG false [] (q2c (btL s)) (.ok qs)->((q0r qs).2≠0->q6r s [] 0 (q0r qs).2)/\((q0r qs).2=0->q6r s qs 0 0)):=fun qs hg=>⟨fun h=>.full h0 hg h,fun h=>.ok h0 hg h⟩
 have D2:∀i,i<(q2c (btL s)).length->∃bp op,P=some ⟨bp,op,none⟩/\bp<w1.heap.size/\w1.cell? ⟨bp,op+i,none⟩=some (.int .i64 ((((z1h (btL s))[i]?).getD s.size:Nat):Int)):=fun i hi=>by
  have Ey:i<((z1h (btL s)).map fun(k:Nat)=>(k:Int)).length:=by rw[List.length_map,<-z2r];exact hi
  obtain⟨bp,op,e,Aa,c1⟩:=j0b hP i Ey;have Ez:i<(z1h (btL s)).length:=by rw[<-z2r];exact hi
  refine⟨bp,op,e,Aa,?_⟩;rw[c1,List.getElem?_eq_getElem Ez,List.getElem_map];rfl
 generalize El:q2c (btL s)=ws at *;obtain⟨M,B3⟩:∃M,M=w1.alloc (.cells #[.slice A ws.length V,.int .i64 0,.bool false] 73):=⟨_,rfl⟩;have Dr:Hid (Rd M w1.heap.size A V ws 0 false):=by rw[B3];exact y5b (q4i hS) (v5f hS)
 have Ds:Hid (M=w1.alloc (.cells #[.slice A ws.length V,.int .i64 0,.bool false] 73)):=B3;have Db:Below w1 w1 M:=by rw[B3];exact Zb.alloc Zl _
 have Bm:M.heap.size=w1.heap.size+1:=by rw[B3,World.size_alloc]
 have Az:Hid (∀wr,But M w1.heap.size M wr->∀i,i<ws.length->∃bp op,P=some ⟨bp,op,none⟩/\wr.cell? ⟨bp,op+i,none⟩=some (.int .i64 ((((z1h (btL s))[i]?).getD s.size:Nat):Int))):=fun wr hb i hi=>by
  obtain⟨bp,op,e,Aa,c1⟩:=D2 i hi;refine⟨bp,op,e,?_⟩;rw[hb.cell (p:=⟨bp,op+i,none⟩) (by show bp<_;omega) (by show bp≠_;omega),Db.cell (p:=⟨bp,op+i,none⟩) Aa];exact c1
 have Cc:Hid (∀wr,But M w1.heap.size M wr->Below W W wr):=fun wr hb=>by
  have J:=Cb.o.size;exact(Cb.o.trans (Db.mono J)).trans (hb.low (by omega) J)
 have Bu:Hid (∀q,ws.length<=q->(z1h (btL s))[q]?=none):=fun q hq=>List.getElem?_eq_none (by rw[<-z2r,El];exact hq)
 have B0:Hid (∀x∈ws,q3b x):=Ej;have Es:Hid (∀x∈ws,x.length<=60000):=Ek;have Bc:Hid (M.heap.size=w1.heap.size+1):=Bm;generalize Eu:z1h (btL s)=pl at Ay Az Bu;clear hS hP h0 Ej Ek D2 El B3 Db Bm Cb Eu;go_wp2_with fail;rw[<-Ds.o];generalize w1.heap.size=b at Dr Az Cc Bc⊢;clear Ds
 go_loopw [10] (fun x wr=>∃(q:Nat)(C7:Bool)(B:List (List Td))(d:Option Addr)(N:Nat),x=.slice d B.length N/\PAt b A V ws M q C7 B (.slice d B.length N) wr) (fun _ wr=>2*(ws.length-y5a wr b)+y6r wr b)
 case atStart=>exact⟨0,false,[],none,0,rfl,y1k Dr.o⟩
 case round=>
  obtain⟨q,C7,B,d,N,rfl,hV⟩:=hrel;have I:=hid hV;have d1:=hV.rd.c1;have d2:=hV.rd.c2;have B9:=hV.le;have Fj:wr.frozen? ⟨b,1,none⟩=false:=hV.rd.row.frozen;have Fk:wr.frozen? ⟨b,2,none⟩=false:=hV.rd.row.frozen;have B4:b<wr.heap.size:=hV.rd.row.lt;have Cm:=hV.bt.size;have E3:=hV.len;have A3:Hid (Below W W wr):=Cc.o wr hV.bt;generalize Bi:B.length=al at E3;have Ah:Hid (B.length=al):=Bi;clear hV Bi;cases C7 with
  | true=>
   have Am:=Ay.o q B9 (I.o.bd rfl);have Aj:=hid Am;clear Am;by_cases Ck:q<ws.length
   ·have Eg:(q:Int)<(ws.length:Int):=by omega
    obtain⟨bp,op,rfl,Dc⟩:=Az.o wr I.o.bt q Ck
    generalize(((pl[q]?).getD s.size:Nat):Int)=K at Aj Dc
    go_wp2_with fail
    go_quiet (fail)
    go_wp2;refine bodyPost_ret (v:=.tuple #[.slice none 0 0,.int .i64 K,.int .i64 5]) (by simp[results,Tryz.results11,go_sem]) rfl ?_;exact q4v Aj.o (q0f A3.o _)
   ·have Eg:¬(q:Int)<(ws.length:Int):=by omega
    have Av:pl[q]?=none:=Bu.o q (by omega);rw[Av]at Aj;go_wp2;refine bodyPost_ret (v:=.tuple #[.slice none 0 0,.int .i64 (s.size:Int),.int .i64 5]) (by simp[results,Tryz.results11,go_sem]) rfl ?_;exact q4v Aj.o A3.o
  | false=>
   by_cases Ag:q<ws.length
   ·have E6:(q:Int)<(ws.length:Int):=by omega
    obtain⟨y,oa,eA,Fr,dq⟩:=I.o.rd.wd q (by rw[List.length_map];exact Ag);subst eA;rw[List.getElem_map]at dq;have Dh:=B0.o _ (List.getElem_mem Ag);have Di:=Es.o _ (List.getElem_mem Ag)
    have Bj:ws[q]≠[]:=by
     obtain⟨x,r,e,_⟩:=Dh;rw[e];simp
    generalize hX:wbS ws[q]=X at dq;have HX:Hid (wbS ws[q]=X):=hX;obtain⟨Em,Cn⟩:=y2i hX Bj;have Fl:(0:Int)<(X.size:Int):=by omega
    have Co:X.size<=60000:=by rw[<-hX,q2s];exact Di
    by_cases Be:ws[q].headD 0=35
    ·have Cr:X[0]=35:=(Cn Em).trans Be;have Bo:Hid (ws[q].headD 0=35):=Be
     have Dl:Hid (Calls prog 22 #[.string (X.extract 1 X.size)] (wr.setCell ⟨b,1,none⟩ (.int .i64 ((q:Int)+1))) fun e w'=>(∃A1 c1,e=.returned (.slice A1 (q0e (ws[q].drop 1)).length c1)/\Wds w' A1 ((q0e (ws[q].drop 1)).map wbS))/\Rd w' b (some ⟨y,oa,none⟩) V ws (q+1) false/\But M b M w'/\q3t (b+1) (.slice d al N) B w'/\wr.heap.size<=w'.heap.size):=by
      have J:=q4d (X.extract 1 X.size) (wr.setCell ⟨b,1,none⟩ (.int .i64 ((q:Int)+1))) (by rw[ByteArray.size_extract];omega);rw[y1w HX.o]at J;have h2:=I.o.rd.setAt (q+1);rw[show((q+1:Nat):Int)=(q:Int)+1 by omega]at h2;have h3:But wr b wr (wr.setCell ⟨b,1,none⟩ (.int .i64 ((q:Int)+1))):=(But.refl _ _ _).setCell (p:=⟨b,1,none⟩) (.inl rfl) _;have h4:(wr.setCell ⟨b,1,none⟩ (.int .i64 ((q:Int)+1))).heap.size=wr.heap.size:=by rw[World.size_setCell]
      rw[h4]at J;refine J.mono ?_;rintro e w'⟨⟨A1,c1,rfl,h5⟩,h6⟩;have h7:But wr b wr w':=h3.trans (But.of h6);refine⟨⟨A1,c1,rfl,q4i h5⟩,h2.keepB h6 B4,I.o.bt.trans (h7.mono Cm),?_,h7.size⟩;have h8:=I.o.o.but h7 (by omega);rw[Ah.o]at h8;exact h8
     clear hX Cn Be Bj Dh Di;go_wp2_with fail;refine Dl.o.mono ?_;rintro e w3⟨⟨A1,Fo,rfl,D6⟩,Ci,Dx,D0,Fy⟩;have Dp:=hid Ci;have Dk:=hid Dx;have Dm:Hid (q3t (b+1) (.slice d al N) B w3):=D0;have C5:=hid D6;have Fp:=Ci.c1;have Fq:=Ci.c2
     have Ai:Hid (∀k,(wbS (ntx ((q0e (ws[q].drop 1)).take k))).size<=60001):=fun k=>by
      have J:=j7w (ws[q].drop 1) k
      have h2:(ws[q].drop 1).length<=60000:=by
       have h3:(wbS ws[q]).size<=60000:=by rw[HX.o];exact Co
       rw[q2s]at h3;simp only[List.length_drop];omega
      show(wbS _).size<=_
      rw[q2s];omega
     have C6:Hid (ntx ((q0e (ws[q].drop 1)).take (q0e (ws[q].drop 1)).length)=q0y ws[q]):=by
      show _=_;rw[List.take_length];rfl
     have Cx:Hid (∀j(h:j<(q0e (ws[q].drop 1)).length),(wbS (q0e (ws[q].drop 1))[j]).size<=60001):=fun j h=>by
      have J:=j7r (List.getElem_mem h);have h3:(wbS ws[q]).size<=60000:=by rw[HX.o];exact Co
      rw[q2s]at h3;simp only[List.length_drop]at J;rw[q2s];omega
     have Ec:(q0e (ws[q].drop 1)).length<=60001:=by
      have J:=j7q (ws[q].drop 1);have h3:(wbS ws[q]).size<=60000:=by rw[HX.o];exact Co
      rw[q2s]at h3;simp only[List.length_drop]at J;omega
     clear D6 Ci Dx D0 Dl;generalize q0e (ws[q].drop 1)=nl at C5 Ai C6 Cx Ec⊢;go_wp2_with fail
     go_loopw [12,14] (fun t i wx=>∃j:Nat,j<=nl.length/\i=.int .i64 (j:Int)/\t=.string (wbS (ntx (nl.take j)))/\Below w3 w3 wx) (fun _ i _=>nl.length-(intOf i).toNat)
     case atStart=>exact⟨0,Nat.zero_le _,rfl,rfl,Below.refl _ _⟩
     case round=>
      obtain⟨j,hj,rfl,rfl,D9⟩:=hrel;have Al:Hid (Below w3 w3 wr):=D9;clear D9;by_cases Df:j<nl.length
      ·have E2:(j:Int)<(nl.length:Int):=by omega
       obtain⟨b1,o1,e1,Da,dj⟩:=(Wds.W C5.o Al.o) j (by rw[List.length_map];exact Df);subst e1;rw[List.getElem_map]at dj
       have Bx:Hid (ntx (nl.take (j+1))=q6p (ntx (nl.take j)) nl[j]):=by
        show _=_;unfold ntx;rw[List.take_succ_eq_append_getElem Df,List.foldl_append];rfl
       have Cp:=Ai.o j;have Ff:=Cx.o j Df;generalize ntx (nl.take j)=T at Bx Cp⊢;generalize nl[j]=Y at Bx Ff dj;by_cases hy:Y=[]
       ·have HA:Hid (wbS T++wbS Y=wbS (q6p T Y)):=k2z fun h=>h.1 hy
        have Fe:=k5i hy;clear hy;generalize wbS T=TT at *;generalize wbS Y=YY at *;go_wp2
        go_roundw
        case rel=>exact⟨j+1,by omega,by go_num,by rw[Bx.o,<-HA.o],Al.o⟩
        case measure=>simp[intOf];omega
       ·have Fe:=v0d hy;by_cases ht:T=[]
        ·have HA:Hid (wbS T++wbS Y=wbS (q6p T Y)):=k2z fun h=>h.2 ht
         have Dg:=k5i ht;clear hy ht;generalize wbS T=TT at *;generalize wbS Y=YY at *;go_wp2
         go_roundw
         case rel=>exact⟨j+1,by omega,by go_num,by rw[Bx.o,<-HA.o],Al.o⟩
         case measure=>simp[intOf];omega
        ·have HA:Hid (wbS T++(⟨#[32]⟩:ByteArray)++wbS Y=wbS (q6p T Y)):=j2a ⟨hy,ht⟩;have Dg:=v0d ht;clear hy ht;generalize wbS T=TT at *;generalize wbS Y=YY at *;go_wp2
         go_roundw
         case rel=>exact⟨j+1,by omega,by go_num,by rw[Bx.o,<-HA.o],Al.o⟩
         case measure=>simp[intOf];omega
      ·have E2:¬(j:Int)<(nl.length:Int):=by omega
       have E1:j=nl.length:=by omega
       subst E1;have Cp:=Ai.o nl.length;rw[C6.o]at Cp⊢;have C8:=Dp.o.keep Al.o;have e1:wr.cell? ⟨b,1,none⟩=some (.int .i64 ((q:Int)+1)):=C8.c1;have D1:q3t (b+1) (.slice d al N) B wr:=Dm.o.kept fun g J h2=>Al.o.block g h2
       have Dz:But M b M wr:=Dk.o.trans (But.of (Al.o.mono (by omega)));have Fz:w3.heap.size<=wr.heap.size:=Al.o.size;have Bw:=hid C8;have Ba:Hid (q3t (b+1) (.slice d al N) B wr):=D1;have Cv:=hid Dz;have Ar:Hid (∀A9 c9 n9 w9,q3t (b+1) (.slice A9 n9 c9) (k0d (q6h ws q) B (q0y ws[q])) w9->Rd w9 b (some ⟨y,oa,none⟩) V ws (q+1) false->But M b M w9->PAt b (some ⟨y,oa,none⟩) V ws M (q+1) false (k0d (q6h ws q) B (q0y ws[q])) (.slice A9 n9 c9) w9/\n9=(k0d (q6h ws q) B (q0y ws[q])).length):=fun A9 c9 n9 w9 J h2 h3=>⟨y4r I.o Ag Bo.o (by have h4:(wbS ws[q]).size<=60000:=by{rw[HX.o];exact Co};rw[q2s]at h4;exact h4) J h2 h3,J.cell.1⟩
       clear C8 D1 Dz Dp Dm Dk C5 Ai Cx C6;cases Aw:q6h ws q with
       | false=>
        rw[Aw]at Ar;generalize D5:wbS (q0y ws[q])=TX at Cp
        have Er:Hid (k0d false B (q0y ws[q])=B++[[⟨9,TX,0⟩]]):=by
         show k0d false B (q0y ws[q])=_;rw[<-D5];rfl
        rw[Er.o]at Ar;obtain⟨n1,n2,n3⟩:=v4a Ba.o (by omega) ⟨9,TX,0⟩;have N1:Hid (q3t (b+1) (.slice d al N) B ((wr.alloc (.cells #[.int .i64 9,.string TX,.int .i64 0] 47)).alloc (.cells #[.slice (some ⟨wr,0,none⟩) 1 1] 22))):=n1;have N2:Hid (q0w (b+1) (.slice (some ⟨wr,0,none⟩) 1 1) [⟨9,TX,0⟩] ((wr.alloc (.cells #[.int .i64 9,.string TX,.int .i64 0] 47)).alloc (.cells #[.slice (some ⟨wr,0,none⟩) 1 1] 22))):=n2;have N3:Hid (((wr.alloc (.cells #[.int .i64 9,.string TX,.int .i64 0] 47)).alloc (.cells #[.slice (some ⟨wr,0,none⟩) 1 1] 22)).cell? ⟨wr.heap.size+1,0,none⟩=some (.slice (some ⟨wr,0,none⟩) 1 1)):=n3;clear n1 n2 n3 D5;by_cases Ed:q=0
        ·have Bl:¬(1:Int)<(q:Int)+1:=by omega
         have Ck:¬(0:Int)<(q:Int):=by omega
         clear Ed;go_wp2_with(at_builtin;refine z7t rfl _ _ rfl (b+1) _ B rfl N1.o (wr.heap.size+1) wr.heap.size 1 1 [⟨9,TX,0⟩] rfl rfl N3.o N2.o (al+1) (by rw[Ah.o]) (by omega) (by simp only[World.size_alloc];omega) ?_);intro A9 c9 w9 f Ae;have L:Below (b+1) wr w9:=((Zb.alloc (by omega) _).alloc (by simp only[World.size_alloc];omega) _).grown Ae (by simp only[World.size_alloc];omega) (fun k' hk=>Ba.o.own_le hk);obtain⟨Ac,B8⟩:=Ar.o A9 c9 _ w9 f (Bw.o.keepB L (by omega)) (Cv.o.trans (But.of (L.mono (by rw[Bc.o];exact Nat.le_refl _))));have C:=hid Ac;clear f Ae L Ac;go_wp2
         go_roundw
         case rel=>exact⟨q+1,false,_,A9,c9,by rw[<-B8],by rw[<-B8];exact C.o⟩
         case measure=>rw[C.o.rd.at_eq,C.o.rd.nb_eq,I.o.rd.at_eq,I.o.rd.nb_eq];simp;omega
        ·obtain⟨j0,De⟩:∃j0,q=j0+1:=⟨q-1,by omega⟩;have Af:j0<ws.length:=by omega
         have Bl:(1:Int)<(q:Int)+1:=by omega
         have Ck:(0:Int)<(q:Int):=by omega
         have E0:(q:Int)+1-2=(j0:Int):=by omega
         have Ea:(j0:Int)<(ws.length:Int):=by omega
         obtain⟨Du,Eo,ea,_,dz⟩:=Bw.o.wd j0 (by rw[List.length_map];exact Af);simp only[Option.some.injEq,Addr.mk.injEq,and_true]at ea;obtain⟨rfl,rfl⟩:=ea;rw[List.getElem_map]at dz
         have Aq:ws[j0]≠[]:=by
          obtain⟨x,r,e,_⟩:=B0.o _ (List.getElem_mem Af);rw[e];simp
         generalize hZ:wbS ws[j0]=Z at dz;obtain⟨Dj,Ca⟩:=y2i hZ Aq;have En:(0:Int)<(Z.size:Int):=by omega
         have Bk:(ws[j0].headD 0==35)=false:=by rw[<-z0n Af,<-De];exact Aw
         have Cs:¬Z[0]=35:=by
          rw[Ca Dj];intro e;rw[e]at Bk;cases Bk
         have Fg:¬Z[0].toNat=35:=fun e=>Cs (UInt8.toNat_inj.1 e)
         have Fh:¬(Z[0].toNat:Int)=35:=by omega
         clear Ca Bk Aq hZ;go_wp2_with(at_builtin;refine z7t rfl _ _ rfl (b+1) _ B rfl N1.o (wr.heap.size+1) wr.heap.size 1 1 [⟨9,TX,0⟩] rfl rfl N3.o N2.o (al+1) (by rw[Ah.o]) (by omega) (by simp only[World.size_alloc];omega) ?_);intro A9 c9 w9 f Ae;have L:Below (b+1) wr w9:=((Zb.alloc (by omega) _).alloc (by simp only[World.size_alloc];omega) _).grown Ae (by simp only[World.size_alloc];omega) (fun k' hk=>Ba.o.own_le hk);obtain⟨Ac,B8⟩:=Ar.o A9 c9 _ w9 f (Bw.o.keepB L (by omega)) (Cv.o.trans (But.of (L.mono (by rw[Bc.o];exact Nat.le_refl _))));have C:=hid Ac;clear f Ae L Ac;go_wp2
         go_roundw
         case rel=>exact⟨q+1,false,_,A9,c9,by rw[<-B8],by rw[<-B8];exact C.o⟩
         case measure=>rw[C.o.rd.at_eq,C.o.rd.nb_eq,I.o.rd.at_eq,I.o.rd.nb_eq];simp;omega
       | true=>
        rw[Aw]at Ar;have Ed:q≠0:=fun e=>by rw[e]at Aw;cases Aw
        obtain⟨j0,De⟩:∃j0,q=j0+1:=⟨q-1,by omega⟩;have Af:j0<ws.length:=by omega
        have Bl:(1:Int)<(q:Int)+1:=by omega
        have Ck:(0:Int)<(q:Int):=by omega
        have E0:(q:Int)+1-2=(j0:Int):=by omega
        have Ea:(j0:Int)<(ws.length:Int):=by omega
        obtain⟨Du,Eo,ea,_,dz⟩:=Bw.o.wd j0 (by rw[List.length_map];exact Af);simp only[Option.some.injEq,Addr.mk.injEq,and_true]at ea;obtain⟨rfl,rfl⟩:=ea;rw[List.getElem_map]at dz
        have Aq:ws[j0]≠[]:=by
         obtain⟨x,r,e,_⟩:=B0.o _ (List.getElem_mem Af);rw[e];simp
        generalize hZ:wbS ws[j0]=Z at dz;obtain⟨Dj,Ca⟩:=y2i hZ Aq;have En:(0:Int)<(Z.size:Int):=by omega
        have Bk:(ws[j0].headD 0==35)=true:=by rw[<-z0n Af,<-De];exact Aw
        have Cs:Z[0]=35:=by
         rw[Ca Dj];simpa using Bk
        clear Ca Bk Aq hZ;obtain⟨D,x,Et,F0⟩:=I.o.last rfl Aw;subst Et;obtain⟨go,g,cx,eA,Ex,A0,dk,hT⟩:=Ba.o.cell.2.2.2 D.length (by simp);subst eA;rw[List.getElem_append_right Zl]at dk hT;simp only[Nat.sub_self,List.getElem_cons_zero,List.length_singleton]at dk hT;obtain⟨g',o',eg,Fv,_,t2,_⟩:=hT.tds 0 (by simp);simp only[Option.some.injEq,Addr.mk.injEq,and_true]at eg;obtain⟨rfl,rfl⟩:=eg;simp only[List.getElem_cons_zero,Nat.zero_mul,Nat.zero_add]at t2;have Fu:wr.frozen? ⟨go,D.length,none⟩=false:=A0.frozen;have Dd:go<wr.heap.size:=A0.lt;have Ft:∀o:Obj,(wr.alloc o).frozen? ⟨go,D.length,none⟩=false:=fun o=>(A0.kept (((Below.refl wr.heap.size wr).alloc Zl o).block go Dd)).frozen
        have Fs:∀o:Obj,(wr.alloc o).cell? ⟨go,D.length,none⟩=some (.slice (some ⟨g,0,none⟩) 1 cx):=fun o=>(((Below.refl wr.heap.size wr).alloc Zl o).cell (p:=⟨go,D.length,none⟩) Dd).trans dk
        have Bi:al=D.length+1:=by rw[<-Ah.o];simp
        have hk:(al:Int)-1=(D.length:Int):=by omega
        have Fw:(D.length:Int)<(al:Int):=by omega
        have U:Hid (∀R,R=wbS (q6p (btL x.tx) (q0y ws[q]))->PAt b (some ⟨y,oa,none⟩) V ws M (q+1) false (D++[[⟨9,R,0⟩]]) (.slice (some ⟨go,0,none⟩) al N) ((wr.setCell ⟨go,D.length,none⟩ (.slice (some ⟨wr,0,none⟩) 1 1)).alloc (.cells #[.int .i64 9,.string R,.int .i64 0] 47))/\(D++[[(⟨9,R,0⟩:Td)]]).length=al):=fun R hR=>by
         have J:k0d true (D++[[x]]) (q0y ws[q])=D++[[⟨9,R,0⟩]]:=by
          show(D++[[x]]).dropLast++[[ntT (q6p (q5o (D++[[x]])) (q0y ws[q]))]]=_
          have e:q5o (D++[[x]])=btL x.tx:=by simp[q5o]
          rw[e,hR];simp[ntT]
         have h2:=Ar.o (some ⟨go,0,none⟩) N al ((wr.alloc (.cells #[.int .i64 9,.string R,.int .i64 0] 47)).setCell ⟨go,D.length,none⟩ (.slice (some ⟨wr,0,none⟩) 1 1));rw[J]at h2;have L:Below (b+1) wr ((wr.alloc (.cells #[.int .i64 9,.string R,.int .i64 0] 47)).setCell ⟨go,D.length,none⟩ (.slice (some ⟨wr,0,none⟩) 1 1)):=(Zb.alloc (by omega) _).setCell (p:=⟨go,D.length,none⟩) Ex _;have h3:q3t (b+1) (.slice (some ⟨go,0,none⟩) al N) (D++[[x]]) (wr.alloc (.cells #[.int .i64 9,.string R,.int .i64 0] 47)):=Ba.o.kept fun k _ h4=>((Below.refl wr.heap.size wr).alloc Zl _).block k h4
         obtain⟨h5,h6⟩:=h2 (h3.last ((q0w.one wr ⟨9,R,0⟩).down (by omega))) (Bw.o.keepB L (by omega)) (Cv.o.trans (But.of (L.mono (by rw[Bc.o];exact Nat.le_refl _))));rw[World.setCell_alloc_past _ _ _ _ Dd]at h5;exact⟨h5,h6.symm⟩
        have C9:(wbS (q0y ws[q])).size=(q0y ws[q]).length:=q2s _;have A2:(btL x.tx).length=x.tx.size:=q0c _;have Fd:wbS (btL x.tx)=x.tx:=rfl;have HY:Hid (q0y ws[q]≠[]/\btL x.tx≠[]->x.tx++(⟨#[32]⟩:ByteArray)++wbS (q0y ws[q])=wbS (q6p (btL x.tx) (q0y ws[q]))):=fun h=>j2a h
        have HN:Hid (¬(q0y ws[q]≠[]/\btL x.tx≠[])->x.tx++wbS (q0y ws[q])=wbS (q6p (btL x.tx) (q0y ws[q]))):=fun h=>k2z h
        clear Ba Ar hT A0 Fd;have Fm:x.tx.size<=4000000000:=by omega
        by_cases Ax:btL x.tx=[]
        ·have Fc:¬(0:Int)<(x.tx.size:Int):=by rw[<-A2,Ax];simp
         have HE:=(show Hid (_=_)from HN.o fun h=>h.2 Ax);clear HY HN Ax C9 A2;generalize wbS (q6p (btL x.tx) (q0y ws[q]))=RR at HE U;generalize wbS (q0y ws[q])=TX at *;have C:=hid (U.o _ HE.o);clear U;go_wp2
         go_roundw
         case rel=>exact⟨q+1,false,_,some ⟨go,0,none⟩,N,by rw[C.o.2,Bi],by rw[C.o.2];exact C.o.1⟩
         case measure=>rw[C.o.1.rd.at_eq,C.o.1.rd.nb_eq,I.o.rd.at_eq,I.o.rd.nb_eq];simp;omega
        ·have Fc:(0:Int)<(x.tx.size:Int):=by
          have:=List.length_pos_iff.2 Ax
          omega
         by_cases Bn:q0y ws[q]=[]
         ·have Dg:=k5i Bn;have HE:=(show Hid (_=_)from HN.o fun h=>h.1 Bn);clear HY HN Ax C9 A2 Bn;generalize wbS (q6p (btL x.tx) (q0y ws[q]))=RR at HE U;generalize wbS (q0y ws[q])=TX at *;have C:=hid (U.o _ HE.o);clear U;go_wp2
          go_roundw
          case rel=>exact⟨q+1,false,_,some ⟨go,0,none⟩,N,by rw[C.o.2,Bi],by rw[C.o.2];exact C.o.1⟩
          case measure=>rw[C.o.1.rd.at_eq,C.o.1.rd.nb_eq,I.o.rd.at_eq,I.o.rd.nb_eq];simp;omega
         ·have Dg:=v0d Bn;have HE:=(show Hid (_=_)from HY.o ⟨Bn,Ax⟩);clear HY HN Ax C9 A2 Bn;generalize wbS (q6p (btL x.tx) (q0y ws[q]))=RR at HE U;generalize wbS (q0y ws[q])=TX at *;have C:=hid (U.o _ HE.o);clear U;go_wp2
          go_roundw
          case rel=>exact⟨q+1,false,_,some ⟨go,0,none⟩,N,by rw[C.o.2,Bi],by rw[C.o.2];exact C.o.1⟩
          case measure=>rw[C.o.1.rd.at_eq,C.o.1.rd.nb_eq,I.o.rd.at_eq,I.o.rd.nb_eq];simp;omega
    ·have Cr:¬X[0]=35:=fun e=>Be ((Cn Em).symm.trans e)
     have Fa:¬X[0].toNat=35:=fun e=>Cr (UInt8.toNat_inj.1 e)
     have Fb:¬(X[0].toNat:Int)=35:=by omega
     have Bo:Hid (¬ws[q].headD 0=35):=Be;have Ce:Hid (ws.drop q=ws[q]::ws.drop (q+1)):=List.drop_eq_getElem_cons Ag
     have A7:Hid (Calls prog 34 #[.pointer (some ⟨b,0,none⟩),.string ⟨#[108,101,116]⟩] (wr.alloc (.cells #[.int .i64 8,.string ⟨#[]⟩,.int .i64 0] 47)) fun e w'=>e=.returned (.bool (!false&&(ws[q]?==some z1x)))/\Rd w' b (some ⟨y,oa,none⟩) V ws q false/\But wr b wr w'/\q0w wr (.slice (some ⟨wr,0,none⟩) 1 1) [doT] w'/\wr.heap.size<w'.heap.size):=by
      have J:Below wr wr (wr.alloc (.cells #[.int .i64 8,.string ⟨#[]⟩,.int .i64 0] 47)):= Zb.alloc Zl _;refine(z2f (I.o.rd.keep J) z1x).mono ?_;rintro e w'⟨rfl,q',rfl⟩;have h2:Below (wr.alloc (.cells #[.int .i64 8,.string ⟨#[]⟩,.int .i64 0] 47)).heap.size (wr.alloc (.cells #[.int .i64 8,.string ⟨#[]⟩,.int .i64 0] 47)) ((wr.alloc (.cells #[.int .i64 8,.string ⟨#[]⟩,.int .i64 0] 47)).drewN q'):=q0f Zb q';refine⟨rfl,(I.o.rd.keep J).keep h2,But.of (J.trans (h2.mono (by rw[World.size_alloc];omega))),(q0w.one wr doT).kept fun g _ h3=>h2.block g h3,?_⟩;show wr.heap.size<(wr.alloc _).heap.size;rw[World.size_alloc];omega
     clear hX Cn Be Bj Dh Di;cases Aa:(!false&&(ws[q]?==some z1x))with
     | false=>
      rw[Aa]at A7
      have Ak:ws[q]≠z1x:=fun e=>by
       rw[List.getElem?_eq_getElem Ag,e]at Aa;exact absurd Aa (by decide)
      have Cg:Hid (∀{w3 w4 w7:World}{r:Rs}{ns:List Td}{v4 v7:Value},Got b (some ⟨y,oa,none⟩) V ws (.level 0) q w3 r ns v4 w4->Rd w7 b (some ⟨y,oa,none⟩) V ws (q1n ws (ws.length-r.rest.length) r.isBad [59]) (q0u ws (ws.length-r.rest.length) r.isBad [59])->q3t (b+1) v7 (B++[doT::ns]) w7->But M b M w7->_):=fun J h2 h3 h4=>v8a I.o Zl B9 (by decide) J
       (fun u h=>by rw[Ce.o]at h⊢;exact .doB Bo.o Ak h) (fun m ms u h h5=>by rw[Ce.o]at h⊢;exact .doX Bo.o Ak h h5) (fun m ms u r h h5=>by rw[Ce.o]at h⊢;exact .doO Bo.o Ak h h5) h2 h3 h4
      clear Aa Ak;go_wp2_with fail;refine A7.o.mono ?_;rintro e l⟨rfl,z,Bg,Cj,Bm⟩;have A8:Hid (Calls prog 36 #[.pointer (some ⟨b,0,none⟩),.int .i64 0] l fun e w'=>∃r ns d N,e=.returned (.slice d ns.length N)/\Got b (some ⟨y,oa,none⟩) V ws (.level 0) q l r ns (.slice d ns.length N) w'):=k1d hl B0.o B9 l z;have Ab:Hid (But wr b wr l):=Bg;have Bd:Hid (q0w wr (.slice (some ⟨wr,0,none⟩) 1 1) [doT] l):=Cj;clear z Bg Cj A7;go_wp2_with fail;refine A8.o.mono ?_;rintro e w4⟨r4,G,A4,c4,rfl,H⟩;have Cz:Hid (Got b (some ⟨y,oa,none⟩) V ws (.level 0) q l r4 G (.slice A4 G.length c4) w4):=H;have Ev:b<w4.heap.size:=H.rd.row.lt;have B1:Hid (Calls prog 35 #[.pointer (some ⟨b,0,none⟩),.string ⟨#[59]⟩] w4 fun e w'=>(∃v,e=.returned v)/\Rd w' b (some ⟨y,oa,none⟩) V ws (q1n ws (ws.length-r4.rest.length) r4.isBad [59]) (q0u ws (ws.length-r4.rest.length) r4.isBad [59])/\But w4 b w4 w'):=q8e H.rd hl (by omega) [59];have B7:=H.n;rw[q0k (by omega)]at B7;have E7:=H.bt.size;have Ct:Hid (But wr b wr w4):=Ab.o.trans (H.bt.mono (by omega));have By:Hid (q0w wr (.slice (some ⟨wr,0,none⟩) 1 1) [doT] w4):=Bd.o.but H.bt B4;have Bv:Hid (q0w l (.slice A4 G.length c4) G w4):=H.o;have Bt:Hid (A4=none->G.length=0/\c4=0):=H.o.none.2;generalize Ak:G.length=n4 at B7 Bt;have Ai:Hid (G.length=n4):=Ak;clear H Ak A8;go_wp2_with fail;refine B1.o.mono ?_;rintro e w5⟨⟨vv,rfl⟩,B2,Ad⟩;have E8:=Ad.size;have Bz:Hid (q0w wr (.slice (some ⟨wr,0,none⟩) 1 1) [doT] w5):=By.o.but Ad B4;have Cw:Hid (Tds w5 A4 G):=(Bv.o.but Ad (by omega)).tds;have Cu:Hid (But wr b wr w5):=Ct.o.trans (Ad.mono (by omega));have C4:Hid (Rd w5 b (some ⟨y,oa,none⟩) V ws (q1n ws (ws.length-r4.rest.length) r4.isBad [59]) (q0u ws (ws.length-r4.rest.length) r4.isBad [59])):=B2;clear Ad B2 B1 By Bv Bd;go_wp2_with(at_builtin;refine q4k rfl _ _ rfl wr.heap.size _ [doT] rfl Bz.o A4 n4 G Ai.o c4 rfl Cw.o Bt.o (1+n4) rfl (by omega) (by omega) ?_);intro A6 c6 O Q c;have a:Below wr w5 O:= Zb.grown c (by omega) (fun k' hk=>(World.ownsRow.lt Bz.o k' hk).1);have Cl:=a.size;obtain⟨g6,eg⟩:=z0w Q;subst eg;have Bq:Hid (But wr b wr O):=Cu.o.trans (But.of a)
      have At:q3t (b+1) (.slice d al N) B O:=by
       have h8:=I.o.o.but Bq.o (by omega);rw[Ah.o]at h8;exact h8
      have C2:Hid (q3t (b+1) (.slice d al N) B O):=At;obtain⟨n1,n2,n3⟩:=z9e At (Q.down (show b+1<=wr.heap.size by omega));have N1:=(show Hid (q3t (b+1) (.slice d al N) B (O.alloc (.cells #[.slice (some ⟨g6,0,none⟩) (1+n4) c6] 22)))from n1);have N2:=(show Hid (q0w (b+1) (.slice (some ⟨g6,0,none⟩) (1+n4) c6) (doT::G) (O.alloc (.cells #[.slice (some ⟨g6,0,none⟩) (1+n4) c6] 22)))from n2);have N3:=(show Hid ((O.alloc (.cells #[.slice (some ⟨g6,0,none⟩) (1+n4) c6] 22)).cell? ⟨O,0,none⟩=some (.slice (some ⟨g6,0,none⟩) (1+n4) c6))from n3)
      have C0:Hid ((doT::G).length=1+n4):=by
       show _=_;rw[List.length_cons,Ai.o];omega
      have Bp:Hid (Below wr w5 O):=a;clear Q c At n1 n2 n3 a;go_wp2_with(at_builtin;refine z7t rfl _ _ rfl (b+1) _ B rfl N1.o O.heap.size g6 (1+n4) c6 (doT::G) C0.o rfl N3.o N2.o (al+1) (by rw[Ah.o]) (by omega) (by simp only[World.size_alloc];omega) ?_);intro A9 c9 w9 f Ae;have L:Below (b+1) O w9:=(Zb.alloc (by omega) _).grown Ae (by simp only[World.size_alloc];omega) (fun k' hk=>C2.o.own_le hk);have Ao:Below (b+1) w5 w9:=(Bp.o.mono (by omega)).trans L;have Ap:But M b M w9:=(I.o.bt.trans (Bq.o.mono Cm)).trans (But.of (L.mono (by rw[Bc.o];exact Nat.le_refl _)));obtain⟨Ac,B6⟩:=Cg.o Cz.o (C4.o.keepB Ao (by omega)) f Ap;have B5:=f.cell.1;have C:=hid Ac;have C1:=hid B6;have Bs:=(show Hid (_=_)from B5);clear f Ae L Ao Ap Ac B6 B5;go_wp2
      go_roundw
      case rel=>exact⟨_,_,_,A9,c9,by rw[<-Bs.o],by rw[<-Bs.o];exact C.o⟩
      case measure=>rw[C.o.rd.at_eq,C.o.rd.nb_eq,I.o.rd.at_eq,I.o.rd.nb_eq];exact C1.o
     | true=>
      rw[Aa]at A7
      have Eb:ws[q]=z1x:=by
       rw[List.getElem?_eq_getElem Ag]at Aa;simpa using Aa
      have A5:Hid (ws.drop q=z1x::ws.drop (q+1)):=by
       show _=_;rw[Ce.o,Eb]
      clear Aa Eb;go_wp2_with fail;refine A7.o.mono ?_;rintro e l⟨rfl,z,Bg,Cj,Bm⟩;have e1:=z.c1;have e2:=z.c2;have g1:l.frozen? ⟨b,1,none⟩=false:=z.row.frozen;have g2:l.frozen? ⟨b,2,none⟩=false:=z.row.frozen;have An:b<l.heap.size:=z.row.lt
      have Ew:y≠b:=by
       have:=z.lt y oa rfl
       omega
      have Ee:((q+1:Nat):Int)=(q:Int)+1:=by omega
      have D3:Rd (l.setCell ⟨b,1,none⟩ (.int .i64 ((q:Int)+1))) b (some ⟨y,oa,none⟩) V ws (q+1) false:=by
       have J:=z.setAt (q+1);rw[Ee]at J;exact J
      have D7:But M b M (l.setCell ⟨b,1,none⟩ (.int .i64 ((q:Int)+1))):=(I.o.bt.trans (Bg.mono Cm)).setCell (p:=⟨b,1,none⟩) (.inl rfl) _;have Ch:Hid (But M b M ((l.setCell ⟨b,1,none⟩ (.int .i64 ((q:Int)+1))).setCell ⟨b,2,none⟩ (.bool true))):=D7.setCell (p:=⟨b,2,none⟩) (.inl rfl) _;have Dq:=(show Hid (Rd (l.setCell ⟨b,1,none⟩ (.int .i64 ((q:Int)+1))) b (some ⟨y,oa,none⟩) V ws (q+1) false)from D3);have Ab:Hid (But wr b wr l):=Bg;have Do:=(show Hid (Rd l b (some ⟨y,oa,none⟩) V ws q false)from z);clear Bg Cj A7 D3 D7 z;by_cases Bl:q+1<ws.length
      ·have Ef:(q:Int)+1<(ws.length:Int):=by omega
       obtain⟨Du,Eo,ea,Fi,dn⟩:=Do.o.wd (q+1) (by rw[List.length_map];exact Bl);simp only[Option.some.injEq,Addr.mk.injEq,and_true]at ea;obtain⟨rfl,rfl⟩:=ea;rw[List.getElem_map]at dn;have Br:Hid (ws.drop (q+1)=ws[q+1]::ws.drop (q+2)):=List.drop_eq_getElem_cons Bl;have As:Hid (∀w',Calls prog 23 #[.string (wbS ws[q+1])] w' fun e w''=>e=.returned (.bool (nmW ws[q+1]))/\w'=w''):=fun w'=>q1e _ w'
       cases Au:nmW ws[q+1]with
       | false=>
        rw[Au]at As;have Bb:Hid (PG false [] ws (.bad (ws.drop (q+1)))):=I.o.ok rfl _ (by rw[A5.o];exact .letN (fun w h=>by rw[Br.o]at h;cases h;exact Au));clear Au;generalize wbS ws[q+1]=X1 at dn As;go_wp2_with fail;refine(As.o _).mono ?_;rintro e w3⟨rfl,rfl⟩;have Am:=Ay.o (q+1) (by omega) Bb.o;have Aj:=hid Am;clear Am;obtain⟨bp,op,rfl,Dc⟩:=Az.o _ Ch.o (q+1) Bl
        generalize(((pl[q+1]?).getD s.size:Nat):Int)=K at Aj Dc
        go_wp2_with fail
        go_quiet (fail)
        go_wp2;refine bodyPost_ret (v:=.tuple #[.slice none 0 0,.int .i64 K,.int .i64 5]) (by simp[results,Tryz.results11,go_sem]) rfl ?_;exact q4v Aj.o (q0f (Cc.o _ Ch.o) _)
       | true=>
        rw[Au]at As;have Cq:(wbS ws[q+1]).size<=8:=j6q Au;generalize D8:wbS ws[q+1]=X1 at dn As Cq
        have Ep:Hid (j1p ws[q+1]=⟨7,X1,0⟩):=by
         show _=_;rw[<-D8];rfl
        have Cf:Hid (nmW ws[q+1]=true):=Au;clear Au D8;go_wp2_with fail;refine(As.o _).mono ?_;rintro e w3⟨rfl,rfl⟩;go_wp2_with fail
        have Dt:Hid (Calls prog 35 #[.pointer (some ⟨b,0,none⟩),.string ⟨#[61]⟩] (((l.setCell ⟨b,1,none⟩ (.int .i64 ((q:Int)+1))).setCell ⟨b,1,none⟩ (.int .i64 ((q:Int)+1+1))).alloc (.cells #[.int .i64 7,.string X1,.int .i64 0] 47)) fun e w'=>(∃v,e=.returned v)/\Rd w' b (some ⟨y,oa,none⟩) V ws (q1n ws (q+2) false [61]) (q0u ws (q+2) false [61])/\But wr b wr w'/\q0w wr (.slice (some ⟨l,0,none⟩) 1 1) [⟨7,X1,0⟩] w'/\wr.heap.size<w'.heap.size):=by
         have J:=Dq.o.setAt (q+2);rw[show((q+2:Nat):Int)=(q:Int)+1+1 by omega]at J;have Dv:But wr b wr ((l.setCell ⟨b,1,none⟩ (.int .i64 ((q:Int)+1))).setCell ⟨b,1,none⟩ (.int .i64 ((q:Int)+1+1))):=(Ab.o.setCell (p:=⟨b,1,none⟩) (.inl rfl) _).setCell (p:=⟨b,1,none⟩) (.inl rfl) _;have Ei:((l.setCell ⟨b,1,none⟩ (.int .i64 ((q:Int)+1))).setCell ⟨b,1,none⟩ (.int .i64 ((q:Int)+1+1))).heap.size=l.heap.size:=by rw[World.size_setCell,World.size_setCell]
         generalize(l.setCell ⟨b,1,none⟩ (.int .i64 ((q:Int)+1))).setCell ⟨b,1,none⟩ (.int .i64 ((q:Int)+1+1))=S at J Dv Ei⊢
         have h3:=J.keep (Zb.alloc Zl (.cells #[.int .i64 7,.string X1,.int .i64 0] 47));have h4:But wr b wr (S.alloc (.cells #[.int .i64 7,.string X1,.int .i64 0] 47)):=Dv.alloc (by omega) _;have h5:=q0w.one S ⟨7,X1,0⟩;rw[Ei]at h5;refine(q8e h3 hl (by omega) [61]).mono ?_;rintro e w'⟨hv,hR,hB⟩;have E9:=hB.size;rw[World.size_alloc]at E9;exact⟨hv,hR,h4.trans (hB.mono (by rw[World.size_alloc];omega)),(h5.but hB An).down (by omega),by omega⟩
        have Fn:=(show Hid (PAt b (some ⟨y,oa,none⟩) V ws M q false B (.slice d B.length N) wr)from I.o);refine Dt.o.mono ?_;rintro e O⟨⟨F1,rfl⟩,Bh,Dy,D4,Cl⟩;clear e1 e2 g1 g2 An Ew dn Dq Ch Ab Do As Dt Bm;have Bm:=Cl;have Ab:Hid (But wr b wr O):=Dy;have Bd:Hid (q0w wr (.slice (some ⟨l,0,none⟩) 1 1) [⟨7,X1,0⟩] O):=D4;clear Dy D4 Cl;generalize l.heap.size=gx at Bd⊢;by_cases Bf:ws[q+2]?=some ([61]:Wd)
        case' pos=>
         obtain⟨a1,a2⟩:=k8c Bf;rw[a1,a2]at Bh;obtain⟨E4,Dw⟩:=List.getElem?_eq_some_iff.1 Bf
         have Cd:Hid (ws.drop q=z1x::ws[q+1]::[61]::ws.drop (q+3)):=by
          show _=_;rw[A5.o,Br.o,List.drop_eq_getElem_cons E4,Dw]
         have Cg:Hid (∀{w3 w4 w7:World}{r:Rs}{ns:List Td}{v4 v7:Value},Got b (some ⟨y,oa,none⟩) V ws (.level 0) (q+3) w3 r ns v4 w4->Rd w7 b (some ⟨y,oa,none⟩) V ws (q1n ws (ws.length-r.rest.length) r.isBad [59]) (q0u ws (ws.length-r.rest.length) r.isBad [59])->q3t (b+1) v7 (B++[⟨7,X1,0⟩::ns]) w7->But M b M w7->_):=fun J h2 h3 h4=>v8a I.o (show q<=q+3 by omega) (show q+3<=ws.length by omega) Cq J
          (fun u h=>by rw[Cd.o];exact .letB Cf.o h) (fun m ms u h h5=>by rw[Cd.o];exact .letX Cf.o h h5) (fun m ms u r h h5=>by rw[Cd.o];exact .letO Cf.o h (by rw[Ep.o];exact h5)) h2 h3 h4
         have A8:Hid (Calls prog 36 #[.pointer (some ⟨b,0,none⟩),.int .i64 0] O fun e w'=>∃r ns d N,e=.returned (.slice d ns.length N)/\Got b (some ⟨y,oa,none⟩) V ws (.level 0) (q+3) O r ns (.slice d ns.length N) w'):=k1d hl B0.o (by omega) O Bh;clear Bh a1 a2 Bf Dw A5 Br Cd
        case' neg=>
         obtain⟨a1,a2⟩:=v0c Bf;rw[a1,a2]at Bh
         have Bb:Hid (PG (q6h ws q) B (ws.drop q) (.bad (ws.drop (q+2)))):=by
          show PG _ _ _ _;rw[A5.o,Br.o];exact .letE Cf.o (by rw[q5f];exact Bf)
         have Cg:Hid (∀{w3 w4 w7:World}{r:Rs}{ns:List Td}{v4 v7:Value},y6y b (some ⟨y,oa,none⟩) V ws (q+2) w3 r ns v4 w4->Rd w7 b (some ⟨y,oa,none⟩) V ws (q1n ws (ws.length-r.rest.length) r.isBad [59]) (q0u ws (ws.length-r.rest.length) r.isBad [59])->q3t (b+1) v7 (B++[⟨7,X1,0⟩::ns]) w7->But M b M w7->_):=fun J h2 h3 h4=>y4q I.o (show q<q+2 by omega) (show q+2<=ws.length by omega) J Bb.o h2 h3 h4
         have A8:Hid (Calls prog 36 #[.pointer (some ⟨b,0,none⟩),.int .i64 0] O fun e w'=>∃r ns d N,e=.returned (.slice d ns.length N)/\y6y b (some ⟨y,oa,none⟩) V ws (q+2) O r ns (.slice d ns.length N) w'):=by
          refine(z6p Bh).mono ?_;rintro e w'⟨rfl,hR,hB⟩;refine⟨.bad (ws.drop (q+2)),[],none,0,rfl,⟨q0w.nil _ _,?_,?_,hB,rfl,rfl⟩⟩
          ·show 0+(ws.drop (q+2)).length<=_;omega
          ·show Rd w' b _ V ws (ws.length-(ws.drop (q+2)).length) true;rw[q0k (by omega),show ws.length-(ws.length-(q+2))=q+2 by omega];exact hR
         clear Bh a1 a2 Bf A5 Br Bb
        all_goals
         go_wp2_with fail;refine A8.o.mono ?_;rintro e w4⟨r4,G,A4,c4,rfl,H⟩;have Cz:=hid H;have Ev:b<w4.heap.size:=H.rd.row.lt;have B1:Hid (Calls prog 35 #[.pointer (some ⟨b,0,none⟩),.string ⟨#[59]⟩] w4 fun e w'=>(∃v,e=.returned v)/\Rd w' b (some ⟨y,oa,none⟩) V ws (q1n ws (ws.length-r4.rest.length) r4.isBad [59]) (q0u ws (ws.length-r4.rest.length) r4.isBad [59])/\But w4 b w4 w'):=q8e H.rd hl (by omega) [59];have B7:=H.n;rw[q0k (by omega)]at B7;have E7:=H.bt.size;have Ct:Hid (But wr b wr w4):=Ab.o.trans (H.bt.mono (by omega));have By:Hid (q0w wr (.slice (some ⟨gx,0,none⟩) 1 1) [(⟨7,X1,0⟩:Td)] w4):=Bd.o.but H.bt B4;have Bv:Hid (q0w O (.slice A4 G.length c4) G w4):=H.o;have Bt:Hid (A4=none->G.length=0/\c4=0):=H.o.none.2;generalize Ak:G.length=n4 at B7 Bt;have Ai:Hid (G.length=n4):=Ak;clear H Ak A8;go_wp2_with fail;refine B1.o.mono ?_;rintro e w5⟨⟨vv,rfl⟩,B2,Ad⟩;have E8:=Ad.size;have Bz:Hid (q0w wr (.slice (some ⟨gx,0,none⟩) 1 1) [(⟨7,X1,0⟩:Td)] w5):=By.o.but Ad B4;have Cw:Hid (Tds w5 A4 G):=(Bv.o.but Ad (by omega)).tds;have Cu:Hid (But wr b wr w5):=Ct.o.trans (Ad.mono (by omega));have C4:Hid (Rd w5 b (some ⟨y,oa,none⟩) V ws (q1n ws (ws.length-r4.rest.length) r4.isBad [59]) (q0u ws (ws.length-r4.rest.length) r4.isBad [59])):=B2;clear Ad B2 B1 By Bv Bd;go_wp2_with(at_builtin;refine q4k rfl _ _ rfl wr.heap.size _ [(⟨7,X1,0⟩:Td)] rfl Bz.o A4 n4 G Ai.o c4 rfl Cw.o Bt.o (1+n4) rfl (by omega) (by omega) ?_);intro A6 c6 O Q c;have a:Below wr w5 O:= Zb.grown c (by omega) (fun k' hk=>(World.ownsRow.lt Bz.o k' hk).1);have Cl:=a.size;obtain⟨g6,eg⟩:=z0w Q;subst eg;have Bq:Hid (But wr b wr O):=Cu.o.trans (But.of a)
         have At:q3t (b+1) (.slice d al N) B O:=by
          have h8:=I.o.o.but Bq.o (by omega);rw[Ah.o]at h8;exact h8
         have C2:Hid (q3t (b+1) (.slice d al N) B O):=At;obtain⟨n1,n2,n3⟩:=z9e At (Q.down (show b+1<=wr.heap.size by omega));have N1:=(show Hid (q3t (b+1) (.slice d al N) B (O.alloc (.cells #[.slice (some ⟨g6,0,none⟩) (1+n4) c6] 22)))from n1);have N2:=(show Hid (q0w (b+1) (.slice (some ⟨g6,0,none⟩) (1+n4) c6) ((⟨7,X1,0⟩:Td)::G) (O.alloc (.cells #[.slice (some ⟨g6,0,none⟩) (1+n4) c6] 22)))from n2);have N3:=(show Hid ((O.alloc (.cells #[.slice (some ⟨g6,0,none⟩) (1+n4) c6] 22)).cell? ⟨O,0,none⟩=some (.slice (some ⟨g6,0,none⟩) (1+n4) c6))from n3)
         have C0:Hid (((⟨7,X1,0⟩:Td)::G).length=1+n4):=by
          show _=_;rw[List.length_cons,Ai.o];omega
         have Bp:Hid (Below wr w5 O):=a;clear Q c At n1 n2 n3 a;go_wp2_with(at_builtin;refine z7t rfl _ _ rfl (b+1) _ B rfl N1.o O.heap.size g6 (1+n4) c6 ((⟨7,X1,0⟩:Td)::G) C0.o rfl N3.o N2.o (al+1) (by rw[Ah.o]) (by omega) (by simp only[World.size_alloc];omega) ?_);intro A9 c9 w9 f Ae;have L:Below (b+1) O w9:=(Zb.alloc (by omega) _).grown Ae (by simp only[World.size_alloc];omega) (fun k' hk=>C2.o.own_le hk);have Ao:Below (b+1) w5 w9:=(Bp.o.mono (by omega)).trans L;have Ap:But M b M w9:=(I.o.bt.trans (Bq.o.mono Cm)).trans (But.of (L.mono (by rw[Bc.o];exact Nat.le_refl _)));obtain⟨Ac,B6⟩:=Cg.o Cz.o (C4.o.keepB Ao (by omega)) f Ap;have B5:=f.cell.1;have C:=hid Ac;have C1:=hid B6;have Bs:=(show Hid (_=_)from B5);clear f Ae L Ao Ap Ac B6 B5;go_wp2
         go_roundw
         case rel=>exact⟨_,_,_,A9,c9,by rw[<-Bs.o],by rw[<-Bs.o];exact C.o⟩
         case measure=>rw[C.o.rd.at_eq,C.o.rd.nb_eq,I.o.rd.at_eq,I.o.rd.nb_eq];exact C1.o
      ·have Ef:¬(q:Int)+1<(ws.length:Int):=by omega
       have Bb:Hid (PG false [] ws (.bad (ws.drop (q+1)))):=I.o.ok rfl _ (by rw[A5.o];exact .letN (fun w h=>by rw[List.drop_eq_nil_of_le (by omega)]at h;cases h));have Am:=Ay.o (q+1) (by omega) Bb.o;have Aj:=hid Am;clear Am;have Av:pl[q+1]?=none:=Bu.o (q+1) (by omega);rw[Av]at Aj;go_wp2;refine bodyPost_ret (v:=.tuple #[.slice none 0 0,.int .i64 (s.size:Int),.int .i64 5]) (by simp[results,Tryz.results11,go_sem]) rfl ?_;exact q4v Aj.o (Cc.o _ Ch.o)
   ·have E5:q=ws.length:=by omega
    have E6:¬(q:Int)<(ws.length:Int):=by omega
    have hG:PG false [] ws (.ok B):=I.o.ok rfl _ (by rw[E5,List.drop_length];exact .done);have HG:=hid (Dn.o B hG)
    have C3:Hid (Calls prog 37 #[.slice d al N] wr fun e w'=>e=.returned (.tuple #[.int .i64 ((q0r B).1:Int),.int .i64 (q0r B).2])/\Below wr wr w'):=by
     have J:=k2h B d N wr I.o.o.prg (fun t ht x hx=>by have:=I.o.tx rfl t ht x hx;omega);rw[Ah.o]at J;exact J
    clear hG;generalize Fx:(q0r B).2=F at C3 HG;by_cases hF:F=0
    ·subst hF;have Cy:=hid (HG.o.2 rfl);clear HG;go_wp2_with fail;refine C3.o.mono ?_;rintro e l⟨rfl,An⟩;have Ab:=hid An;clear An;go_wp2;refine bodyPost_ret (v:=.tuple #[.slice d al N,.int .i64 0,.int .i64 0]) (by simp[results,Tryz.results11,go_sem]) rfl ?_;have hc:=I.o.o.cell;have hs:=A3.o.size;exact⟨B,0,0,d,N,by rw[Ah.o],Cy.o,I.o.o.prg.W Ab.o,hc.2.2.1,hc.2.1,A3.o.trans (Ab.o.mono hs)⟩
    ·have Cy:=hid (HG.o.1 hF);clear HG;go_wp2_with fail;refine C3.o.mono ?_;rintro e l⟨rfl,An⟩;have Ab:=hid An;clear An;go_wp2;refine bodyPost_ret (v:=.tuple #[.slice none 0 0,.int .i64 0,.int .i64 F]) (by simp[results,Tryz.results11,go_sem]) rfl ?_;have hs:=A3.o.size;exact q4v Cy.o (A3.o.trans (Ab.o.mono hs))
end Go.Proofs.YtfdppahhbpfnoaaGreatDoor
