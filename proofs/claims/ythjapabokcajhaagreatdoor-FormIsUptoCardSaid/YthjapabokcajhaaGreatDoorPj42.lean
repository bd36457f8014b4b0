/- Texts as one: RdQ. -/
import Derived.Test.YthjapabokcajhaaGreatDoorPj40
import Derived.Test.YthjapabokcajhaaGreatDoorPj41
open Go.Proofs.Tryz
namespace Go.Proofs.YthjapabokcajhaaGreatDoor
open Go Go.RowKit
set_option maxRecDepth 100000
set_option maxHeartbeats 16000000
def k5k(s:ByteArray)(W:World)(e:Ending)(w':World):Prop:=∃ps k f A c,e=.returned (.tuple #[.slice A ps.length c,.int .i64 k,.int .i64 f])/\q8j s ps k f/\Prg w' A ps/\(A=none->ps.length=0/\c=0)/\ps.length<=c/\Below W W w'
theorem q4s{s:ByteArray}{W w':World}{k f:Int}(h:q8j s [] k f)(hb:Below W W w'):k5k s W (.returned (.tuple #[.slice none 0 0,.int .i64 k,.int .i64 f])) w':=
 ⟨[],k,f,none,0,rfl,h,Prg.nil _ _,fun _=>⟨rfl,rfl⟩,Nat.le_refl _,hb⟩
theorem v4w{B:Nat}{w:World}{A:Option Addr}{n c:Nat}{xs:List ByteArray}(h:q2r B (.slice A n c) xs w):∀ba oa,A=some ⟨ba,oa,none⟩->ba<w.heap.size:=by
 intro ba oa e;rcases h.2 with⟨hv,_⟩|⟨g,c',cur,hv,_,hg,_⟩
 ·simp only[Value.slice.injEq]at hv;rw[hv.1]at e;cases e
 ·simp only[Value.slice.injEq]at hv;rw[hv.1]at e;simp only[Option.some.injEq,Addr.mk.injEq,and_true]at e;rw[<-e.1];exact(Array.getElem?_eq_some_iff.1 hg).1
theorem y5h{w:World}{A:Option Addr}{c:Nat}{ws:List Wd}(hw:Wds w A (ws.map wbS))(hlt:∀ba oa,A=some ⟨ba,oa,none⟩->ba<w.heap.size):Rd (w.alloc (.cells #[.slice A ws.length c,.int .i64 0,.bool false] 73)) w.heap.size A c ws 0 false:=by
 have h1:(w.alloc (.cells #[.slice A ws.length c,.int .i64 0,.bool false] 73)).heap[w.heap.size]?=some (.cells #[.slice A ws.length c,.int .i64 0,.bool false] 73 (0,0)):=by
  show(w.heap.push _)[w.heap.size]?=_
  simp
 have h2:∀k,(w.alloc (.cells #[.slice A ws.length c,.int .i64 0,.bool false] 73)).cell? ⟨w.heap.size,k,none⟩=(match (w.alloc (.cells #[.slice A ws.length c,.int .i64 0,.bool false] 73)).heap[w.heap.size]? with
  | some (.cells c _ _)=>c[k]?
  | _=>none):=fun _=>rfl
 refine⟨by rw[h2,h1];rfl,by rw[h2,h1];rfl,by rw[h2,h1];rfl,⟨_,_,h1,rfl⟩,hw.below (Zb.alloc Zl _),hlt⟩
theorem j9v{L:List UInt8}:∀x∈q2h L,q3k x/\x.length<=L.length:=by
 intro x hx;obtain⟨j,hj,rfl⟩:=List.getElem_of_mem hx;have h:=y6n L j hj (by rw[<-z2r];exact hj);exact⟨h.2.2.1,by omega⟩
theorem j5s:∀(ws:List Wd)(w:Wd),w∈ws->w.length+1<=k2j ws
 | a::r,w,h=>by
  unfold k2j;rw[List.map_cons,List.sum_cons];rcases List.mem_cons.1 h with rfl|h
  ·omega
  ·have:=j5s r w h
   unfold k2j at this;omega
theorem j4x:∀ws:List Wd,ws.length<=k2j ws
 | []=>by simp
 | a::r=>by
  have:=j4x r
  unfold k2j at this⊢;rw[List.map_cons,List.sum_cons,List.length_cons];omega
theorem j7b(s:List UInt8):(q0e s).length<=s.length+1:=by
 unfold q0e
 split
 ·simp
 ·have:=j4x (q5j s)
  rw[z9l]at this;exact this
theorem j7c{s:List UInt8}{w:Wd}(h:w∈q0e s):w.length<=s.length:=by
 unfold q0e at h
 split at h
 ·cases h
 ·have h1:=j5s _ _ h;rw[z9l]at h1;omega
theorem j1n{t l:Wd}(h:l≠[]/\t≠[]):wbS t++(⟨#[32]⟩:ByteArray)++wbS l=wbS (q6l t l):=by
 unfold q6l;rw[if_pos h,<-q1t,<-q1t];rfl
theorem k2z{t l:Wd}(h:¬(l≠[]/\t≠[])):wbS t++wbS l=wbS (q6l t l):=by
 unfold q6l;rw[if_neg h,<-q1t]
theorem j9p{t:Wd}(h:t≠[]):(0:Int)<((wbS t).size:Int):=by
 rw[q2o]
 have:=List.length_pos_iff.2 h
 omega
theorem k5d{t:Wd}(h:t=[]):¬(0:Int)<((wbS t).size:Int):=by
 rw[q2o,h];simp
theorem y2i{w:Wd}{S:ByteArray}(h:wbS w=S)(h0:w≠[]):0<S.size/\∀h1:0<S.size,S[0]=w.headD 0:=by
 subst h;cases w with
 | nil=>exact absurd rfl h0
 | cons c r=>exact⟨by rw[<-q0c];show 0<(c::r).length;simp,fun _=>rfl⟩
theorem y1w{w:Wd}{S:ByteArray}(h:wbS w=S):btL (S.extract 1 S.size)=w.drop 1:=by
 subst h;rw[q9s];have e1:btL (wbS w)=w:=rfl;have e2:∀l:List UInt8,btL (wbS l)=l:=fun _=>rfl
 rw[e2,e1,q2o,List.take_of_length_le (by simp)]
structure y6q(b:Nat)(A:Option Addr)(c:Nat)(ws:List Wd)(p:Nat)(w:World)(r:Rs)(ns:List Td)(v:Value)(w':World):Prop where
 o:q0x w v ns w'
 n:ns.length+r.rest.length<=(ws.drop p).length
 rd:Rd w' b A c ws (ws.length-r.rest.length) r.isBad
 bt:But w b w w'
 er:r=.bad (ws.drop p)
 en:ns=[]
theorem y4x{b:Nat}{A:Option Addr}{c:Nat}{ws:List Wd}{w:World}{q p:Nat}{acc:List (List Td)}{v v7:Value}{wr w3 w4 w7:World}{x:Td}{r:Rs}{ns:List Td}{v4:Value}(hV:PAt b A c ws w q false acc v wr)(hqp:q<p)(hp:p<=ws.length)
  (hG:y6q b A c ws p w3 r ns v4 w4) (hP:PG (q6c ws q) acc (ws.drop q) (.bad (ws.drop p)))
  (hR:Rd w7 b A c ws (q1k ws (ws.length-r.rest.length) r.isBad [59]) (q0s ws (ws.length-r.rest.length) r.isBad [59])) (hO:q3o (b+1) v7 (acc++[x::ns]) w7) (b7:But w b w w7):
  PAt b A c ws w (q1k ws (ws.length-r.rest.length) r.isBad [59]) (q0s ws (ws.length-r.rest.length) r.isBad [59]) (acc++[x::ns]) v7 w7/\
  2*(ws.length-q1k ws (ws.length-r.rest.length) r.isBad [59])+(if q0s ws (ws.length-r.rest.length) r.isBad [59]then 0 else 1)<2*(ws.length-q)+1:=by
 have er:=hG.er;subst er
 have e1:ws.length-(Rs.bad (ws.drop p)).rest.length=p:=by
  show ws.length-(ws.drop p).length=p;rw[q0j hp];omega
 rw[e1]at hR⊢;have e2:q1k ws p (Rs.bad (ws.drop p)).isBad [59]=p:=by simp[q1k,Rs.isBad]
 have e3:q0s ws p (Rs.bad (ws.drop p)).isBad [59]=true:=by simp[q0s,Rs.isBad]
 rw[e2,e3]at hR⊢;exact⟨y1j hV (by omega) hp (by simp) hP hO hR b7,by simp only[if_true];omega⟩
theorem z4q(s:ByteArray)(W:World):Calls prog 11 #[.string s] W fun e w'=>k5k s W e w':=by
 have HL:Hid (Calls prog 33 #[.string s] W fun e w'=>j1e s W e w'/\Below W W w'):=j4z s W;go_in;go_wp2_with fail;refine HL.o.mono ?_;rintro e w1⟨hres,hb1⟩;have HB1:Hid (Below W W w1):=hb1;clear hb1 HL;rcases hres with⟨hne,rfl⟩|⟨h0,A,P,ac,pc,rfl,hS,hP⟩
 ·have HP:Hid (q8j s [] ((z9v (btL s):Nat):Int) (q7n (btL s))):=.lex hne
  generalize((z9v (btL s):Nat):Int)=K at HP
  generalize q7n (btL s)=E at HP hne;go_wp2;refine bodyPost_ret (v:=.tuple #[.slice none 0 0,.int .i64 K,.int .i64 E]) (by simp[results,Tryz.results11,go_sem]) rfl ?_;exact q4s HP.o HB1.o
 have hl:=j5b h0;have htk:∀x∈q2h (btL s),q3k x:=fun x hx=>(j9v x hx).1
 have hwl:∀x∈q2h (btL s),x.length<=60000:=fun x hx=>Nat.le_trans (j9v x hx).2 (z4f h0).1
 have HBAD:Hid (∀q,q<=(q2h (btL s)).length->PG false [] (q2h (btL s)) (.bad ((q2h (btL s)).drop q))->q8j s [] ((((z2c (btL s))[q]?).getD s.size:Nat):Int) 5):=fun q hq hg=>by
  have h9:=q8j.bad h0 hg;unfold y5a at h9;rw[q0j hq,show(q2h (btL s)).length-((q2h (btL s)).length-q)=q by omega]at h9;exact h9
 have HOKP:Hid (∀qs,PG false [] (q2h (btL s)) (.ok qs)->((q1i qs).2≠0->q8j s [] 0 (q1i qs).2)/\((q1i qs).2=0->q8j s qs 0 0)):=fun qs hg=>⟨fun h=>.full h0 hg h,fun h=>.ok h0 hg h⟩
 have hPI:∀i,i<(q2h (btL s)).length->∃bp op,P=some ⟨bp,op,none⟩/\bp<w1.heap.size/\w1.cell? ⟨bp,op+i,none⟩=some (.int .i64 ((((z2c (btL s))[i]?).getD s.size:Nat):Int)):=fun i hi=>by
  have hi2:i<((z2c (btL s)).map fun(k:Nat)=>(k:Int)).length:=by rw[List.length_map,<-z2r];exact hi
  obtain⟨bp,op,e,hlt,c1⟩:=k9o hP i hi2;have hi3:i<(z2c (btL s)).length:=by rw[<-z2r];exact hi
  refine⟨bp,op,e,hlt,?_⟩;rw[c1,List.getElem?_eq_getElem hi3,List.getElem_map];rfl
 generalize hws:q2h (btL s)=ws at *;obtain⟨W2,hW2⟩:∃W2,W2=w1.alloc (.cells #[.slice A ws.length ac,.int .i64 0,.bool false] 73):=⟨_,rfl⟩;have HRD:Hid (Rd W2 w1.heap.size A ac ws 0 false):=by rw[hW2];exact y5h (q4g hS) (v4w hS)
 have HW2:Hid (W2=w1.alloc (.cells #[.slice A ws.length ac,.int .i64 0,.bool false] 73)):=hW2;have hbl:Below w1 w1 W2:=by rw[hW2];exact Zb.alloc Zl _
 have hs2:W2.heap.size=w1.heap.size+1:=by rw[hW2,World.size_alloc]
 have HINT:Hid (∀wr,But W2 w1.heap.size W2 wr->∀i,i<ws.length->∃bp op,P=some ⟨bp,op,none⟩/\wr.cell? ⟨bp,op+i,none⟩=some (.int .i64 ((((z2c (btL s))[i]?).getD s.size:Nat):Int))):=fun wr hb i hi=>by
  obtain⟨bp,op,e,hlt,c1⟩:=hPI i hi;refine⟨bp,op,e,?_⟩;rw[hb.cell (p:=⟨bp,op+i,none⟩) (by show bp<_;omega) (by show bp≠_;omega),hbl.cell (p:=⟨bp,op+i,none⟩) hlt];exact c1
 have HBW:Hid (∀wr,But W2 w1.heap.size W2 wr->Below W W wr):=fun wr hb=>by
  have h1:=HB1.o.size;exact(HB1.o.trans (hbl.mono h1)).trans (hb.low (by omega) h1)
 have HNON:Hid (∀q,ws.length<=q->(z2c (btL s))[q]?=none):=fun q hq=>List.getElem?_eq_none (by rw[<-z2r,hws];exact hq)
 have HTK:Hid (∀x∈ws,q3k x):=htk;have HWL:Hid (∀x∈ws,x.length<=60000):=hwl;have HS2:Hid (W2.heap.size=w1.heap.size+1):=hs2;generalize hPL:z2c (btL s)=pl at HBAD HINT HNON;clear hS hP h0 htk hwl hPI hws hW2 hbl hs2 HB1 hPL;go_wp2_with fail;rw[<-HW2.o];generalize w1.heap.size=b at HRD HINT HBW HS2⊢;clear HW2
 go_loopw [10] (fun x wr=>∃(q:Nat)(bad:Bool)(acc:List (List Td))(A':Option Addr)(c':Nat),x=.slice A' acc.length c'/\PAt b A ac ws W2 q bad acc (.slice A' acc.length c') wr) (fun _ wr=>2*(ws.length-y2u wr b)+y6y wr b)
 case atStart=>exact⟨0,false,[],none,0,rfl,y1k HRD.o⟩
 case round=>
  obtain⟨q,bad,acc,A',c',rfl,hV⟩:=hrel;have HV:=(show Hid (_)from hV);have d1:=hV.rd.c1;have d2:=hV.rd.c2;have hqle:=hV.le;have hfz1:wr.frozen? ⟨b,1,none⟩=false:=hV.rd.row.frozen;have hfz2:wr.frozen? ⟨b,2,none⟩=false:=hV.rd.row.frozen;have hbs:b<wr.heap.size:=hV.rd.row.lt;have hwb:=hV.bt.size;have hln:=hV.len;have HBR:Hid (Below W W wr):=HBW.o wr hV.bt;generalize hal:acc.length=al at hln;have HAL:Hid (acc.length=al):=hal;clear hV hal;cases bad with
  | true=>
   have hPR:=HBAD.o q hqle (HV.o.bd rfl);have HPR:=(show Hid (_)from hPR);clear hPR;by_cases hq2:q<ws.length
   ·have hq2i:(q:Int)<(ws.length:Int):=by omega
    obtain⟨bp,op,rfl,hcp⟩:=HINT.o wr HV.o.bt q hq2
    generalize(((pl[q]?).getD s.size:Nat):Int)=K at HPR hcp
    go_wp2_with fail
    go_quiet (fail)
    go_wp2;refine bodyPost_ret (v:=.tuple #[.slice none 0 0,.int .i64 K,.int .i64 5]) (by simp[results,Tryz.results11,go_sem]) rfl ?_;exact q4s HPR.o (q0f HBR.o _)
   ·have hq2i:¬(q:Int)<(ws.length:Int):=by omega
    have hnone:pl[q]?=none:=HNON.o q (by omega);rw[hnone]at HPR;go_wp2;refine bodyPost_ret (v:=.tuple #[.slice none 0 0,.int .i64 (s.size:Int),.int .i64 5]) (by simp[results,Tryz.results11,go_sem]) rfl ?_;exact q4s HPR.o HBR.o
  | false=>
   by_cases hqlt:q<ws.length
   ·have hqi:(q:Int)<(ws.length:Int):=by omega
    obtain⟨ba,oa,eA,hba,dq⟩:=HV.o.rd.wd q (by rw[List.length_map];exact hqlt);subst eA;rw[List.getElem_map]at dq;have htq:=HTK.o _ (List.getElem_mem hqlt);have hwq:=HWL.o _ (List.getElem_mem hqlt)
    have hne:ws[q]≠[]:=by
     obtain⟨x,r,e,_⟩:=htq;rw[e];simp
    generalize hX:wbS ws[q]=X at dq;have HX:Hid (wbS ws[q]=X):=hX;obtain⟨hx0,hx1⟩:=y2i hX hne;have hx0i:(0:Int)<(X.size:Int):=by omega
    have hx6:X.size<=60000:=by rw[<-hX,q2o];exact hwq
    by_cases h35:ws[q].headD 0=35
    ·have hx35:X[0]=35:=(hx1 hx0).trans h35;have H35:Hid (ws[q].headD 0=35):=h35
     have HNW:Hid (Calls prog 22 #[.string (X.extract 1 X.size)] (wr.setCell ⟨b,1,none⟩ (.int .i64 ((q:Int)+1))) fun e w'=>(∃A1 c1,e=.returned (.slice A1 (q0e (ws[q].drop 1)).length c1)/\Wds w' A1 ((q0e (ws[q].drop 1)).map wbS))/\Rd w' b (some ⟨ba,oa,none⟩) ac ws (q+1) false/\But W2 b W2 w'/\q3o (b+1) (.slice A' al c') acc w'/\wr.heap.size<=w'.heap.size):=by
      have h1:=q3z (X.extract 1 X.size) (wr.setCell ⟨b,1,none⟩ (.int .i64 ((q:Int)+1))) (by rw[ByteArray.size_extract];omega);rw[y1w HX.o]at h1;have h2:=HV.o.rd.setAt (q+1);rw[show((q+1:Nat):Int)=(q:Int)+1 by omega]at h2;have h3:But wr b wr (wr.setCell ⟨b,1,none⟩ (.int .i64 ((q:Int)+1))):=(But.refl _ _ _).setCell (p:=⟨b,1,none⟩) (.inl rfl) _;have h4:(wr.setCell ⟨b,1,none⟩ (.int .i64 ((q:Int)+1))).heap.size=wr.heap.size:=by rw[World.size_setCell]
      rw[h4]at h1;refine h1.mono ?_;rintro e w'⟨⟨A1,c1,rfl,h5⟩,h6⟩;have h7:But wr b wr w':=h3.trans (But.of h6);refine⟨⟨A1,c1,rfl,q4g h5⟩,h2.keepB h6 hbs,HV.o.bt.trans (h7.mono hwb),?_,h7.size⟩;have h8:=HV.o.o.but h7 (by omega);rw[HAL.o]at h8;exact h8
     clear hX hx1 h35 hne htq hwq;go_wp2_with fail;refine HNW.o.mono ?_;rintro e w3⟨⟨A1,cc1,rfl,hW3⟩,hR3,hB3,hO3,hs3⟩;have HR3:=(show Hid (_)from hR3);have HB3:=(show Hid (_)from hB3);have HO3:Hid (q3o (b+1) (.slice A' al c') acc w3):=hO3;have HW3:=(show Hid (_)from hW3);have d13:=hR3.c1;have d23:=hR3.c2
     have HNL:Hid (∀k,(wbS (ntx ((q0e (ws[q].drop 1)).take k))).size<=60001):=fun k=>by
      have h1:=j7h (ws[q].drop 1) k
      have h2:(ws[q].drop 1).length<=60000:=by
       have h3:(wbS ws[q]).size<=60000:=by rw[HX.o];exact hx6
       rw[q2o]at h3;simp only[List.length_drop];omega
      show(wbS _).size<=_
      rw[q2o];omega
     have HWT:Hid (ntx ((q0e (ws[q].drop 1)).take (q0e (ws[q].drop 1)).length)=q0z ws[q]):=by
      show _=_;rw[List.take_length];rfl
     have HEL:Hid (∀j(h:j<(q0e (ws[q].drop 1)).length),(wbS (q0e (ws[q].drop 1))[j]).size<=60001):=fun j h=>by
      have h1:=j7c (List.getElem_mem h);have h3:(wbS ws[q]).size<=60000:=by rw[HX.o];exact hx6
      rw[q2o]at h3;simp only[List.length_drop]at h1;rw[q2o];omega
     have hnl6:(q0e (ws[q].drop 1)).length<=60001:=by
      have h1:=j7b (ws[q].drop 1);have h3:(wbS ws[q]).size<=60000:=by rw[HX.o];exact hx6
      rw[q2o]at h3;simp only[List.length_drop]at h1;omega
     clear hW3 hR3 hB3 hO3 HNW;generalize q0e (ws[q].drop 1)=nl at HW3 HNL HWT HEL hnl6⊢;go_wp2_with fail
     go_loopw [12,14] (fun t i wx=>∃j:Nat,j<=nl.length/\i=.int .i64 (j:Int)/\t=.string (wbS (ntx (nl.take j)))/\Below w3 w3 wx) (fun _ i _=>nl.length-(intOf i).toNat)
     case atStart=>exact⟨0,Nat.zero_le _,rfl,rfl,Below.refl _ _⟩
     case round=>
      obtain⟨j,hj,rfl,rfl,hbx⟩:=hrel;have HBX:Hid (Below w3 w3 wr):=hbx;clear hbx;by_cases hjl:j<nl.length
      ·have hji:(j:Int)<(nl.length:Int):=by omega
       obtain⟨b1,o1,e1,hb1,dj⟩:=(Wds.below HW3.o HBX.o) j (by rw[List.length_map];exact hjl);subst e1;rw[List.getElem_map]at dj
       have HST:Hid (ntx (nl.take (j+1))=q6l (ntx (nl.take j)) nl[j]):=by
        show _=_;unfold ntx;rw[List.take_succ_eq_append_getElem hjl,List.foldl_append];rfl
       have hz1:=HNL.o j;have hz2:=HEL.o j hjl;generalize ntx (nl.take j)=T at HST hz1⊢;generalize nl[j]=Y at HST hz2 dj;by_cases hy:Y=[]
       ·have HA:Hid (wbS T++wbS Y=wbS (q6l T Y)):=k2z fun h=>h.1 hy
        have hyi:=k5d hy;clear hy;generalize wbS T=TT at *;generalize wbS Y=YY at *;go_wp2
        go_roundw
        case rel=>exact⟨j+1,by omega,by go_num,by rw[HST.o,<-HA.o],HBX.o⟩
        case measure=>simp[intOf];omega
       ·have hyi:=j9p hy;by_cases ht:T=[]
        ·have HA:Hid (wbS T++wbS Y=wbS (q6l T Y)):=k2z fun h=>h.2 ht
         have hti:=k5d ht;clear hy ht;generalize wbS T=TT at *;generalize wbS Y=YY at *;go_wp2
         go_roundw
         case rel=>exact⟨j+1,by omega,by go_num,by rw[HST.o,<-HA.o],HBX.o⟩
         case measure=>simp[intOf];omega
        ·have HA:Hid (wbS T++(⟨#[32]⟩:ByteArray)++wbS Y=wbS (q6l T Y)):=j1n ⟨hy,ht⟩;have hti:=j9p ht;clear hy ht;generalize wbS T=TT at *;generalize wbS Y=YY at *;go_wp2
         go_roundw
         case rel=>exact⟨j+1,by omega,by go_num,by rw[HST.o,<-HA.o],HBX.o⟩
         case measure=>simp[intOf];omega
      ·have hji:¬(j:Int)<(nl.length:Int):=by omega
       have hje:j=nl.length:=by omega
       subst hje;have hz1:=HNL.o nl.length;rw[HWT.o]at hz1⊢;have hRy:=HR3.o.keep HBX.o;have e1:wr.cell? ⟨b,1,none⟩=some (.int .i64 ((q:Int)+1)):=hRy.c1;have hOy:q3o (b+1) (.slice A' al c') acc wr:=HO3.o.kept fun g h1 h2=>HBX.o.block g h2
       have hBy:But W2 b W2 wr:=HB3.o.trans (But.of (HBX.o.mono (by omega)));have hsy:w3.heap.size<=wr.heap.size:=HBX.o.size;have HRY:=(show Hid (_)from hRy);have HOY:Hid (q3o (b+1) (.slice A' al c') acc wr):=hOy;have HBY:=(show Hid (_)from hBy);have HAD:Hid (∀A9 c9 n9 w9,q3o (b+1) (.slice A9 n9 c9) (k0c (q6c ws q) acc (q0z ws[q])) w9->Rd w9 b (some ⟨ba,oa,none⟩) ac ws (q+1) false->But W2 b W2 w9->PAt b (some ⟨ba,oa,none⟩) ac ws W2 (q+1) false (k0c (q6c ws q) acc (q0z ws[q])) (.slice A9 n9 c9) w9/\n9=(k0c (q6c ws q) acc (q0z ws[q])).length):=fun A9 c9 n9 w9 h1 h2 h3=>⟨y4y HV.o hqlt H35.o (by have h4:(wbS ws[q]).size<=60000:=by{rw[HX.o];exact hx6};rw[q2o]at h4;exact h4) h1 h2 h3,h1.cell.1⟩
       clear hRy hOy hBy HR3 HO3 HB3 HW3 HNL HEL HWT;cases hpv:q6c ws q with
       | false=>
        rw[hpv]at HAD;generalize hTX:wbS (q0z ws[q])=TX at hz1
        have HN9:Hid (k0c false acc (q0z ws[q])=acc++[[⟨9,TX,0⟩]]):=by
         show k0c false acc (q0z ws[q])=_;rw[<-hTX];rfl
        rw[HN9.o]at HAD;obtain⟨n1,n2,n3⟩:=v3n HOY.o (by omega) ⟨9,TX,0⟩;have N1:Hid (q3o (b+1) (.slice A' al c') acc ((wr.alloc (.cells #[.int .i64 9,.string TX,.int .i64 0] 47)).alloc (.cells #[.slice (some ⟨wr.heap.size,0,none⟩) 1 1] 22))):=n1;have N2:Hid (q0x (b+1) (.slice (some ⟨wr.heap.size,0,none⟩) 1 1) [⟨9,TX,0⟩] ((wr.alloc (.cells #[.int .i64 9,.string TX,.int .i64 0] 47)).alloc (.cells #[.slice (some ⟨wr.heap.size,0,none⟩) 1 1] 22))):=n2;have N3:Hid (((wr.alloc (.cells #[.int .i64 9,.string TX,.int .i64 0] 47)).alloc (.cells #[.slice (some ⟨wr.heap.size,0,none⟩) 1 1] 22)).cell? ⟨wr.heap.size+1,0,none⟩=some (.slice (some ⟨wr.heap.size,0,none⟩) 1 1)):=n3;clear n1 n2 n3 hTX;by_cases hq0:q=0
        ·have hq1:¬(1:Int)<(q:Int)+1:=by omega
         have hq2:¬(0:Int)<(q:Int):=by omega
         clear hq0;go_wp2_with(at_builtin;refine z3l rfl _ _ rfl (b+1) _ acc rfl N1.o (wr.heap.size+1) wr.heap.size 1 1 [⟨9,TX,0⟩] rfl rfl N3.o N2.o (al+1) (by rw[HAL.o]) (by omega) (by simp only[World.size_alloc];omega) ?_);intro A9 c9 w9 hO9 hg9;have hb9:Below (b+1) wr w9:=((Zb.alloc (by omega) _).alloc (by simp only[World.size_alloc];omega) _).grown hg9 (by simp only[World.size_alloc];omega) (fun k' hk=>HOY.o.own_le hk);obtain⟨hP9,hn9⟩:=HAD.o A9 c9 _ w9 hO9 (HRY.o.keepB hb9 (by omega)) (HBY.o.trans (But.of (hb9.mono (by rw[HS2.o];exact Nat.le_refl _))));have HP9:=(show Hid (_)from hP9);clear hO9 hg9 hb9 hP9;go_wp2
         go_roundw
         case rel=>exact⟨q+1,false,_,A9,c9,by rw[<-hn9],by rw[<-hn9];exact HP9.o⟩
         case measure=>rw[HP9.o.rd.at_eq,HP9.o.rd.nb_eq,HV.o.rd.at_eq,HV.o.rd.nb_eq];simp;omega
        ·obtain⟨j0,hj0⟩:∃j0,q=j0+1:=⟨q-1,by omega⟩;have hjl0:j0<ws.length:=by omega
         have hq1:(1:Int)<(q:Int)+1:=by omega
         have hq2:(0:Int)<(q:Int):=by omega
         have hix:(q:Int)+1-2=(j0:Int):=by omega
         have hj0i:(j0:Int)<(ws.length:Int):=by omega
         obtain⟨ba',oa',ea,_,dz⟩:=HRY.o.wd j0 (by rw[List.length_map];exact hjl0);simp only[Option.some.injEq,Addr.mk.injEq,and_true]at ea;obtain⟨rfl,rfl⟩:=ea;rw[List.getElem_map]at dz
         have hne0:ws[j0]≠[]:=by
          obtain⟨x,r,e,_⟩:=HTK.o _ (List.getElem_mem hjl0);rw[e];simp
         generalize hZ:wbS ws[j0]=Z at dz;obtain⟨hz0,hzz⟩:=y2i hZ hne0;have hz0i:(0:Int)<(Z.size:Int):=by omega
         have hpz:(ws[j0].headD 0==35)=false:=by rw[<-z0p hjl0,<-hj0];exact hpv
         have hz35:¬Z[0]=35:=by
          rw[hzz hz0];intro e;rw[e]at hpz;cases hpz
         have hz35b:¬Z[0].toNat=35:=fun e=>hz35 (UInt8.toNat_inj.1 e)
         have hz35c:¬(Z[0].toNat:Int)=35:=by omega
         clear hzz hpz hne0 hZ;go_wp2_with(at_builtin;refine z3l rfl _ _ rfl (b+1) _ acc rfl N1.o (wr.heap.size+1) wr.heap.size 1 1 [⟨9,TX,0⟩] rfl rfl N3.o N2.o (al+1) (by rw[HAL.o]) (by omega) (by simp only[World.size_alloc];omega) ?_);intro A9 c9 w9 hO9 hg9;have hb9:Below (b+1) wr w9:=((Zb.alloc (by omega) _).alloc (by simp only[World.size_alloc];omega) _).grown hg9 (by simp only[World.size_alloc];omega) (fun k' hk=>HOY.o.own_le hk);obtain⟨hP9,hn9⟩:=HAD.o A9 c9 _ w9 hO9 (HRY.o.keepB hb9 (by omega)) (HBY.o.trans (But.of (hb9.mono (by rw[HS2.o];exact Nat.le_refl _))));have HP9:=(show Hid (_)from hP9);clear hO9 hg9 hb9 hP9;go_wp2
         go_roundw
         case rel=>exact⟨q+1,false,_,A9,c9,by rw[<-hn9],by rw[<-hn9];exact HP9.o⟩
         case measure=>rw[HP9.o.rd.at_eq,HP9.o.rd.nb_eq,HV.o.rd.at_eq,HV.o.rd.nb_eq];simp;omega
       | true=>
        rw[hpv]at HAD;have hq0:q≠0:=fun e=>by rw[e]at hpv;cases hpv
        obtain⟨j0,hj0⟩:∃j0,q=j0+1:=⟨q-1,by omega⟩;have hjl0:j0<ws.length:=by omega
        have hq1:(1:Int)<(q:Int)+1:=by omega
        have hq2:(0:Int)<(q:Int):=by omega
        have hix:(q:Int)+1-2=(j0:Int):=by omega
        have hj0i:(j0:Int)<(ws.length:Int):=by omega
        obtain⟨ba',oa',ea,_,dz⟩:=HRY.o.wd j0 (by rw[List.length_map];exact hjl0);simp only[Option.some.injEq,Addr.mk.injEq,and_true]at ea;obtain⟨rfl,rfl⟩:=ea;rw[List.getElem_map]at dz
        have hne0:ws[j0]≠[]:=by
         obtain⟨x,r,e,_⟩:=HTK.o _ (List.getElem_mem hjl0);rw[e];simp
        generalize hZ:wbS ws[j0]=Z at dz;obtain⟨hz0,hzz⟩:=y2i hZ hne0;have hz0i:(0:Int)<(Z.size:Int):=by omega
        have hpz:(ws[j0].headD 0==35)=true:=by rw[<-z0p hjl0,<-hj0];exact hpv
        have hz35:Z[0]=35:=by
         rw[hzz hz0];simpa using hpz
        clear hzz hpz hne0 hZ;obtain⟨init,x,eac,hxs⟩:=HV.o.last rfl hpv;subst eac;obtain⟨go,g,cx,eA,hgo,hrow,dk,hT⟩:=HOY.o.cell.2.2.2 init.length (by simp);subst eA;rw[List.getElem_append_right Zl]at dk hT;simp only[Nat.sub_self,List.getElem_cons_zero,List.length_singleton]at dk hT;obtain⟨g',o',eg,hg',_,t2,_⟩:=hT.tds 0 (by simp);simp only[Option.some.injEq,Addr.mk.injEq,and_true]at eg;obtain⟨rfl,rfl⟩:=eg;simp only[List.getElem_cons_zero,Nat.zero_mul,Nat.zero_add]at t2;have hfk:wr.frozen? ⟨go,init.length,none⟩=false:=hrow.frozen;have hgl:go<wr.heap.size:=hrow.lt;have hfa:∀o:Obj,(wr.alloc o).frozen? ⟨go,init.length,none⟩=false:=fun o=>(hrow.kept (((Below.refl wr.heap.size wr).alloc Zl o).block go hgl)).frozen
        have hca:∀o:Obj,(wr.alloc o).cell? ⟨go,init.length,none⟩=some (.slice (some ⟨g,0,none⟩) 1 cx):=fun o=>(((Below.refl wr.heap.size wr).alloc Zl o).cell (p:=⟨go,init.length,none⟩) hgl).trans dk
        have hal:al=init.length+1:=by rw[<-HAL.o];simp
        have hk:(al:Int)-1=(init.length:Int):=by omega
        have hki:(init.length:Int)<(al:Int):=by omega
        have HEND:Hid (∀R,R=wbS (q6l (btL x.tx) (q0z ws[q]))->PAt b (some ⟨ba,oa,none⟩) ac ws W2 (q+1) false (init++[[⟨9,R,0⟩]]) (.slice (some ⟨go,0,none⟩) al c') ((wr.setCell ⟨go,init.length,none⟩ (.slice (some ⟨wr.heap.size,0,none⟩) 1 1)).alloc (.cells #[.int .i64 9,.string R,.int .i64 0] 47))/\(init++[[(⟨9,R,0⟩:Td)]]).length=al):=fun R hR=>by
         have h1:k0c true (init++[[x]]) (q0z ws[q])=init++[[⟨9,R,0⟩]]:=by
          show(init++[[x]]).dropLast++[[ntT (q6l (q5k (init++[[x]])) (q0z ws[q]))]]=_
          have e:q5k (init++[[x]])=btL x.tx:=by simp[q5k]
          rw[e,hR];simp[ntT]
         have h2:=HAD.o (some ⟨go,0,none⟩) c' al ((wr.alloc (.cells #[.int .i64 9,.string R,.int .i64 0] 47)).setCell ⟨go,init.length,none⟩ (.slice (some ⟨wr.heap.size,0,none⟩) 1 1));rw[h1]at h2;have hb9:Below (b+1) wr ((wr.alloc (.cells #[.int .i64 9,.string R,.int .i64 0] 47)).setCell ⟨go,init.length,none⟩ (.slice (some ⟨wr.heap.size,0,none⟩) 1 1)):=(Zb.alloc (by omega) _).setCell (p:=⟨go,init.length,none⟩) hgo _;have h3:q3o (b+1) (.slice (some ⟨go,0,none⟩) al c') (init++[[x]]) (wr.alloc (.cells #[.int .i64 9,.string R,.int .i64 0] 47)):=HOY.o.kept fun k _ h4=>((Below.refl wr.heap.size wr).alloc Zl _).block k h4
         obtain⟨h5,h6⟩:=h2 (h3.last ((q0x.one wr ⟨9,R,0⟩).down (by omega))) (HRY.o.keepB hb9 (by omega)) (HBY.o.trans (But.of (hb9.mono (by rw[HS2.o];exact Nat.le_refl _))));rw[World.setCell_alloc_past _ _ _ _ hgl]at h5;exact⟨h5,h6.symm⟩
        have hT0:(wbS (q0z ws[q])).size=(q0z ws[q]).length:=q2o _;have hx0z:(btL x.tx).length=x.tx.size:=q0c _;have hxx:wbS (btL x.tx)=x.tx:=rfl;have HY:Hid (q0z ws[q]≠[]/\btL x.tx≠[]->x.tx++(⟨#[32]⟩:ByteArray)++wbS (q0z ws[q])=wbS (q6l (btL x.tx) (q0z ws[q]))):=fun h=>j1n h
        have HN:Hid (¬(q0z ws[q]≠[]/\btL x.tx≠[])->x.tx++wbS (q0z ws[q])=wbS (q6l (btL x.tx) (q0z ws[q]))):=fun h=>k2z h
        clear HOY HAD hT hrow hxx;have hxs9:x.tx.size<=4000000000:=by omega
        by_cases hx9:btL x.tx=[]
        ·have hxi:¬(0:Int)<(x.tx.size:Int):=by rw[<-hx0z,hx9];simp
         have HE:=(show Hid (_=_)from HN.o fun h=>h.2 hx9);clear HY HN hx9 hT0 hx0z;generalize wbS (q6l (btL x.tx) (q0z ws[q]))=RR at HE HEND;generalize wbS (q0z ws[q])=TX at *;have HP9:=(show Hid (_)from HEND.o _ HE.o);clear HEND;go_wp2
         go_roundw
         case rel=>exact⟨q+1,false,_,some ⟨go,0,none⟩,c',by rw[HP9.o.2,hal],by rw[HP9.o.2];exact HP9.o.1⟩
         case measure=>rw[HP9.o.1.rd.at_eq,HP9.o.1.rd.nb_eq,HV.o.rd.at_eq,HV.o.rd.nb_eq];simp;omega
        ·have hxi:(0:Int)<(x.tx.size:Int):=by
          have:=List.length_pos_iff.2 hx9
          omega
         by_cases ht9:q0z ws[q]=[]
         ·have hti:=k5d ht9;have HE:=(show Hid (_=_)from HN.o fun h=>h.1 ht9);clear HY HN hx9 hT0 hx0z ht9;generalize wbS (q6l (btL x.tx) (q0z ws[q]))=RR at HE HEND;generalize wbS (q0z ws[q])=TX at *;have HP9:=(show Hid (_)from HEND.o _ HE.o);clear HEND;go_wp2
          go_roundw
          case rel=>exact⟨q+1,false,_,some ⟨go,0,none⟩,c',by rw[HP9.o.2,hal],by rw[HP9.o.2];exact HP9.o.1⟩
          case measure=>rw[HP9.o.1.rd.at_eq,HP9.o.1.rd.nb_eq,HV.o.rd.at_eq,HV.o.rd.nb_eq];simp;omega
         ·have hti:=j9p ht9;have HE:=(show Hid (_=_)from HY.o ⟨ht9,hx9⟩);clear HY HN hx9 hT0 hx0z ht9;generalize wbS (q6l (btL x.tx) (q0z ws[q]))=RR at HE HEND;generalize wbS (q0z ws[q])=TX at *;have HP9:=(show Hid (_)from HEND.o _ HE.o);clear HEND;go_wp2
          go_roundw
          case rel=>exact⟨q+1,false,_,some ⟨go,0,none⟩,c',by rw[HP9.o.2,hal],by rw[HP9.o.2];exact HP9.o.1⟩
          case measure=>rw[HP9.o.1.rd.at_eq,HP9.o.1.rd.nb_eq,HV.o.rd.at_eq,HV.o.rd.nb_eq];simp;omega
    ·have hx35:¬X[0]=35:=fun e=>h35 ((hx1 hx0).symm.trans e)
     have hx35b:¬X[0].toNat=35:=fun e=>hx35 (UInt8.toNat_inj.1 e)
     have hx35c:¬(X[0].toNat:Int)=35:=by omega
     have H35:Hid (¬ws[q].headD 0=35):=h35;have HDR:Hid (ws.drop q=ws[q]::ws.drop (q+1)):=List.drop_eq_getElem_cons hqlt
     have HIS:Hid (Calls prog 34 #[.pointer (some ⟨b,0,none⟩),.string ⟨#[108,101,116]⟩] (wr.alloc (.cells #[.int .i64 8,.string ⟨#[]⟩,.int .i64 0] 47)) fun e w'=>e=.returned (.bool (!false&&(ws[q]?==some z1w)))/\Rd w' b (some ⟨ba,oa,none⟩) ac ws q false/\But wr b wr w'/\q0x wr (.slice (some ⟨wr.heap.size,0,none⟩) 1 1) [doT] w'/\wr.heap.size<w'.heap.size):=by
      have h1:Below wr wr (wr.alloc (.cells #[.int .i64 8,.string ⟨#[]⟩,.int .i64 0] 47)):= Zb.alloc Zl _;refine(q9p (HV.o.rd.keep h1) z1w).mono ?_;rintro e w'⟨rfl,q',rfl⟩;have h2:Below (wr.alloc (.cells #[.int .i64 8,.string ⟨#[]⟩,.int .i64 0] 47)).heap.size (wr.alloc (.cells #[.int .i64 8,.string ⟨#[]⟩,.int .i64 0] 47)) ((wr.alloc (.cells #[.int .i64 8,.string ⟨#[]⟩,.int .i64 0] 47)).drewN q'):=q0f Zb q';refine⟨rfl,(HV.o.rd.keep h1).keep h2,But.of (h1.trans (h2.mono (by rw[World.size_alloc];omega))),(q0x.one wr doT).kept fun g _ h3=>h2.block g h3,?_⟩;show wr.heap.size<(wr.alloc _).heap.size;rw[World.size_alloc];omega
     clear hX hx1 h35 hne htq hwq;cases hlt:(!false&&(ws[q]?==some z1w))with
     | false=>
      rw[hlt]at HIS
      have hnl:ws[q]≠z1w:=fun e=>by
       rw[List.getElem?_eq_getElem hqlt,e]at hlt;exact absurd hlt (by decide)
      have HPS:Hid (∀{w3 w4 w7:World}{r:Rs}{ns:List Td}{v4 v7:Value},Got b (some ⟨ba,oa,none⟩) ac ws (.level 0) q w3 r ns v4 w4->Rd w7 b (some ⟨ba,oa,none⟩) ac ws (q1k ws (ws.length-r.rest.length) r.isBad [59]) (q0s ws (ws.length-r.rest.length) r.isBad [59])->q3o (b+1) v7 (acc++[doT::ns]) w7->But W2 b W2 w7->_):=fun h1 h2 h3 h4=>v7r HV.o Zl hqle (by decide) h1
       (fun u h=>by rw[HDR.o]at h⊢;exact .doB H35.o hnl h) (fun m ms u h h5=>by rw[HDR.o]at h⊢;exact .doX H35.o hnl h h5) (fun m ms u r h h5=>by rw[HDR.o]at h⊢;exact .doO H35.o hnl h h5) h2 h3 h4
      clear hlt hnl;go_wp2_with fail;refine HIS.o.mono ?_;rintro e w2⟨rfl,hR2,hB2,hT2,hs2⟩;have HLV:Hid (Calls prog 36 #[.pointer (some ⟨b,0,none⟩),.int .i64 0] w2 fun e w'=>∃r ns A' c',e=.returned (.slice A' ns.length c')/\Got b (some ⟨ba,oa,none⟩) ac ws (.level 0) q w2 r ns (.slice A' ns.length c') w'):=k1b hl HTK.o hqle w2 hR2;have HB2:Hid (But wr b wr w2):=hB2;have HT2:Hid (q0x wr (.slice (some ⟨wr.heap.size,0,none⟩) 1 1) [doT] w2):=hT2;clear hR2 hB2 hT2 HIS;go_wp2_with fail;refine HLV.o.mono ?_;rintro e w4⟨r4,ns4,A4,c4,rfl,hG4⟩;have HG4:Hid (Got b (some ⟨ba,oa,none⟩) ac ws (.level 0) q w2 r4 ns4 (.slice A4 ns4.length c4) w4):=hG4;have hb4:b<w4.heap.size:=hG4.rd.row.lt;have HWN:Hid (Calls prog 35 #[.pointer (some ⟨b,0,none⟩),.string ⟨#[59]⟩] w4 fun e w'=>(∃v,e=.returned v)/\Rd w' b (some ⟨ba,oa,none⟩) ac ws (q1k ws (ws.length-r4.rest.length) r4.isBad [59]) (q0s ws (ws.length-r4.rest.length) r4.isBad [59])/\But w4 b w4 w'):=q6f hG4.rd hl (by omega) [59];have hn4:=hG4.n;rw[q0j (by omega)]at hn4;have hs4:=hG4.bt.size;have HB4:Hid (But wr b wr w4):=HB2.o.trans (hG4.bt.mono (by omega));have HT4:Hid (q0x wr (.slice (some ⟨wr.heap.size,0,none⟩) 1 1) [doT] w4):=HT2.o.but hG4.bt hbs;have HO4:Hid (q0x w2 (.slice A4 ns4.length c4) ns4 w4):=hG4.o;have HN4:Hid (A4=none->ns4.length=0/\c4=0):=hG4.o.none.2;generalize hnl:ns4.length=n4 at hn4 HN4;have HNL:Hid (ns4.length=n4):=hnl;clear hG4 hnl HLV;go_wp2_with fail;refine HWN.o.mono ?_;rintro e w5⟨⟨vv,rfl⟩,hR5,hb5⟩;have hs5:=hb5.size;have HT5:Hid (q0x wr (.slice (some ⟨wr.heap.size,0,none⟩) 1 1) [doT] w5):=HT4.o.but hb5 hbs;have HD5:Hid (Tds w5 A4 ns4):=(HO4.o.but hb5 (by omega)).tds;have HB5:Hid (But wr b wr w5):=HB4.o.trans (hb5.mono (by omega));have HR5:Hid (Rd w5 b (some ⟨ba,oa,none⟩) ac ws (q1k ws (ws.length-r4.rest.length) r4.isBad [59]) (q0s ws (ws.length-r4.rest.length) r4.isBad [59])):=hR5;clear hb5 hR5 HWN HT4 HO4 HT2;go_wp2_with(at_builtin;refine q2y rfl _ _ rfl wr.heap.size _ [doT] rfl HT5.o A4 n4 ns4 HNL.o c4 rfl HD5.o HN4.o (1+n4) rfl (by omega) (by omega) ?_);intro A6 c6 w6 hown6 hgrow6;have hb56:Below wr w5 w6:= Zb.grown hgrow6 (by omega) (fun k' hk=>(World.ownsRow.lt HT5.o k' hk).1);have hs6:=hb56.size;obtain⟨g6,eg⟩:=q8e hown6;subst eg;have HB6:Hid (But wr b wr w6):=HB5.o.trans (But.of hb56)
      have hO6:q3o (b+1) (.slice A' al c') acc w6:=by
       have h8:=HV.o.o.but HB6.o (by omega);rw[HAL.o]at h8;exact h8
      have HO6:Hid (q3o (b+1) (.slice A' al c') acc w6):=hO6;obtain⟨n1,n2,n3⟩:=z4v hO6 (hown6.down (show b+1<=wr.heap.size by omega));have N1:=(show Hid (q3o (b+1) (.slice A' al c') acc (w6.alloc (.cells #[.slice (some ⟨g6,0,none⟩) (1+n4) c6] 22)))from n1);have N2:=(show Hid (q0x (b+1) (.slice (some ⟨g6,0,none⟩) (1+n4) c6) (doT::ns4) (w6.alloc (.cells #[.slice (some ⟨g6,0,none⟩) (1+n4) c6] 22)))from n2);have N3:=(show Hid ((w6.alloc (.cells #[.slice (some ⟨g6,0,none⟩) (1+n4) c6] 22)).cell? ⟨w6.heap.size,0,none⟩=some (.slice (some ⟨g6,0,none⟩) (1+n4) c6))from n3)
      have HL6:Hid ((doT::ns4).length=1+n4):=by
       show _=_;rw[List.length_cons,HNL.o];omega
      have HB56:Hid (Below wr w5 w6):=hb56;clear hown6 hgrow6 hO6 n1 n2 n3 hb56;go_wp2_with(at_builtin;refine z3l rfl _ _ rfl (b+1) _ acc rfl N1.o w6.heap.size g6 (1+n4) c6 (doT::ns4) HL6.o rfl N3.o N2.o (al+1) (by rw[HAL.o]) (by omega) (by simp only[World.size_alloc];omega) ?_);intro A9 c9 w9 hO9 hg9;have hb9:Below (b+1) w6 w9:=(Zb.alloc (by omega) _).grown hg9 (by simp only[World.size_alloc];omega) (fun k' hk=>HO6.o.own_le hk);have hb59:Below (b+1) w5 w9:=(HB56.o.mono (by omega)).trans hb9;have hbW9:But W2 b W2 w9:=(HV.o.bt.trans (HB6.o.mono hwb)).trans (But.of (hb9.mono (by rw[HS2.o];exact Nat.le_refl _)));obtain⟨hP9,hm9⟩:=HPS.o HG4.o (HR5.o.keepB hb59 (by omega)) hO9 hbW9;have hl9:=hO9.cell.1;have HP9:=(show Hid (_)from hP9);have HM9:=(show Hid (_)from hm9);have HL9:=(show Hid (_=_)from hl9);clear hO9 hg9 hb9 hb59 hbW9 hP9 hm9 hl9;go_wp2
      go_roundw
      case rel=>exact⟨_,_,_,A9,c9,by rw[<-HL9.o],by rw[<-HL9.o];exact HP9.o⟩
      case measure=>rw[HP9.o.rd.at_eq,HP9.o.rd.nb_eq,HV.o.rd.at_eq,HV.o.rd.nb_eq];exact HM9.o
     | true=>
      rw[hlt]at HIS
      have hlw:ws[q]=z1w:=by
       rw[List.getElem?_eq_getElem hqlt]at hlt;simpa using hlt
      have HDL:Hid (ws.drop q=z1w::ws.drop (q+1)):=by
       show _=_;rw[HDR.o,hlw]
      clear hlt hlw;go_wp2_with fail;refine HIS.o.mono ?_;rintro e w2⟨rfl,hR2,hB2,hT2,hs2⟩;have e1:=hR2.c1;have e2:=hR2.c2;have g1:w2.frozen? ⟨b,1,none⟩=false:=hR2.row.frozen;have g2:w2.frozen? ⟨b,2,none⟩=false:=hR2.row.frozen;have hb2:b<w2.heap.size:=hR2.row.lt
      have hbb:ba≠b:=by
       have:=hR2.lt ba oa rfl
       omega
      have hq1c:((q+1:Nat):Int)=(q:Int)+1:=by omega
      have hRA:Rd (w2.setCell ⟨b,1,none⟩ (.int .i64 ((q:Int)+1))) b (some ⟨ba,oa,none⟩) ac ws (q+1) false:=by
       have h1:=hR2.setAt (q+1);rw[hq1c]at h1;exact h1
      have hWA:But W2 b W2 (w2.setCell ⟨b,1,none⟩ (.int .i64 ((q:Int)+1))):=(HV.o.bt.trans (hB2.mono hwb)).setCell (p:=⟨b,1,none⟩) (.inl rfl) _;have HWB:Hid (But W2 b W2 ((w2.setCell ⟨b,1,none⟩ (.int .i64 ((q:Int)+1))).setCell ⟨b,2,none⟩ (.bool true))):=hWA.setCell (p:=⟨b,2,none⟩) (.inl rfl) _;have HRA:=(show Hid (Rd (w2.setCell ⟨b,1,none⟩ (.int .i64 ((q:Int)+1))) b (some ⟨ba,oa,none⟩) ac ws (q+1) false)from hRA);have HB2:Hid (But wr b wr w2):=hB2;have HR2:=(show Hid (Rd w2 b (some ⟨ba,oa,none⟩) ac ws q false)from hR2);clear hB2 hT2 HIS hRA hWA hR2;by_cases hq1:q+1<ws.length
      ·have hq1i:(q:Int)+1<(ws.length:Int):=by omega
       obtain⟨ba',oa',ea,hba',dn⟩:=HR2.o.wd (q+1) (by rw[List.length_map];exact hq1);simp only[Option.some.injEq,Addr.mk.injEq,and_true]at ea;obtain⟨rfl,rfl⟩:=ea;rw[List.getElem_map]at dn;have HDN:Hid (ws.drop (q+1)=ws[q+1]::ws.drop (q+2)):=List.drop_eq_getElem_cons hq1;have HIN:Hid (∀w',Calls prog 23 #[.string (wbS ws[q+1])] w' fun e w''=>e=.returned (.bool (nmW ws[q+1]))/\w'=w''):=fun w'=>q1f _ w'
       cases hnm:nmW ws[q+1]with
       | false=>
        rw[hnm]at HIN;have HPG:Hid (PG false [] ws (.bad (ws.drop (q+1)))):=HV.o.ok rfl _ (by rw[HDL.o];exact .letN (fun w h=>by rw[HDN.o]at h;cases h;exact hnm));clear hnm;generalize wbS ws[q+1]=X1 at dn HIN;go_wp2_with fail;refine(HIN.o _).mono ?_;rintro e w3⟨rfl,rfl⟩;have hPR:=HBAD.o (q+1) (by omega) HPG.o;have HPR:=(show Hid (_)from hPR);clear hPR;obtain⟨bp,op,rfl,hcp⟩:=HINT.o _ HWB.o (q+1) hq1
        generalize(((pl[q+1]?).getD s.size:Nat):Int)=K at HPR hcp
        go_wp2_with fail
        go_quiet (fail)
        go_wp2;refine bodyPost_ret (v:=.tuple #[.slice none 0 0,.int .i64 K,.int .i64 5]) (by simp[results,Tryz.results11,go_sem]) rfl ?_;exact q4s HPR.o (q0f (HBW.o _ HWB.o) _)
       | true=>
        rw[hnm]at HIN;have hnm8:(wbS ws[q+1]).size<=8:=j6b hnm;generalize hX1:wbS ws[q+1]=X1 at dn HIN hnm8
        have HLT:Hid (j0z ws[q+1]=⟨7,X1,0⟩):=by
         show _=_;rw[<-hX1];rfl
        have HNM:Hid (nmW ws[q+1]=true):=hnm;clear hnm hX1;go_wp2_with fail;refine(HIN.o _).mono ?_;rintro e w3⟨rfl,rfl⟩;go_wp2_with fail
        have HWE:Hid (Calls prog 35 #[.pointer (some ⟨b,0,none⟩),.string ⟨#[61]⟩] (((w2.setCell ⟨b,1,none⟩ (.int .i64 ((q:Int)+1))).setCell ⟨b,1,none⟩ (.int .i64 ((q:Int)+1+1))).alloc (.cells #[.int .i64 7,.string X1,.int .i64 0] 47)) fun e w'=>(∃v,e=.returned v)/\Rd w' b (some ⟨ba,oa,none⟩) ac ws (q1k ws (q+2) false [61]) (q0s ws (q+2) false [61])/\But wr b wr w'/\q0x wr (.slice (some ⟨w2.heap.size,0,none⟩) 1 1) [⟨7,X1,0⟩] w'/\wr.heap.size<w'.heap.size):=by
         have h1:=HRA.o.setAt (q+2);rw[show((q+2:Nat):Int)=(q:Int)+1+1 by omega]at h1;have h4':But wr b wr ((w2.setCell ⟨b,1,none⟩ (.int .i64 ((q:Int)+1))).setCell ⟨b,1,none⟩ (.int .i64 ((q:Int)+1+1))):=(HB2.o.setCell (p:=⟨b,1,none⟩) (.inl rfl) _).setCell (p:=⟨b,1,none⟩) (.inl rfl) _;have hsz:((w2.setCell ⟨b,1,none⟩ (.int .i64 ((q:Int)+1))).setCell ⟨b,1,none⟩ (.int .i64 ((q:Int)+1+1))).heap.size=w2.heap.size:=by rw[World.size_setCell,World.size_setCell]
         generalize(w2.setCell ⟨b,1,none⟩ (.int .i64 ((q:Int)+1))).setCell ⟨b,1,none⟩ (.int .i64 ((q:Int)+1+1))=S at h1 h4' hsz⊢
         have h3:=h1.keep (Zb.alloc Zl (.cells #[.int .i64 7,.string X1,.int .i64 0] 47));have h4:But wr b wr (S.alloc (.cells #[.int .i64 7,.string X1,.int .i64 0] 47)):=h4'.alloc (by omega) _;have h5:=q0x.one S ⟨7,X1,0⟩;rw[hsz]at h5;refine(q6f h3 hl (by omega) [61]).mono ?_;rintro e w'⟨hv,hR,hB⟩;have hs9:=hB.size;rw[World.size_alloc]at hs9;exact⟨hv,hR,h4.trans (hB.mono (by rw[World.size_alloc];omega)),(h5.but hB hb2).down (by omega),by omega⟩
        have HV2:=(show Hid (PAt b (some ⟨ba,oa,none⟩) ac ws W2 q false acc (.slice A' acc.length c') wr)from HV.o);refine HWE.o.mono ?_;rintro e w6⟨⟨vv6,rfl⟩,hR6,hB6,hT6,hs6⟩;clear e1 e2 g1 g2 hb2 hbb dn HRA HWB HB2 HR2 HIN HWE hs2;have hs2:=hs6;have HB2:Hid (But wr b wr w6):=hB6;have HT2:Hid (q0x wr (.slice (some ⟨w2.heap.size,0,none⟩) 1 1) [⟨7,X1,0⟩] w6):=hT6;clear hB6 hT6 hs6;generalize w2.heap.size=gx at HT2⊢;by_cases h61:ws[q+2]?=some ([61]:Wd)
        ·obtain⟨a1,a2⟩:=k7w h61;rw[a1,a2]at hR6;obtain⟨hq3,h62⟩:=List.getElem?_eq_some_iff.1 h61
         have HD3:Hid (ws.drop q=z1w::ws[q+1]::[61]::ws.drop (q+3)):=by
          show _=_;rw[HDL.o,HDN.o,List.drop_eq_getElem_cons hq3,h62]
         have HPS:Hid (∀{w3 w4 w7:World}{r:Rs}{ns:List Td}{v4 v7:Value},Got b (some ⟨ba,oa,none⟩) ac ws (.level 0) (q+3) w3 r ns v4 w4->Rd w7 b (some ⟨ba,oa,none⟩) ac ws (q1k ws (ws.length-r.rest.length) r.isBad [59]) (q0s ws (ws.length-r.rest.length) r.isBad [59])->q3o (b+1) v7 (acc++[⟨7,X1,0⟩::ns]) w7->But W2 b W2 w7->_):=fun h1 h2 h3 h4=>v7r HV.o (show q<=q+3 by omega) (show q+3<=ws.length by omega) hnm8 h1
          (fun u h=>by rw[HD3.o];exact .letB HNM.o h) (fun m ms u h h5=>by rw[HD3.o];exact .letX HNM.o h h5) (fun m ms u r h h5=>by rw[HD3.o];exact .letO HNM.o h (by rw[HLT.o];exact h5)) h2 h3 h4
         have HLV:Hid (Calls prog 36 #[.pointer (some ⟨b,0,none⟩),.int .i64 0] w6 fun e w'=>∃r ns A' c',e=.returned (.slice A' ns.length c')/\Got b (some ⟨ba,oa,none⟩) ac ws (.level 0) (q+3) w6 r ns (.slice A' ns.length c') w'):=k1b hl HTK.o (by omega) w6 hR6;clear hR6 a1 a2 h61 h62 HDL HDN HD3;go_wp2_with fail;refine HLV.o.mono ?_;rintro e w4⟨r4,ns4,A4,c4,rfl,hG4⟩;have HG4:Hid (Got b (some ⟨ba,oa,none⟩) ac ws (.level 0) (q+3) w6 r4 ns4 (.slice A4 ns4.length c4) w4):=hG4;have hb4:b<w4.heap.size:=hG4.rd.row.lt;have HWN:Hid (Calls prog 35 #[.pointer (some ⟨b,0,none⟩),.string ⟨#[59]⟩] w4 fun e w'=>(∃v,e=.returned v)/\Rd w' b (some ⟨ba,oa,none⟩) ac ws (q1k ws (ws.length-r4.rest.length) r4.isBad [59]) (q0s ws (ws.length-r4.rest.length) r4.isBad [59])/\But w4 b w4 w'):=q6f hG4.rd hl (by omega) [59];have hn4:=hG4.n;rw[q0j (by omega)]at hn4;have hs4:=hG4.bt.size;have HB4:Hid (But wr b wr w4):=HB2.o.trans (hG4.bt.mono (by omega));have HT4:Hid (q0x wr (.slice (some ⟨gx,0,none⟩) 1 1) [(⟨7,X1,0⟩:Td)] w4):=HT2.o.but hG4.bt hbs;have HO4:Hid (q0x w6 (.slice A4 ns4.length c4) ns4 w4):=hG4.o;have HN4:Hid (A4=none->ns4.length=0/\c4=0):=hG4.o.none.2;generalize hnl:ns4.length=n4 at hn4 HN4;have HNL:Hid (ns4.length=n4):=hnl;clear hG4 hnl HLV;go_wp2_with fail;refine HWN.o.mono ?_;rintro e w5⟨⟨vv,rfl⟩,hR5,hb5⟩;have hs5:=hb5.size;have HT5:Hid (q0x wr (.slice (some ⟨gx,0,none⟩) 1 1) [(⟨7,X1,0⟩:Td)] w5):=HT4.o.but hb5 hbs;have HD5:Hid (Tds w5 A4 ns4):=(HO4.o.but hb5 (by omega)).tds;have HB5:Hid (But wr b wr w5):=HB4.o.trans (hb5.mono (by omega));have HR5:Hid (Rd w5 b (some ⟨ba,oa,none⟩) ac ws (q1k ws (ws.length-r4.rest.length) r4.isBad [59]) (q0s ws (ws.length-r4.rest.length) r4.isBad [59])):=hR5;clear hb5 hR5 HWN HT4 HO4 HT2;go_wp2_with(at_builtin;refine q2y rfl _ _ rfl wr.heap.size _ [(⟨7,X1,0⟩:Td)] rfl HT5.o A4 n4 ns4 HNL.o c4 rfl HD5.o HN4.o (1+n4) rfl (by omega) (by omega) ?_);intro A6 c6 w6 hown6 hgrow6;have hb56:Below wr w5 w6:= Zb.grown hgrow6 (by omega) (fun k' hk=>(World.ownsRow.lt HT5.o k' hk).1);have hs6:=hb56.size;obtain⟨g6,eg⟩:=q8e hown6;subst eg;have HB6:Hid (But wr b wr w6):=HB5.o.trans (But.of hb56)
         have hO6:q3o (b+1) (.slice A' al c') acc w6:=by
          have h8:=HV.o.o.but HB6.o (by omega);rw[HAL.o]at h8;exact h8
         have HO6:Hid (q3o (b+1) (.slice A' al c') acc w6):=hO6;obtain⟨n1,n2,n3⟩:=z4v hO6 (hown6.down (show b+1<=wr.heap.size by omega));have N1:=(show Hid (q3o (b+1) (.slice A' al c') acc (w6.alloc (.cells #[.slice (some ⟨g6,0,none⟩) (1+n4) c6] 22)))from n1);have N2:=(show Hid (q0x (b+1) (.slice (some ⟨g6,0,none⟩) (1+n4) c6) ((⟨7,X1,0⟩:Td)::ns4) (w6.alloc (.cells #[.slice (some ⟨g6,0,none⟩) (1+n4) c6] 22)))from n2);have N3:=(show Hid ((w6.alloc (.cells #[.slice (some ⟨g6,0,none⟩) (1+n4) c6] 22)).cell? ⟨w6.heap.size,0,none⟩=some (.slice (some ⟨g6,0,none⟩) (1+n4) c6))from n3)
         have HL6:Hid (((⟨7,X1,0⟩:Td)::ns4).length=1+n4):=by
          show _=_;rw[List.length_cons,HNL.o];omega
         have HB56:Hid (Below wr w5 w6):=hb56;clear hown6 hgrow6 hO6 n1 n2 n3 hb56;go_wp2_with(at_builtin;refine z3l rfl _ _ rfl (b+1) _ acc rfl N1.o w6.heap.size g6 (1+n4) c6 ((⟨7,X1,0⟩:Td)::ns4) HL6.o rfl N3.o N2.o (al+1) (by rw[HAL.o]) (by omega) (by simp only[World.size_alloc];omega) ?_);intro A9 c9 w9 hO9 hg9;have hb9:Below (b+1) w6 w9:=(Zb.alloc (by omega) _).grown hg9 (by simp only[World.size_alloc];omega) (fun k' hk=>HO6.o.own_le hk);have hb59:Below (b+1) w5 w9:=(HB56.o.mono (by omega)).trans hb9;have hbW9:But W2 b W2 w9:=(HV.o.bt.trans (HB6.o.mono hwb)).trans (But.of (hb9.mono (by rw[HS2.o];exact Nat.le_refl _)));obtain⟨hP9,hm9⟩:=HPS.o HG4.o (HR5.o.keepB hb59 (by omega)) hO9 hbW9;have hl9:=hO9.cell.1;have HP9:=(show Hid (_)from hP9);have HM9:=(show Hid (_)from hm9);have HL9:=(show Hid (_=_)from hl9);clear hO9 hg9 hb9 hb59 hbW9 hP9 hm9 hl9;go_wp2
         go_roundw
         case rel=>exact⟨_,_,_,A9,c9,by rw[<-HL9.o],by rw[<-HL9.o];exact HP9.o⟩
         case measure=>rw[HP9.o.rd.at_eq,HP9.o.rd.nb_eq,HV.o.rd.at_eq,HV.o.rd.nb_eq];exact HM9.o
        ·obtain⟨a1,a2⟩:=j9o h61;rw[a1,a2]at hR6
         have HPG:Hid (PG (q6c ws q) acc (ws.drop q) (.bad (ws.drop (q+2)))):=by
          show PG _ _ _ _;rw[HDL.o,HDN.o];exact .letE HNM.o (by rw[q4d];exact h61)
         have HPS:Hid (∀{w3 w4 w7:World}{r:Rs}{ns:List Td}{v4 v7:Value},y6q b (some ⟨ba,oa,none⟩) ac ws (q+2) w3 r ns v4 w4->Rd w7 b (some ⟨ba,oa,none⟩) ac ws (q1k ws (ws.length-r.rest.length) r.isBad [59]) (q0s ws (ws.length-r.rest.length) r.isBad [59])->q3o (b+1) v7 (acc++[⟨7,X1,0⟩::ns]) w7->But W2 b W2 w7->_):=fun h1 h2 h3 h4=>y4x HV.o (show q<q+2 by omega) (show q+2<=ws.length by omega) h1 HPG.o h2 h3 h4
         have HLV:Hid (Calls prog 36 #[.pointer (some ⟨b,0,none⟩),.int .i64 0] w6 fun e w'=>∃r ns A' c',e=.returned (.slice A' ns.length c')/\y6q b (some ⟨ba,oa,none⟩) ac ws (q+2) w6 r ns (.slice A' ns.length c') w'):=by
          refine(z6t hR6).mono ?_;rintro e w'⟨rfl,hR,hB⟩;refine⟨.bad (ws.drop (q+2)),[],none,0,rfl,⟨q0x.nil _ _,?_,?_,hB,rfl,rfl⟩⟩
          ·show 0+(ws.drop (q+2)).length<=_;omega
          ·show Rd w' b _ ac ws (ws.length-(ws.drop (q+2)).length) true;rw[q0j (by omega),show ws.length-(ws.length-(q+2))=q+2 by omega];exact hR
         clear hR6 a1 a2 h61 HDL HDN HPG;go_wp2_with fail;refine HLV.o.mono ?_;rintro e w4⟨r4,ns4,A4,c4,rfl,hG4⟩;have HG4:Hid (y6q b (some ⟨ba,oa,none⟩) ac ws (q+2) w6 r4 ns4 (.slice A4 ns4.length c4) w4):=hG4;have hb4:b<w4.heap.size:=hG4.rd.row.lt;have HWN:Hid (Calls prog 35 #[.pointer (some ⟨b,0,none⟩),.string ⟨#[59]⟩] w4 fun e w'=>(∃v,e=.returned v)/\Rd w' b (some ⟨ba,oa,none⟩) ac ws (q1k ws (ws.length-r4.rest.length) r4.isBad [59]) (q0s ws (ws.length-r4.rest.length) r4.isBad [59])/\But w4 b w4 w'):=q6f hG4.rd hl (by omega) [59];have hn4:=hG4.n;rw[q0j (by omega)]at hn4;have hs4:=hG4.bt.size;have HB4:Hid (But wr b wr w4):=HB2.o.trans (hG4.bt.mono (by omega));have HT4:Hid (q0x wr (.slice (some ⟨gx,0,none⟩) 1 1) [(⟨7,X1,0⟩:Td)] w4):=HT2.o.but hG4.bt hbs;have HO4:Hid (q0x w6 (.slice A4 ns4.length c4) ns4 w4):=hG4.o;have HN4:Hid (A4=none->ns4.length=0/\c4=0):=hG4.o.none.2;generalize hnl:ns4.length=n4 at hn4 HN4;have HNL:Hid (ns4.length=n4):=hnl;clear hG4 hnl HLV;go_wp2_with fail;refine HWN.o.mono ?_;rintro e w5⟨⟨vv,rfl⟩,hR5,hb5⟩;have hs5:=hb5.size;have HT5:Hid (q0x wr (.slice (some ⟨gx,0,none⟩) 1 1) [(⟨7,X1,0⟩:Td)] w5):=HT4.o.but hb5 hbs;have HD5:Hid (Tds w5 A4 ns4):=(HO4.o.but hb5 (by omega)).tds;have HB5:Hid (But wr b wr w5):=HB4.o.trans (hb5.mono (by omega));have HR5:Hid (Rd w5 b (some ⟨ba,oa,none⟩) ac ws (q1k ws (ws.length-r4.rest.length) r4.isBad [59]) (q0s ws (ws.length-r4.rest.length) r4.isBad [59])):=hR5;clear hb5 hR5 HWN HT4 HO4 HT2;go_wp2_with(at_builtin;refine q2y rfl _ _ rfl wr.heap.size _ [(⟨7,X1,0⟩:Td)] rfl HT5.o A4 n4 ns4 HNL.o c4 rfl HD5.o HN4.o (1+n4) rfl (by omega) (by omega) ?_);intro A6 c6 w6 hown6 hgrow6;have hb56:Below wr w5 w6:= Zb.grown hgrow6 (by omega) (fun k' hk=>(World.ownsRow.lt HT5.o k' hk).1);have hs6:=hb56.size;obtain⟨g6,eg⟩:=q8e hown6;subst eg;have HB6:Hid (But wr b wr w6):=HB5.o.trans (But.of hb56)
         have hO6:q3o (b+1) (.slice A' al c') acc w6:=by
          have h8:=HV.o.o.but HB6.o (by omega);rw[HAL.o]at h8;exact h8
         have HO6:Hid (q3o (b+1) (.slice A' al c') acc w6):=hO6;obtain⟨n1,n2,n3⟩:=z4v hO6 (hown6.down (show b+1<=wr.heap.size by omega));have N1:=(show Hid (q3o (b+1) (.slice A' al c') acc (w6.alloc (.cells #[.slice (some ⟨g6,0,none⟩) (1+n4) c6] 22)))from n1);have N2:=(show Hid (q0x (b+1) (.slice (some ⟨g6,0,none⟩) (1+n4) c6) ((⟨7,X1,0⟩:Td)::ns4) (w6.alloc (.cells #[.slice (some ⟨g6,0,none⟩) (1+n4) c6] 22)))from n2);have N3:=(show Hid ((w6.alloc (.cells #[.slice (some ⟨g6,0,none⟩) (1+n4) c6] 22)).cell? ⟨w6.heap.size,0,none⟩=some (.slice (some ⟨g6,0,none⟩) (1+n4) c6))from n3)
         have HL6:Hid (((⟨7,X1,0⟩:Td)::ns4).length=1+n4):=by
          show _=_;rw[List.length_cons,HNL.o];omega
         have HB56:Hid (Below wr w5 w6):=hb56;clear hown6 hgrow6 hO6 n1 n2 n3 hb56;go_wp2_with(at_builtin;refine z3l rfl _ _ rfl (b+1) _ acc rfl N1.o w6.heap.size g6 (1+n4) c6 ((⟨7,X1,0⟩:Td)::ns4) HL6.o rfl N3.o N2.o (al+1) (by rw[HAL.o]) (by omega) (by simp only[World.size_alloc];omega) ?_);intro A9 c9 w9 hO9 hg9;have hb9:Below (b+1) w6 w9:=(Zb.alloc (by omega) _).grown hg9 (by simp only[World.size_alloc];omega) (fun k' hk=>HO6.o.own_le hk);have hb59:Below (b+1) w5 w9:=(HB56.o.mono (by omega)).trans hb9;have hbW9:But W2 b W2 w9:=(HV.o.bt.trans (HB6.o.mono hwb)).trans (But.of (hb9.mono (by rw[HS2.o];exact Nat.le_refl _)));obtain⟨hP9,hm9⟩:=HPS.o HG4.o (HR5.o.keepB hb59 (by omega)) hO9 hbW9;have hl9:=hO9.cell.1;have HP9:=(show Hid (_)from hP9);have HM9:=(show Hid (_)from hm9);have HL9:=(show Hid (_=_)from hl9);clear hO9 hg9 hb9 hb59 hbW9 hP9 hm9 hl9;go_wp2
         go_roundw
         case rel=>exact⟨_,_,_,A9,c9,by rw[<-HL9.o],by rw[<-HL9.o];exact HP9.o⟩
         case measure=>rw[HP9.o.rd.at_eq,HP9.o.rd.nb_eq,HV.o.rd.at_eq,HV.o.rd.nb_eq];exact HM9.o
      ·have hq1i:¬(q:Int)+1<(ws.length:Int):=by omega
       have HPG:Hid (PG false [] ws (.bad (ws.drop (q+1)))):=HV.o.ok rfl _ (by rw[HDL.o];exact .letN (fun w h=>by rw[List.drop_eq_nil_of_le (by omega)]at h;cases h));have hPR:=HBAD.o (q+1) (by omega) HPG.o;have HPR:=(show Hid (_)from hPR);clear hPR;have hnone:pl[q+1]?=none:=HNON.o (q+1) (by omega);rw[hnone]at HPR;go_wp2;refine bodyPost_ret (v:=.tuple #[.slice none 0 0,.int .i64 (s.size:Int),.int .i64 5]) (by simp[results,Tryz.results11,go_sem]) rfl ?_;exact q4s HPR.o (HBW.o _ HWB.o)
   ·have hqe:q=ws.length:=by omega
    have hqi:¬(q:Int)<(ws.length:Int):=by omega
    have hG:PG false [] ws (.ok acc):=HV.o.ok rfl _ (by rw[hqe,List.drop_length];exact .done);have HG:=(show Hid (_)from HOKP.o acc hG)
    have HPF:Hid (Calls prog 37 #[.slice A' al c'] wr fun e w'=>e=.returned (.tuple #[.int .i64 ((q1i acc).1:Int),.int .i64 (q1i acc).2])/\Below wr wr w'):=by
     have h1:=k2g acc A' c' wr HV.o.o.prg (fun t ht x hx=>by have:=HV.o.tx rfl t ht x hx;omega);rw[HAL.o]at h1;exact h1
    clear hG;generalize hpf:(q1i acc).2=F at HPF HG;by_cases hF:F=0
    ·subst hF;have HG2:=(show Hid (_)from HG.o.2 rfl);clear HG;go_wp2_with fail;refine HPF.o.mono ?_;rintro e w2⟨rfl,hb2⟩;have HB2:=(show Hid (_)from hb2);clear hb2;go_wp2;refine bodyPost_ret (v:=.tuple #[.slice A' al c',.int .i64 0,.int .i64 0]) (by simp[results,Tryz.results11,go_sem]) rfl ?_;have hc:=HV.o.o.cell;have hs:=HBR.o.size;exact⟨acc,0,0,A',c',by rw[HAL.o],HG2.o,HV.o.o.prg.below HB2.o,hc.2.2.1,hc.2.1,HBR.o.trans (HB2.o.mono hs)⟩
    ·have HG2:=(show Hid (_)from HG.o.1 hF);clear HG;go_wp2_with fail;refine HPF.o.mono ?_;rintro e w2⟨rfl,hb2⟩;have HB2:=(show Hid (_)from hb2);clear hb2;go_wp2;refine bodyPost_ret (v:=.tuple #[.slice none 0 0,.int .i64 0,.int .i64 F]) (by simp[results,Tryz.results11,go_sem]) rfl ?_;have hs:=HBR.o.size;exact q4s HG2.o (HBR.o.trans (HB2.o.mono hs))
end Go.Proofs.YthjapabokcajhaaGreatDoor
