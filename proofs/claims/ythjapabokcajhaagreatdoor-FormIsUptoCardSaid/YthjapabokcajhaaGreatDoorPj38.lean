/- Texts as one: RdL, RdT. -/
import Derived.Test.YthjapabokcajhaaGreatDoorPj37
open Go.Proofs.Tryz
namespace Go.Proofs.YthjapabokcajhaaGreatDoor
open Go Go.RowKit
set_option maxRecDepth 100000
set_option maxHeartbeats 8000000
theorem q0j{ws:List Wd}{p:Nat}(_h:p<=ws.length):(ws.drop p).length=ws.length-p:=List.length_drop
theorem q4d(ws:List Wd)(p:Nat):(ws.drop p).head?=ws[p]?:=List.head?_drop
theorem z4u{ws:List Wd}{p:Nat}{r:List Wd}(h:r <:+ ws.drop p):ws.drop (ws.length-r.length)=r:=by
 obtain⟨t,ht⟩:=h.trans (List.drop_suffix p ws);have hl:=congrArg List.length ht;rw[List.length_append]at hl;have e:ws.length-r.length=t.length:=by omega
 rw[e,<-ht,List.drop_left]
theorem k1d{b:Nat}{A:Option Addr}{c:Nat}{ws:List Wd}{p:Nat}(hs:v0t b A c ws p):z9z b A c ws 2 p:=by
 intro w h;have HS:=hid (hs w h);clear h hs;show Calls prog 36 #[.pointer b,.int .i64 2] w _;go_in;go_wp2_with fail;refine HS.o.mono ?_;rintro e w1⟨r,ns,A',c',rfl,hG⟩;have HG:Hid (Got b A c ws (.level 2) p w r ns (.slice A' ns.length c') w1):=⟨.lev2 hG.pr,hG.o,hG.n,hG.e,hG.rd,hG.bt⟩;have HL:Hid (∃m,ns.length=m):=⟨_,rfl⟩;generalize hm:ns.length=m;clear hG;go_wp2;go_ret;exact⟨r,ns,A',c',by rw[hm];rfl,HG.o⟩
theorem q0x.but{B b:Nat}{v:Value}{xs:List Td}{w w':World}(h:q0x B v xs w)(hb:But w b w w')(hB:b<B):q0x B v xs w':=h.kept fun g h1 h2=>hb.block g h2 (by omega)
structure y3e(b:Nat)(A:Option Addr)(c:Nat)(ws:List Wd)(k p:Nat)(w:World)(q:Nat)(bad:Bool)(acc:List Td)(v:Value)(wr:World):Prop where
 le:q<=ws.length
 lt:p<q\/bad=true
 pq:p<=q
 n:acc.length+(ws.length-q)<=ws.length-p
 o:q0x w v acc wr
 rd:Rd wr b A c ws q bad
 bt:But w b w wr
 ok:bad=false->∀r,PR (.loop k acc) (ws.drop q) r->PR (.level k) (ws.drop p) r
 bd:bad=true->PR (.level k) (ws.drop p) (.bad (ws.drop q))
theorem k6n{b:Nat}{A:Option Addr}{c:Nat}{ws:List Wd}{k p:Nat}{w:World}{r:Rs}{ns:List Td}{v:Value}{w1:World}(hk:k<2)(hp:p<=ws.length)(h:Got b A c ws (.level (k+1)) p w r ns v w1):y3e b A c ws k p w (ws.length-r.rest.length) r.isBad ns v w1:=by
 have hsf:=q5e h.pr;have h1:=z4u hsf.1
 have hl:r.rest.length<=ws.length-p:=by
  have:=h.n
  rw[q0j hp]at this;omega
 have hn:=h.n;rw[q0j hp]at hn;cases r with
 | bad u=>
  simp only[Rs.rest,Rs.isBad]at *;exact⟨by omega,.inr rfl,by omega,by omega,h.o,h.rd,h.bt,(fun e=>by cases e),(fun _=>by rw[h1];exact .levB hk h.pr)⟩
 | ok m ms u=>
  have he:=h.e m ms u rfl;subst he;have h2:=hsf.2 m ms u rfl;rw[q0j hp]at h2;simp only[Rs.rest,Rs.isBad,Job.eats]at *;exact⟨by omega,.inl (by omega),by omega,by omega,h.o,h.rd,h.bt,(fun _ r hr=>by rw[h1]at hr;exact .levO hk h.pr hr),(fun e=>by cases e)⟩
theorem j5p{b:Nat}{A:Option Addr}{c:Nat}{ws:List Wd}{k p:Nat}{w:World}{q:Nat}{acc:List Td}{v:Value}{wr w3 w4 w5:World}{r:Rs}{ns:List Td}{v4 v5:Value}(hV:y3e b A c ws k p w q false acc v wr)(hq:q<ws.length)(hd:ws.drop q=sgn k::ws.drop (q+1))
  (bt3:But w b w w3) (hs3:w.heap.size<=w3.heap.size) (hG:Got b A c ws (.level (k+1)) (q+1) w3 r ns v4 w4) (hbw:b<w.heap.size) (b5:Below w w4 w5) (ho:q0x w v5 (([sgT k]++acc)++ns) w5):
  y3e b A c ws k p w (ws.length-r.rest.length) r.isBad (sgT k::(acc++ns)) v5 w5/\q<ws.length-r.rest.length:=by
 have hsf:=q5e hG.pr;have h1:=z4u hsf.1;have hn:=hG.n;rw[q0j (by omega)]at hn;have hVn:=hV.n;have hVp:=hV.pq;have hrd:=hG.rd.keepB b5 hbw;have hbt:=(bt3.trans (hG.bt.mono hs3)).trans (But.of b5);have e1:(([sgT k]++acc)++ns)=sgT k::(acc++ns):=by simp
 rw[e1]at ho;have hal:(sgT k::(acc++ns)).length=1+acc.length+ns.length:=by simp;omega
 cases r with
 | bad u=>
  simp only[Rs.rest,Rs.isBad]at *;exact⟨⟨by omega,.inr rfl,by omega,by rw[hal];omega,ho,hrd,hbt,(fun e=>by cases e),(fun _=>by rw[h1];exact hV.ok rfl _ (by rw[hd];exact .lopB hG.pr))⟩,by omega⟩
 | ok m ms u=>
  have he:=hG.e m ms u rfl;subst he;simp only[Rs.rest,Rs.isBad]at *;exact⟨⟨by omega,.inl (by omega),by omega,by rw[hal];omega,ho,hrd,hbt,(fun _ r hr=>by rw[h1]at hr;exact hV.ok rfl _ (by rw[hd];exact .lopO hG.pr hr)),(fun e=>by cases e)⟩,by omega⟩
theorem z6u{b:Nat}{A:Option Addr}{c:Nat}{ws:List Wd}{p:Nat}(hl:ws.length<=60000)(hp:p<=ws.length)(hL:∀q,p<=q->q<=ws.length->z9z b A c ws 1 q):z9z b A c ws 0 p:=by
 intro w h;have HL:=hid hL;have HL0:=hid (hL p Zl hp w h);have hbw:=h.row.lt;clear h hL;show Calls prog 36 #[.pointer b,.int .i64 0] w _;go_in;go_wp2_with fail;refine HL0.o.mono ?_;rintro e w1⟨r,ns,A',c',rfl,hG⟩;have HLV:=(show Hid (_)from k6n (k:=0) (by omega) hp hG);generalize hm:ns.length=m;have HM:=hid hm;clear hG hm HL0;go_wp2_with fail
 go_loopw [5] (fun x wr=>∃(q:Nat)(bad:Bool)(acc:List Td)(A':Option Addr)(c':Nat),x=.slice A' acc.length c'/\y3e b A c ws 0 p w q bad acc (.slice A' acc.length c') wr) (fun _ wr=>ws.length-y2u wr b)
 case atStart=>exact⟨_,_,ns,A',c',by rw[HM.o],HLV.o⟩
 case round=>
  obtain⟨q,bad,acc,A1,c1,rfl,hV⟩:=hrel;have HV:=(show Hid (_)from hV);have d1:=hV.rd.c1;have d2:=hV.rd.c2;have hqle:=hV.le;have hn:=hV.n;have hfz:wr.frozen? (b,1)=false:=hV.rd.row.frozen;have hbs:=hV.rd.row.lt;have hwb:=hV.bt.size;generalize hal:acc.length=al at hn;have HAL:=hid hal;clear hV hal;cases bad with
  | true=>
   go_wp2;go_ret;have hV:=HV.o;have hdl:=q0j hqle;refine⟨.bad (ws.drop q),acc,A1,c1,by rw[HAL.o];rfl,hV.bd rfl,hV.o,?_,(fun _ _ _ e=>by cases e),?_,hV.bt⟩
   ·have hpq:=hV.pq;have h1:=hV.n;rw[q0j hp];simp only[Rs.rest,hdl];omega
   ·have h1:=hV.rd;have e1:ws.length-(Rs.bad (ws.drop q)).rest.length=q:=by simp only[Rs.rest,hdl];omega
    rw[e1];exact h1
  | false=>
   have HIS:Hid (∀W:World,Below wr wr W->Calls prog 34 #[.pointer b,.string ((⟨#[43,42]⟩:ByteArray).extract 0 1)] W fun e w'=>e=.returned (.bool (!false&&(ws[q]?==some [43])))/\∃q',w'=W.drewN q'):=fun W hb=>by
    have e0:(⟨#[43,42]⟩:ByteArray).extract 0 1=wbS [43]:=rfl;rw[e0];exact q9p (HV.o.rd.keep hb) [43]
   cases hmr:(!false&&(ws[q]?==some ([43]:Wd)))with
   | false=>
    rw[hmr]at HIS
    have hne:(ws.drop q).head?≠some (sgn 0):=by
     rw[q4d];intro e;rw[e]at hmr;exact absurd hmr (by decide)
    have HNE:=(show Hid (_)from hne);clear hmr hne;go_wp2_with fail;refine(HIS.o _ Zb).mono ?_;rintro e w2⟨rfl,q',rfl⟩;go_wp2;go_ret;have hV:=HV.o;have hdl:=q0j hqle;have e1:ws.length-(Rs.ok 0 acc (ws.drop q)).rest.length=q:=by simp only[Rs.rest,hdl];omega
    refine⟨.ok 0 acc (ws.drop q),acc,A1,c1,by rw[HAL.o];rfl,hV.ok rfl _ (.lopE HNE.o),hV.o,?_,(fun _ _ _ e=>by cases e;rfl),?_,hV.bt.trans (But.of (q0f (Below.refl _ wr) q'))⟩
    ·have hpq:=hV.pq;have h1:=hV.n;rw[q0j hp];simp only[Rs.rest,hdl];omega
    ·rw[e1];exact hV.rd.keep (q0f (Below.refl _ wr) q')
   | true=>
    rw[hmr]at HIS;have hq1:ws[q]?=some ([43]:Wd):=by simpa using hmr
    obtain⟨hqlt,hqe⟩:=List.getElem?_eq_some_iff.1 hq1
    have HDR:Hid (ws.drop q=sgn 0::ws.drop (q+1)):=by
     show _=_;rw[List.drop_eq_getElem_cons hqlt,hqe];rfl
    clear hmr hq1 hqe;go_wp2_with fail;refine(HIS.o _ Zb).mono ?_;rintro e w2⟨rfl,q',rfl⟩
    have HR1:Hid (Rd ((wr.drewN q').setCell ↑(b,1) ↑((q:Int)+1)) b A c ws (q+1) false):=by
     have h2:=(HV.o.rd.keep (q0f (Below.refl _ wr) q')).setAt (q+1);rw[show((q+1:Nat):Int)=(q:Int)+1 by omega]at h2;exact h2
    have HB1:Hid (But wr b wr ((wr.drewN q').setCell ⟨b,1,none⟩ (.int .i64 ((q:Int)+1)))):=(But.of (q0f (Below.refl _ wr) q')).setCell (p:=⟨b,1,none⟩) (.inl rfl) _;have hV:=HV.o
    have HX1:Hid (q0x w (.slice ↑wr.heap.size 1 1) [sgT 0] (((wr.drewN q').setCell ↑(b,1) ↑((q:Int)+1)).alloc (.cells #[.int .i64 5,.string ⟨#[]⟩,.int .i64 0] 47))):=by
     have h2:=q0x.one ((wr.drewN q').setCell ↑(b,1) ↑((q:Int)+1)) (sgT 0);have e2:((wr.drewN q').setCell ↑(b,1) ↑((q:Int)+1)).heap.size=wr.heap.size:=World.size_setCell ..;rw[e2]at h2;exact h2.down hwb
    have HT1:Hid (Tds (((wr.drewN q').setCell ↑(b,1) ↑((q:Int)+1)).alloc (.cells #[.int .i64 5,.string ⟨#[]⟩,.int .i64 0] 47)) A1 acc):=((hV.o.but HB1.o hbw).tds).alloc _
    have HN1:Hid (A1=none->al=0/\c1=0):=by
     have h3:=hV.o.none;rw[HAL.o]at h3;exact h3.2
    have HR2:Hid (∀W,Below (wr.heap.size) ((wr.drewN q').setCell ↑(b,1) ↑((q:Int)+1)) W->Rd W b A c ws (q+1) false):=fun W hW=>HR1.o.keepB hW hbs
    have HA1:Hid (Below wr ((wr.drewN q').setCell ↑(b,1) ↑((q:Int)+1)) (((wr.drewN q').setCell ↑(b,1) ↑((q:Int)+1)).alloc (.cells #[.int .i64 5,.string ⟨#[]⟩,.int .i64 0] 47))):= Zb.alloc (by rw[World.size_setCell];exact Nat.le_refl _) _
    have hsz1:(((wr.drewN q').setCell ↑(b,1) ↑((q:Int)+1)).alloc (.cells #[.int .i64 5,.string ⟨#[]⟩,.int .i64 0] 47)).heap.size=wr.heap.size+1:=by
     rw[World.size_alloc,World.size_setCell];rfl
    have HSZ1:=(show Hid (_=_)from hsz1);clear hV hsz1;go_wp2_with(at_builtin;refine q2y rfl _ _ rfl w.heap.size _ [sgT 0] rfl HX1.o A1 al acc HAL.o c1 rfl HT1.o HN1.o (1+al) rfl (by omega) (by rw[HSZ1.o];omega) ?_);intro A3 c3 w3 hown3 hgrow3;have HO3:=hid hown3
    have hrow3:∀k',(Value.slice wr.heap.size 1 1).ownBlock=some k'->wr.heap.size<=k':=fun k' hk=>by
     simp only[Value.ownBlock,Option.some.injEq]at hk;omega
    have HB3:=hid ((HB1.o.alloc (by rw[World.size_setCell];exact Nat.le_refl _) _).grown hgrow3 (by rw[HSZ1.o];omega) hrow3);have HR3:=hid (HR2.o w3 (HA1.o.grown hgrow3 (by rw[HSZ1.o];omega) hrow3));have hs3:=HB3.o.size;have HLC:=hid (HL.o (q+1) (by have:=HV.o.pq;omega) (by omega) w3 HR3.o);clear hown3 hgrow3 hrow3 HX1 HT1 HN1 HR1 HR2 HA1 HSZ1 HB1 HIS;go_wp2_with fail;refine HLC.o.mono ?_;rintro e w4⟨r4,ns4,A4,c4,rfl,hG4⟩;have HG4:=(show Hid (_)from hG4);have hn4:=hG4.n;rw[q0j (by omega)]at hn4;have HT4:=hid hG4.o.tds;have hs4:=hG4.bt.size;have HO4:=hid (HO3.o.but hG4.bt hbw);generalize hnl:ns4.length=n4 at hn4;have HNL:=hid hnl
    have HN4:Hid (A4=none->n4=0/\c4=0):=by
     have h3:=hG4.o.none;rw[hnl]at h3;exact h3.2
    have hm4:1+al+n4<=1000000:=by omega
    clear hG4 hnl hn4 HLC HO3;go_wp2_with(at_builtin;refine q2y rfl _ _ rfl w.heap.size _ ([sgT 0]++acc) rfl HO4.o A4 n4 ns4 HNL.o c4 rfl HT4.o HN4.o (1+al+n4) (by rw[List.length_append,HAL.o];rfl) hm4 (by omega) ?_);intro A5 c5 w5 hown5 hgrow5;have hb5:= Zb.grown hgrow5 (by omega) (fun k' hk=>(World.ownsRow.lt HO4.o k' hk).1);have hnx:=j5p HV.o hqlt HDR.o (HV.o.bt.trans (HB3.o.mono hwb)) (by omega) HG4.o hbw hb5 hown5;have HNX:=(show Hid (_)from hnx);clear hown5 hgrow5 hb5 hnx;go_wp2;refine⟨⟨ws.length-r4.rest.length,r4.isBad,sgT 0::(acc++ns4),A5,c5,?_,?_⟩,?_⟩
    ·have e5:(sgT 0::(acc++ns4)).length=1+al+n4:=by rw[List.length_cons,List.length_append,HAL.o,HNL.o];omega
     rw[e5]
    ·have e5:(sgT 0::(acc++ns4)).length=1+al+n4:=by rw[List.length_cons,List.length_append,HAL.o,HNL.o];omega
     rw[e5];exact HNX.o.1
    ·rw[HNX.o.1.rd.at_eq,HV.o.rd.at_eq]
     have:=HNX.o.2
     omega
theorem k1c{b:Nat}{A:Option Addr}{c:Nat}{ws:List Wd}{p:Nat}(hl:ws.length<=60000)(hp:p<=ws.length)(hL:∀q,p<=q->q<=ws.length->z9z b A c ws 2 q):z9z b A c ws 1 p:=by
 intro w h;have HL:=hid hL;have HL0:=hid (hL p Zl hp w h);have hbw:=h.row.lt;clear h hL;show Calls prog 36 #[.pointer b,.int .i64 1] w _;go_in;go_wp2_with fail;refine HL0.o.mono ?_;rintro e w1⟨r,ns,A',c',rfl,hG⟩;have HLV:=(show Hid (_)from k6n (k:=1) (by omega) hp hG);generalize hm:ns.length=m;have HM:=hid hm;clear hG hm HL0;go_wp2_with fail
 go_loopw [5] (fun x wr=>∃(q:Nat)(bad:Bool)(acc:List Td)(A':Option Addr)(c':Nat),x=.slice A' acc.length c'/\y3e b A c ws 1 p w q bad acc (.slice A' acc.length c') wr) (fun _ wr=>ws.length-y2u wr b)
 case atStart=>exact⟨_,_,ns,A',c',by rw[HM.o],HLV.o⟩
 case round=>
  obtain⟨q,bad,acc,A1,c1,rfl,hV⟩:=hrel;have HV:=(show Hid (_)from hV);have d1:=hV.rd.c1;have d2:=hV.rd.c2;have hqle:=hV.le;have hn:=hV.n;have hfz:wr.frozen? (b,1)=false:=hV.rd.row.frozen;have hbs:=hV.rd.row.lt;have hwb:=hV.bt.size;generalize hal:acc.length=al at hn;have HAL:=hid hal;clear hV hal;cases bad with
  | true=>
   go_wp2;go_ret;have hV:=HV.o;have hdl:=q0j hqle;refine⟨.bad (ws.drop q),acc,A1,c1,by rw[HAL.o];rfl,hV.bd rfl,hV.o,?_,(fun _ _ _ e=>by cases e),?_,hV.bt⟩
   ·have hpq:=hV.pq;have h1:=hV.n;rw[q0j hp];simp only[Rs.rest,hdl];omega
   ·have h1:=hV.rd;have e1:ws.length-(Rs.bad (ws.drop q)).rest.length=q:=by simp only[Rs.rest,hdl];omega
    rw[e1];exact h1
  | false=>
   have HIS:Hid (∀W:World,Below wr wr W->Calls prog 34 #[.pointer b,.string ((⟨#[43,42]⟩:ByteArray).extract 1 2)] W fun e w'=>e=.returned (.bool (!false&&(ws[q]?==some [42])))/\∃q',w'=W.drewN q'):=fun W hb=>by
    have e0:(⟨#[43,42]⟩:ByteArray).extract 1 2=wbS [42]:=rfl;rw[e0];exact q9p (HV.o.rd.keep hb) [42]
   cases hmr:(!false&&(ws[q]?==some ([42]:Wd)))with
   | false=>
    rw[hmr]at HIS
    have hne:(ws.drop q).head?≠some (sgn 1):=by
     rw[q4d];intro e;rw[e]at hmr;exact absurd hmr (by decide)
    have HNE:=(show Hid (_)from hne);clear hmr hne;go_wp2_with fail;refine(HIS.o _ Zb).mono ?_;rintro e w2⟨rfl,q',rfl⟩;go_wp2;go_ret;have hV:=HV.o;have hdl:=q0j hqle;have e1:ws.length-(Rs.ok 0 acc (ws.drop q)).rest.length=q:=by simp only[Rs.rest,hdl];omega
    refine⟨.ok 0 acc (ws.drop q),acc,A1,c1,by rw[HAL.o];rfl,hV.ok rfl _ (.lopE HNE.o),hV.o,?_,(fun _ _ _ e=>by cases e;rfl),?_,hV.bt.trans (But.of (q0f (Below.refl _ wr) q'))⟩
    ·have hpq:=hV.pq;have h1:=hV.n;rw[q0j hp];simp only[Rs.rest,hdl];omega
    ·rw[e1];exact hV.rd.keep (q0f (Below.refl _ wr) q')
   | true=>
    rw[hmr]at HIS;have hq1:ws[q]?=some ([42]:Wd):=by simpa using hmr
    obtain⟨hqlt,hqe⟩:=List.getElem?_eq_some_iff.1 hq1
    have HDR:Hid (ws.drop q=sgn 1::ws.drop (q+1)):=by
     show _=_;rw[List.drop_eq_getElem_cons hqlt,hqe];rfl
    clear hmr hq1 hqe;go_wp2_with fail;refine(HIS.o _ Zb).mono ?_;rintro e w2⟨rfl,q',rfl⟩
    have HR1:Hid (Rd ((wr.drewN q').setCell ↑(b,1) ↑((q:Int)+1)) b A c ws (q+1) false):=by
     have h2:=(HV.o.rd.keep (q0f (Below.refl _ wr) q')).setAt (q+1);rw[show((q+1:Nat):Int)=(q:Int)+1 by omega]at h2;exact h2
    have HB1:Hid (But wr b wr ((wr.drewN q').setCell ⟨b,1,none⟩ (.int .i64 ((q:Int)+1)))):=(But.of (q0f (Below.refl _ wr) q')).setCell (p:=⟨b,1,none⟩) (.inl rfl) _;have hV:=HV.o
    have HX1:Hid (q0x w (.slice ↑wr.heap.size 1 1) [sgT 1] (((wr.drewN q').setCell ↑(b,1) ↑((q:Int)+1)).alloc (.cells #[.int .i64 6,.string ⟨#[]⟩,.int .i64 0] 47))):=by
     have h2:=q0x.one ((wr.drewN q').setCell ↑(b,1) ↑((q:Int)+1)) (sgT 1);have e2:((wr.drewN q').setCell ↑(b,1) ↑((q:Int)+1)).heap.size=wr.heap.size:=World.size_setCell ..;rw[e2]at h2;exact h2.down hwb
    have HT1:Hid (Tds (((wr.drewN q').setCell ↑(b,1) ↑((q:Int)+1)).alloc (.cells #[.int .i64 6,.string ⟨#[]⟩,.int .i64 0] 47)) A1 acc):=((hV.o.but HB1.o hbw).tds).alloc _
    have HN1:Hid (A1=none->al=0/\c1=0):=by
     have h3:=hV.o.none;rw[HAL.o]at h3;exact h3.2
    have HR2:Hid (∀W,Below (wr.heap.size) ((wr.drewN q').setCell ↑(b,1) ↑((q:Int)+1)) W->Rd W b A c ws (q+1) false):=fun W hW=>HR1.o.keepB hW hbs
    have HA1:Hid (Below wr ((wr.drewN q').setCell ↑(b,1) ↑((q:Int)+1)) (((wr.drewN q').setCell ↑(b,1) ↑((q:Int)+1)).alloc (.cells #[.int .i64 6,.string ⟨#[]⟩,.int .i64 0] 47))):= Zb.alloc (by rw[World.size_setCell];exact Nat.le_refl _) _
    have hsz1:(((wr.drewN q').setCell ↑(b,1) ↑((q:Int)+1)).alloc (.cells #[.int .i64 6,.string ⟨#[]⟩,.int .i64 0] 47)).heap.size=wr.heap.size+1:=by
     rw[World.size_alloc,World.size_setCell];rfl
    have HSZ1:=(show Hid (_=_)from hsz1);clear hV hsz1;go_wp2_with(at_builtin;refine q2y rfl _ _ rfl w.heap.size _ [sgT 1] rfl HX1.o A1 al acc HAL.o c1 rfl HT1.o HN1.o (1+al) rfl (by omega) (by rw[HSZ1.o];omega) ?_);intro A3 c3 w3 hown3 hgrow3;have HO3:=hid hown3
    have hrow3:∀k',(Value.slice wr.heap.size 1 1).ownBlock=some k'->wr.heap.size<=k':=fun k' hk=>by
     simp only[Value.ownBlock,Option.some.injEq]at hk;omega
    have HB3:=hid ((HB1.o.alloc (by rw[World.size_setCell];exact Nat.le_refl _) _).grown hgrow3 (by rw[HSZ1.o];omega) hrow3);have HR3:=hid (HR2.o w3 (HA1.o.grown hgrow3 (by rw[HSZ1.o];omega) hrow3));have hs3:=HB3.o.size;have HLC:=hid (HL.o (q+1) (by have:=HV.o.pq;omega) (by omega) w3 HR3.o);clear hown3 hgrow3 hrow3 HX1 HT1 HN1 HR1 HR2 HA1 HSZ1 HB1 HIS;go_wp2_with fail;refine HLC.o.mono ?_;rintro e w4⟨r4,ns4,A4,c4,rfl,hG4⟩;have HG4:=(show Hid (_)from hG4);have hn4:=hG4.n;rw[q0j (by omega)]at hn4;have HT4:=hid hG4.o.tds;have hs4:=hG4.bt.size;have HO4:=hid (HO3.o.but hG4.bt hbw);generalize hnl:ns4.length=n4 at hn4;have HNL:=hid hnl
    have HN4:Hid (A4=none->n4=0/\c4=0):=by
     have h3:=hG4.o.none;rw[hnl]at h3;exact h3.2
    have hm4:1+al+n4<=1000000:=by omega
    clear hG4 hnl hn4 HLC HO3;go_wp2_with(at_builtin;refine q2y rfl _ _ rfl w.heap.size _ ([sgT 1]++acc) rfl HO4.o A4 n4 ns4 HNL.o c4 rfl HT4.o HN4.o (1+al+n4) (by rw[List.length_append,HAL.o];rfl) hm4 (by omega) ?_);intro A5 c5 w5 hown5 hgrow5;have hb5:= Zb.grown hgrow5 (by omega) (fun k' hk=>(World.ownsRow.lt HO4.o k' hk).1);have hnx:=j5p HV.o hqlt HDR.o (HV.o.bt.trans (HB3.o.mono hwb)) (by omega) HG4.o hbw hb5 hown5;have HNX:=(show Hid (_)from hnx);clear hown5 hgrow5 hb5 hnx;go_wp2;refine⟨⟨ws.length-r4.rest.length,r4.isBad,sgT 1::(acc++ns4),A5,c5,?_,?_⟩,?_⟩
    ·have e5:(sgT 1::(acc++ns4)).length=1+al+n4:=by rw[List.length_cons,List.length_append,HAL.o,HNL.o];omega
     rw[e5]
    ·have e5:(sgT 1::(acc++ns4)).length=1+al+n4:=by rw[List.length_cons,List.length_append,HAL.o,HNL.o];omega
     rw[e5];exact HNX.o.1
    ·rw[HNX.o.1.rd.at_eq,HV.o.rd.at_eq]
     have:=HNX.o.2
     omega
def y6y(w:World)(b:Nat):Nat:=match w.cell? ⟨b,2,none⟩with
 | some (.bool true)=>0
 | _=>1
theorem Rd.nb_eq{w:World}{b:Nat}{A:Option Addr}{c:Nat}{ws:List Wd}{at_:Nat}{bad:Bool}(h:Rd w b A c ws at_ bad):y6y w b=if bad then 0 else 1:=by
 unfold y6y;rw[h.c2];cases bad<;>rfl
structure y6p(b:Nat)(A:Option Addr)(c:Nat)(ws:List Wd)(e:Wd)(p:Nat)(w:World)(r:Rs)(n:Nat)(ns:List Td)(v:Value)(w':World):Prop where
 pr:PR (.args e 0 []) (ws.drop p) r
 o:q0x w v ns w'
 nl:ns.length+r.rest.length<=(ws.drop p).length
 ev:∀m ms u,r=.ok m ms u->ms=ns/\m=n
 rd:Rd w' b A c ws (ws.length-r.rest.length) r.isBad
 bt:But w b w w'
 le:n<=60000
abbrev y6r(b:Nat)(A:Option Addr)(c:Nat)(ws:List Wd)(e:Wd)(p:Nat):Prop:=∀w:World,Rd w b A c ws p false->Calls prog 116 #[.pointer (some ⟨b,0,none⟩),.string (wbS e)] w fun ev w'=>∃r n ns A' c',ev=.returned (.tuple #[.int .i64 ((n:Nat):Int),.slice A' ns.length c'])/\y6p b A c ws e p w r n ns (.slice A' ns.length c') w'
structure y3d(b:Nat)(A:Option Addr)(c:Nat)(ws:List Wd)(e:Wd)(p:Nat)(w:World)(q:Nat)(bad:Bool)(n:Nat)(acc:List Td)(v:Value)(wr:World):Prop where
 le:q<=ws.length
 pq:p<=q
 cn:bad=false->n<=q-p
 nl:acc.length+(ws.length-q)<=ws.length-p
 o:q0x w v acc wr
 rd:Rd wr b A c ws q bad
 bt:But w b w wr
 ok:bad=false->∀r,PR (.args e n acc) (ws.drop q) r->PR (.args e 0 []) (ws.drop p) r
 bd:bad=true->PR (.args e 0 []) (ws.drop p) (.bad (ws.drop q))
theorem j5m{b:Nat}{A:Option Addr}{c:Nat}{ws:List Wd}{e:Wd}{p:Nat}{w:World}{q q':Nat}{n:Nat}{acc:List Td}{v:Value}{wr w3 w4 w5:World}{r:Rs}{ns:List Td}{v4 v5:Value}(hV:y3d b A c ws e p w q false n acc v wr)(hq:q'<=ws.length)(hqq:q<=q')
  (hB:∀u,PR (.level 0) (ws.drop q') (.bad u)->PR (.args e n acc) (ws.drop q) (.bad u)) (hO:∀m ms u r,PR (.level 0) (ws.drop q') (.ok m ms u)->PR (.args e (n+1) (acc++ms)) u r->PR (.args e n acc) (ws.drop q) r)
  (bt3:But w b w w3) (hs3:w.heap.size<=w3.heap.size) (hG:Got b A c ws (.level 0) q' w3 r ns v4 w4) (hbw:b<w.heap.size) (b5:Below w w4 w5) (ho:q0x w v5 (acc++ns) w5):
  y3d b A c ws e p w (ws.length-r.rest.length) r.isBad (n+1) (acc++ns) v5 w5/\2*(ws.length-(ws.length-r.rest.length))+(if r.isBad then 0 else 1)<2*(ws.length-q)+1:=by
 have hsf:=q5e hG.pr;have h1:=z4u hsf.1;have hn:=hG.n;rw[q0j hq]at hn;have hVn:=hV.nl;have hVp:=hV.pq;have hVc:=hV.cn rfl;have hrd:=hG.rd.keepB b5 hbw;have hbt:=(bt3.trans (hG.bt.mono hs3)).trans (But.of b5);have hal:(acc++ns).length=acc.length+ns.length:=List.length_append;cases r with
 | bad u=>
  simp only[Rs.rest,Rs.isBad]at *;exact⟨⟨by omega,by omega,(fun e=>by cases e),by rw[hal];omega,ho,hrd,hbt,(fun e=>by cases e),(fun _=>by rw[h1];exact hV.ok rfl _ (hB _ hG.pr))⟩,by simp only[if_true];omega⟩
 | ok m ms u=>
  have he:=hG.e m ms u rfl;subst he;have h2:=hsf.2 m ms u rfl;rw[q0j hq]at h2;simp only[Rs.rest,Rs.isBad,Job.eats]at *;exact⟨⟨by omega,by omega,(fun _=>by omega),by rw[hal];omega,ho,hrd,hbt,(fun _ r hr=>by rw[h1]at hr;exact hV.ok rfl _ (hO _ _ _ _ hG.pr hr)),(fun e=>by cases e)⟩,by simp only[Bool.false_eq_true,if_false];omega⟩
theorem k1k{b:Nat}{A:Option Addr}{c:Nat}{ws:List Wd}{e:Wd}{p:Nat}(he:e≠[44])(hl:ws.length<=60000)(hp:p<=ws.length)(hL:∀q,p<=q->q<=ws.length->z9z b A c ws 0 q):y6r b A c ws e p:=by
 intro w h;have HL:=hid hL;have HE:=hid he;have hbw:=h.row.lt;have HST:Hid (y3d b A c ws e p w p false 0 [] (.slice none 0 0) w):=⟨hp,Nat.le_refl _,fun _=>Nat.zero_le _,by simp,q0x.nil _ _,h,But.refl _ _ _,fun _ r hr=>hr,fun e=>by cases e⟩;clear h hL he;generalize hS:wbS e=S;have HS:=hid hS;clear hS;go_in;go_wp2_with fail
 go_loopw [6,7] (fun x n wr=>∃(q:Nat)(bad:Bool)(n':Nat)(acc:List Td)(A':Option Addr)(c':Nat),x=.slice A' acc.length c'/\n=(n':Int)/\n'<=60001/\y3d b A c ws e p w q bad n' acc (.slice A' acc.length c') wr) (fun _ _ wr=>2*(ws.length-y2u wr b)+y6y wr b)
 case atStart=>exact⟨p,false,0,[],none,0,rfl,rfl,by omega,HST.o⟩
 case round=>
  obtain⟨q,bad,n,acc,A1,c1,rfl,rfl,hn60,hV⟩:=hrel;have HV:=(show Hid (_)from hV);have d1:=hV.rd.c1;have d2:=hV.rd.c2;have hqle:=hV.le;have hpq:=hV.pq;have hn:=hV.nl;have hcn:bad=false->n<=60000:=fun e=>by have:=hV.cn e;omega
  have hfz:wr.frozen? (b,1)=false:=hV.rd.row.frozen;have hbs:=hV.rd.row.lt;have hwb:=hV.bt.size;generalize hal:acc.length=al at hn;have HAL:=hid hal;clear hV hal;cases bad with
  | true=>
   clear hcn;go_wp2;refine bodyPost_ret (v:=.tuple #[.int .i64 0,.slice none 0 0]) (by simp[results,Tryz.results116,go_sem]) rfl ?_;have hV:=HV.o;have hdl:(ws.drop q).length=ws.length-q:=q0j hqle;have e1:ws.length-(Rs.bad (ws.drop q)).rest.length=q:=by simp only[Rs.rest,hdl];omega
   refine⟨.bad (ws.drop q),0,[],none,0,rfl,hV.bd rfl,q0x.nil _ _,?_,(fun _ _ _ e=>by cases e),?_,hV.bt,by omega⟩
   ·rw[q0j hp];simp only[Rs.rest,hdl,List.length_nil];omega
   ·rw[e1];exact hV.rd
  | false=>
   have hn6:=hcn rfl;clear hcn
   have HIS:Hid (Calls prog 34 #[.pointer b,.string S] wr fun e' w'=>e'=.returned (.bool (!false&&(ws[q]?==some e)))/\∃q',w'=wr.drewN q'):=by
    have:=q9p HV.o.rd e
    rw[HS.o]at this;exact this
   cases hmr:(!false&&(ws[q]?==some e))with
   | true=>
    rw[hmr]at HIS;have hq1:ws[q]?=some e:=by simpa using hmr
    obtain⟨hqlt,hqe⟩:=List.getElem?_eq_some_iff.1 hq1
    have HDR:Hid (ws.drop q=e::ws.drop (q+1)):=by
     show _=_;rw[List.drop_eq_getElem_cons hqlt,hqe]
    clear hmr hq1 hqe;go_wp2_with fail;refine HIS.o.mono ?_;rintro e' w2⟨rfl,q',rfl⟩;go_wp2;refine bodyPost_ret (v:=.tuple #[(n:Int),.slice A1 al c1]) (by simp[results,Tryz.results116,go_sem]) rfl ?_;have hV:=HV.o;have hdl:(ws.drop (q+1)).length=ws.length-(q+1):=q0j (by omega);have e1:ws.length-(Rs.ok n acc (ws.drop (q+1))).rest.length=q+1:=by simp only[Rs.rest,hdl];omega
    have hrd:Rd ((wr.drewN q').setCell ↑(b,1) ↑((q:Int)+1)) b A c ws (q+1) false:=by
     have h2:=(hV.rd.keep (q0f (Below.refl _ wr) q')).setAt (q+1);rw[show((q+1:Nat):Int)=(q:Int)+1 by omega]at h2;exact h2
    have hbt:But wr b wr ((wr.drewN q').setCell ↑(b,1) ↑((q:Int)+1)):=(But.of (q0f (Below.refl _ wr) q')).setCell (p:=↑(b,1)) (.inl rfl) _;refine⟨.ok n acc (ws.drop (q+1)),n,acc,A1,c1,by rw[HAL.o],hV.ok rfl _ (by rw[HDR.o];exact .aEnd),hV.o.but hbt hbw,?_,(fun _ _ _ e=>by cases e;exact⟨rfl,rfl⟩),?_,hV.bt.trans (hbt.mono hwb),hn6⟩
    ·have h1:=hV.nl;rw[q0j hp];simp only[Rs.rest,hdl];omega
    ·rw[e1];exact hrd
   | false=>
    rw[hmr]at HIS
    have hne:(ws.drop q).head?≠some e:=by
     rw[q4d];intro e0;rw[e0]at hmr;simp at hmr
    have HNE:=(show Hid (_)from hne);clear hmr hne;by_cases hn0:n=0
    ·subst hn0;go_wp2_with fail;refine HIS.o.mono ?_;rintro e' w2⟨rfl,q',rfl⟩;have HLC:=hid (HL.o q hpq hqle _ (HV.o.rd.keep (q0f (Below.refl _ wr) q')));have HB2:Hid (But wr b wr (wr.drewN q')):=But.of (q0f (Below.refl _ wr) q');generalize wr.drewN q'=w2 at HLC HB2⊢;have hs2:=HB2.o.size;go_wp2_with fail;refine HLC.o.mono ?_;rintro e' w4⟨r4,ns4,A4,c4,rfl,hG4⟩;have HG4:=(show Hid (_)from hG4);have hn4:=hG4.n;rw[q0j (by omega)]at hn4;have HT4:=hid hG4.o.tds;have hs4:=hG4.bt.size
     have HO4:Hid (q0x w (.slice A1 al c1) acc w4):=by
      have h1:=HV.o.o;rw[HAL.o]at h1;exact(h1.but HB2.o hbw).but hG4.bt hbw
     generalize hnl:ns4.length=n4 at hn4;have HNL:=hid hnl
     have HN4:Hid (A4=none->n4=0/\c4=0):=by
      have h3:=hG4.o.none;rw[hnl]at h3;exact h3.2
     have hm4:al+n4<=1000000:=by omega
     clear hG4 hnl hn4 HLC;go_wp2_with(at_builtin;refine q2y rfl _ _ rfl w.heap.size _ acc rfl HO4.o A4 n4 ns4 HNL.o c4 rfl HT4.o HN4.o (al+n4) (by rw[HAL.o]) hm4 (by omega) ?_);intro A5 c5 w5 hown5 hgrow5;have hb5:= Zb.grown hgrow5 (by omega) (fun k' hk=>(World.ownsRow.lt HO4.o k' hk).1);have hnx:=j5m (q':=q) HV.o (by omega) (by omega) (fun u hu=>.aB0 HNE.o hu) (fun m ms u r h1 h2=>.aO0 HNE.o h1 h2) (HV.o.bt.trans (HB2.o.mono hwb)) (by omega) HG4.o hbw hb5 hown5;have HNX:=(show Hid (_)from hnx);have e5:(acc++ns4).length=al+n4:=by rw[List.length_append,HAL.o,HNL.o]
     have HE5:=(show Hid (_=_)from e5);clear hown5 hgrow5 hb5 hnx e5;go_wp2;refine⟨⟨ws.length-r4.rest.length,r4.isBad,1,acc++ns4,A5,c5,by rw[HE5.o],rfl,by omega,?_⟩,?_⟩
     ·rw[HE5.o];exact HNX.o.1
     ·rw[HNX.o.1.rd.at_eq,HV.o.rd.at_eq,HNX.o.1.rd.nb_eq,HV.o.rd.nb_eq];simpa using HNX.o.2
    ·obtain⟨n,rfl⟩:∃n',n=n'+1:=⟨n-1,by omega⟩;have hn0i:(0:Int)<((n+1:Nat):Int):=by omega
     have HWN:Hid (∀q',Calls prog 35 #[.pointer b,.string ⟨#[44]⟩] (wr.drewN q') fun e w'=>(∃v,e=.returned v)/\Rd w' b A c ws (q1k ws q false [44]) (q0s ws q false [44])/\But (wr.drewN q').heap.size b (wr.drewN q') w'):=fun q'=>q6f (HV.o.rd.keep (q0f (Below.refl _ wr) q')) hl hqle [44]
     cases hcm:(!false&&(ws[q]?==some ([44]:Wd)))with
     | true=>
      have hq1:ws[q]?=some ([44]:Wd):=by simpa using hcm
      obtain⟨hqlt,hqe⟩:=List.getElem?_eq_some_iff.1 hq1
      have HDR:Hid (ws.drop q=[44]::ws.drop (q+1)):=by
       show _=_;rw[List.drop_eq_getElem_cons hqlt,hqe]
      unfold q1k q0s at HWN;rw[hcm]at HWN;simp only[if_true,Bool.not_true]at HWN;clear hcm hq1 hqe;go_wp2_with fail;refine HIS.o.mono ?_;rintro e' w1⟨rfl,q',rfl⟩;go_wp2_with fail;refine(HWN.o q').mono ?_;rintro e' w2⟨⟨vv,rfl⟩,hR2,hb2⟩;have HLC:=hid (HL.o (q+1) (by omega) (by omega) _ hR2);have HB2:=hid ((But.of (q0f (Below.refl _ wr) q')).trans hb2);have hs2:=HB2.o.size;clear hR2 hb2;go_wp2_with fail;refine HLC.o.mono ?_;rintro e' w4⟨r4,ns4,A4,c4,rfl,hG4⟩;have HG4:=(show Hid (_)from hG4);have hn4:=hG4.n;rw[q0j (by omega)]at hn4;have HT4:=hid hG4.o.tds;have hs4:=hG4.bt.size
      have HO4:Hid (q0x w (.slice A1 al c1) acc w4):=by
       have h1:=HV.o.o;rw[HAL.o]at h1;exact(h1.but HB2.o hbw).but hG4.bt hbw
      generalize hnl:ns4.length=n4 at hn4;have HNL:=hid hnl
      have HN4:Hid (A4=none->n4=0/\c4=0):=by
       have h3:=hG4.o.none;rw[hnl]at h3;exact h3.2
      have hm4:al+n4<=1000000:=by omega
      clear hG4 hnl hn4 HLC;go_wp2_with(at_builtin;refine q2y rfl _ _ rfl w.heap.size _ acc rfl HO4.o A4 n4 ns4 HNL.o c4 rfl HT4.o HN4.o (al+n4) (by rw[HAL.o]) hm4 (by omega) ?_);intro A5 c5 w5 hown5 hgrow5;have hb5:= Zb.grown hgrow5 (by omega) (fun k' hk=>(World.ownsRow.lt HO4.o k' hk).1);have hnx:=j5m (q':=q+1) HV.o (by omega) (by omega) (fun u hu=>by rw[HDR.o];exact .aB HE.o hu) (fun m ms u r h1 h2=>by rw[HDR.o];exact .aO HE.o h1 h2) (HV.o.bt.trans (HB2.o.mono hwb)) (by omega) HG4.o hbw hb5 hown5;have HNX:=(show Hid (_)from hnx);have e5:(acc++ns4).length=al+n4:=by rw[List.length_append,HAL.o,HNL.o]
      have HE5:=(show Hid (_=_)from e5);clear hown5 hgrow5 hb5 hnx e5;go_wp2;refine⟨⟨ws.length-r4.rest.length,r4.isBad,n+1+1,acc++ns4,A5,c5,by rw[HE5.o],by go_num,by omega,?_⟩,?_⟩
      ·rw[HE5.o];exact HNX.o.1
      ·rw[HNX.o.1.rd.at_eq,HV.o.rd.at_eq,HNX.o.1.rd.nb_eq,HV.o.rd.nb_eq];simpa using HNX.o.2
     | false=>
      have hnc:(ws.drop q).head?≠some [44]:=by
       rw[q4d];intro e0;rw[e0]at hcm;exact absurd hcm (by decide)
      have HNC:=(show Hid (_)from hnc);unfold q1k q0s at HWN;rw[hcm]at HWN;simp only[Bool.false_eq_true,if_false,Bool.not_false]at HWN;clear hcm hnc;go_wp2_with fail;refine HIS.o.mono ?_;rintro e' w1⟨rfl,q',rfl⟩;go_wp2_with fail;refine(HWN.o q').mono ?_;rintro e' w2⟨⟨vv,rfl⟩,hR2,hb2⟩;have HLC:=hid (z6t hR2);have HB2:=hid ((But.of (q0f (Below.refl _ wr) q')).trans hb2);have hs2:=HB2.o.size;clear hR2 hb2;go_wp2_with fail;refine HLC.o.mono ?_;rintro e' w4⟨rfl,hR4,hb4⟩
      have HO4:Hid (q0x w (.slice A1 al c1) acc w4):=by
       have h1:=HV.o.o;rw[HAL.o]at h1;exact(h1.but HB2.o hbw).but hb4 hbw
      have HR4:=(show Hid (_)from hR4);have HB4:=hid ((HV.o.bt.trans (HB2.o.mono hwb)).trans (hb4.mono (by omega)));have hs4:=hb4.size;clear hR4 hb4;go_wp2_with(at_builtin;refine q2y rfl _ _ rfl w.heap.size _ acc rfl HO4.o none 0 [] rfl 0 rfl (fun i hi=>by simp at hi) (fun _=>⟨rfl,rfl⟩) al (by rw[HAL.o];rfl) (by omega) (by omega) ?_);intro A5 c5 w5 hown5 hgrow5;have hb5:= Zb.grown hgrow5 (by omega) (fun k' hk=>(World.ownsRow.lt HO4.o k' hk).1);have HNX:Hid (y3d b A c ws e p w q true (n+1+1) acc (.slice A5 al c5) w5):=⟨hqle,hpq,(fun e=>by cases e),HV.o.nl,hown5,HR4.o.keepB hb5 hbw,HB4.o.trans (But.of hb5),(fun e=>by cases e),fun _=>HV.o.ok rfl _ (.aSep HNE.o HNC.o)⟩;clear hown5 hgrow5 hb5;go_wp2;refine⟨⟨q,true,n+1+1,acc,A5,c5,by rw[HAL.o],by go_num,by omega,?_⟩,?_⟩
      ·rw[HAL.o];exact HNX.o
      ·rw[HNX.o.rd.at_eq,HV.o.rd.at_eq,HNX.o.rd.nb_eq,HV.o.rd.nb_eq];simp
end Go.Proofs.YthjapabokcajhaaGreatDoor
