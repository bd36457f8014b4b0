import Derived.Test.YthcpdohdppkmkaaGreatDoorPu28
import Derived.Lib.Atoi
import Derived.Lib.AtoiErrMem
open Go.Proofs.Tryz
namespace Go.Proofs.YthcpdohdppkmkaaGreatDoor
open Go Go.RowKit
set_option maxRecDepth 100000
set_option maxHeartbeats 16000000
theorem q0h{ws:List Wd}{p:Nat}:(ws.drop p).length=ws.length-p:=List.length_drop
theorem q2a(ws:List Wd)(p:Nat):(ws.drop p).head?=ws[p]?:=List.head?_drop
theorem q6w{ws:List Wd}{p:Nat}{r:List Wd}(h:r <:+ ws.drop p):ws.drop (ws.length-r.length)=r:=by
 obtain⟨t,ht⟩:=h.trans (List.drop_suffix p ws);have hl:=congrArg List.length ht;rw[List.length_append]at hl;have e:ws.length-r.length=t.length:=by omega
 rw[e,<-ht,List.drop_left]
structure v4s(K:LwK)(ws:List Wd)(pl:Nat->Nat)(b:Nat)(j:Job)(p:Nat)(w:World)(m:Nat)(ns:List Td)(u:List Wd)(v:Value)(w':World):Prop where
 pr:PR j (ws.drop p) (.ok m ns u)
 o:q1v w v ns w'
 n:ns.length+u.length<=(ws.drop p).length
 rd:Ry K ws pl b (ws.length-u.length) w'
 bt:But w b w w'
inductive q4i (K:LwK) (ws:List Wd) (pl:Nat->Nat) (b:Nat) (j:Job) (p:Nat) (w:World):Ending->World->Prop where
 | ok {m ns u A c w'} (h:v4s K ws pl b j p w m ns u (.slice A ns.length c) w'):q4i K ws pl b j p w (.returned (.slice A ns.length c)) w'
 | bad {u w'} (pr:PR j (ws.drop p) (.bad u)) (bt:But w b w w'):q4i K ws pl b j p w (.panicked [q4t (pl (ws.length-u.length))]) w'
abbrev j5g(K:LwK)(ws:List Wd)(pl:Nat->Nat)(b p:Nat):Prop:=∀w:World,Ry K ws pl b p w->Calls prog 153 #[.pointer (some ⟨b,0,none⟩)] w fun e w'=>q4i K ws pl b (.level 0) p w e w'
abbrev y8v(K:LwK)(ws:List Wd)(pl:Nat->Nat)(b p:Nat):Prop:=∀w:World,Ry K ws pl b p w->Calls prog 202 #[.pointer (some ⟨b,0,none⟩)] w fun e w'=>q4i K ws pl b (.level 1) p w e w'
abbrev y8u(K:LwK)(ws:List Wd)(pl:Nat->Nat)(b p:Nat):Prop:=∀w:World,Ry K ws pl b p w->Calls prog 235 #[.pointer (some ⟨b,0,none⟩)] w fun e w'=>q4i K ws pl b (.level 2) p w e w'
def j3q(w:World)(b:Nat):Nat:=match w.cell? ⟨b,0,none⟩with
 | some (.slice _ n _)=>n
 | _=>0
section
variable {K:LwK} {ws:List Wd} {pl:Nat→Nat} {b q p:Nat} {w w':World}
theorem Ry.len_eq(h:Ry K ws pl b q w):j3q w b=ws.length+1-q:=by
 unfold j3q;rw[h.c0]
theorem q1v.but2{B:Nat}{v:Value}{xs:List Td}(h:q1v B v xs w)(hb:But w b w w')(hB:b<B):q1v B v xs w':=h.kept fun g _ h2=>hb.block g h2 (by omega)
structure j2a(K:LwK)(ws:List Wd)(pl:Nat->Nat)(b k p:Nat)(w:World)(q:Nat)(acc:List Td)(v:Value)(wr:World):Prop where
 lt:p<q
 n:acc.length+(ws.length-q)<=ws.length-p
 o:q1v w v acc wr
 rd:Ry K ws pl b q wr
 bt:But w b w wr
 ok:∀r,PR (.loop k acc) (ws.drop q) r->PR (.level k) (ws.drop p) r
theorem v7w{k m:Nat}{ns:List Td}{u:List Wd}{v:Value}{w1:World}(hk:k<2)(h:v4s K ws pl b (.level (k+1)) p w m ns u v w1):j2a K ws pl b k p w (ws.length-u.length) ns v w1:=by
 have hsf:=q4z h.pr;have h1:ws.drop (ws.length-u.length)=u:=q6w hsf.1;have hn:=h.n;have h2:=hsf.2 m ns u rfl;rw[q0h]at h2 hn;simp only[Job.eats]at h2;exact⟨by omega,by omega,h.o,h.rd,h.bt,fun r hr=>by rw[h1]at hr;exact .levO hk h.pr hr⟩
theorem y6i{k q m:Nat}{acc ns:List Td}{u:List Wd}{v v4 v5:Value}{wr w3 w4 w5:World}(hV:j2a K ws pl b k p w q acc v wr)(hq:q<ws.length)(hd:ws.drop q=sgn k::ws.drop (q+1))(bt3:But w b w w3)(hs3:w.heap.size<=w3.heap.size)
  (hG:v4s K ws pl b (.level (k+1)) (q+1) w3 m ns u v4 w4) (b5:Below w4 w4 w5) (ho:q1v w v5 (sgT k::(acc++ns)) w5):
  j2a K ws pl b k p w (ws.length-u.length) (sgT k::(acc++ns)) v5 w5/\q<ws.length-u.length:=by
 have hsf:=q4z hG.pr;have h1:ws.drop (ws.length-u.length)=u:=q6w hsf.1;have hn:=hG.n;have h2:=hsf.2 m ns u rfl;rw[q0h]at hn h2;simp only[Job.eats]at h2;have hVn:=hV.n;have hVp:=hV.lt;have hal:(sgT k::(acc++ns)).length=1+acc.length+ns.length:=by simp;omega
 have hs4:=hG.bt.size;exact⟨⟨by omega,by rw[hal];omega,ho,hG.rd.keep b5,(bt3.trans (hG.bt.mono hs3)).trans (But.of (b5.mono (by omega))),fun r hr=>by rw[h1]at hr;exact hV.ok _ (by rw[hd];exact .lopO hG.pr hr)⟩,by omega⟩
end
theorem z8i(k F:Nat)(s:UInt8)(o:Int)(hk:k=0/\F=202/\s=43/\o=5\/k=1/\F=235/\s=42/\o=6){K:LwK}{ws:List Wd}{pl:Nat->Nat}{b p:Nat}(hL:∀q,p<=q->q<=ws.length->∀w:World,Ry K ws pl b q w->Calls prog F #[.pointer (some ⟨b,0,none⟩)] w fun e w'=>q4i K ws pl b (.level (k+1)) q w e w')(w:World)(h:Ry K ws pl b p w):
  Calls prog 201 #[.pointer (some ⟨b,0,none⟩),.string ⟨#[s]⟩,.int .i64 o,.func (.func F) #[.pointer (some ⟨b,0,none⟩)] #[]] w fun e w'=>q4i K ws pl b (.level k) p w e w':=by
 have tg:Tag k:=.mk;rcases hk with⟨rfl,rfl,rfl,rfl⟩|⟨rfl,rfl,rfl,rfl⟩
 all_goals
  have HL:=hid hL;have HL0:Hid (Calls prog ↑(z3n tg 202 235) #[.pointer (some ⟨b,0,none⟩)] w fun e w'=>q4i K ws pl b (.level (↑(z3n tg 0 1)+1)) p w e w'):=hL p Zl h.le w h;have hbw:b<w.heap.size:=h.row.lt;have hle:=h.le;have hfew:=h.few;clear h hL;go_in;go_wp2_with fail;refine HL0.o.mono ?_;intro e w1 hG;cases hG with
  | bad pr bt=>
   have HB:Hid (q4i K ws pl b (.level ↑(z3n tg 0 1)) p w (.panicked [q4t (pl (ws.length-_))]) w1):=.bad (.levB (by omega) pr) bt;clear pr bt;go_wp2;exact⟨rfl,HB.o⟩
  | @ok m ns u A c _ hg=>
   have HV0:Hid (j2a K ws pl b ↑(z3n tg 0 1) p w (ws.length-u.length) ns (.slice A ns.length c) w1):=v7w (by omega) hg;clear hg HL0;generalize hnl:ns.length=nl at HV0;have HNL:Hid (ns.length=nl):=hnl;clear hnl;go_wp2_with fail
   go_loopw [9] (fun x wr=>∃(q:Nat)(acc:List Td)(A':Option Addr)(n' c':Nat),x=.slice A' n' c'/\acc.length=n'/\j2a K ws pl b ↑(z3n tg 0 1) p w q acc (.slice A' n' c') wr) (fun _ wr=>j3q wr b)
   case atStart=>exact⟨_,ns,A,nl,c,rfl,HNL.o,HV0.o⟩
   case round=>
    obtain⟨q,acc,A1,n1,c1,rfl,hal,hV⟩:=hrel;have HV:=(show Hid (_)from hV);have HAL:Hid (acc.length=n1):=hal;have hqle:=hV.rd.le;have hn:=hV.n;have hwb:=hV.bt.size;rw[hal]at hn;by_cases hmr:ws[q]?=some (sgn ↑(z3n tg 0 1))
    ·obtain⟨hqlt,hqe⟩:=List.getElem?_eq_some_iff.1 hmr
     have HDR:Hid (ws.drop q=sgn ↑(z3n tg 0 1)::ws.drop (q+1)):=by
      show _=_;rw[List.drop_eq_getElem_cons hqlt,hqe]
     have HH:Hid (Calls prog 150 #[.pointer (some ⟨b,0,none⟩),.string ⟨#[↑(sel tg (43:UInt8) 42)]⟩] wr fun e w'=>e=.returned (.bool true)/\Ry K ws pl b (q+1) w'/\But wr b wr w'):=q7i hV.rd (sgn ↑(z3n tg 0 1)) hmr;clear hV hal hmr hqe;go_wp2_with fail;refine HH.o.mono ?_;rintro e w2⟨rfl,h2,b2⟩;have HB2:Hid (But wr b wr w2):=b2;have hs2:=b2.size;have hb2:b<w2.heap.size:=h2.row.lt
     have HPC:Hid (∃w3,w2.alloc (.cells #[.int .i64 ↑(sel tg (5:Int) 6),.string ⟨#[]⟩,.int .i64 0] 71)=w3/\Calls prog ↑(z3n tg 202 235) #[.pointer (some ⟨b,0,none⟩)] w3 (fun e w'=>q4i K ws pl b (.level (↑(z3n tg 0 1)+1)) (q+1) w3 e w')/\q1v w2 (.slice (some ⟨w2,0,none⟩) 1 1) [sgT ↑(z3n tg 0 1)] w3/\q1v w (.slice A1 n1 c1) acc w3/\But w b w w3/\w3.heap.size=w2.heap.size+1):=by
      refine⟨_,rfl,HL.o (q+1) (by have:=HV.o.lt;omega) (by omega) _ (h2.keep (q1t w2 _)),q1v.one w2 (sgT ↑(z3n tg 0 1)),?_,(HV.o.bt.trans (HB2.o.mono hwb)).alloc (by omega) _,World.size_alloc ..⟩;have ho:=HV.o.o.but2 HB2.o hbw;exact ho.kept fun g _ h5=>Lib.alloc_old w2 _ g h5
     clear h2 b2 HH;go_wp2_with fail;obtain⟨w3,hw3,hcal,ht0,ho1,hbt,hsz3⟩:=HPC.o;rw[hw3];have HT0:Hid (q1v w2 (.slice (some ⟨w2,0,none⟩) 1 1) [sgT ↑(z3n tg 0 1)] w3):=ht0;have HO1:Hid (q1v w (.slice A1 n1 c1) acc w3):=ho1;have HBT:Hid (But w b w w3):=hbt;clear ht0 ho1 hbt HPC hw3;refine hcal.mono ?_;clear hcal;intro e w4 hG;cases hG with
     | @bad u4 _ pr bt=>
      have HB:Hid (q4i K ws pl b (.level ↑(z3n tg 0 1)) p w (.panicked [q4t (pl (ws.length-u4.length))]) w4):=.bad (HV.o.ok _ (by rw[HDR.o];exact .lopB pr)) (HBT.o.trans (bt.mono (by omega)));clear pr bt;go_wp2;exact⟨rfl,HB.o⟩
     | @ok m4 ns4 u4 A4 c4 _ hg=>
      have HG:=(show Hid (_)from hg);have hs4:=hg.bt.size;have hn4:=hg.n;rw[q0h]at hn4;have HTW:Hid (q1v w2 (.slice (some ⟨w2,0,none⟩) 1 1) [sgT ↑(z3n tg 0 1)] w4):=HT0.o.but2 hg.bt hb2;have HO4:Hid (q1v w (.slice A1 n1 c1) acc w4):=HO1.o.but2 hg.bt hbw
      have HP5:Hid (∀W,Below w4 w4 W->W.heap[w4.heap.size]?=some (.cells #[.slice (some ⟨w2,0,none⟩) 1 1,.slice A1 n1 c1,.slice A4 ns4.length c4] 51 (0,0))->y8t W (some ⟨w4,0,none⟩) [[sgT ↑(z3n tg 0 1)],acc,ns4]):=by
       intro W hW hk;have hlt:w4.heap.size<W.heap.size:=(Array.getElem?_eq_some_iff.1 hk).1;have hcell:∀i,W.cell? ⟨w4,i,none⟩=#[Value.slice (some ⟨w2,0,none⟩) 1 1,.slice A1 n1 c1,.slice A4 ns4.length c4][i]?:=fun i=>by simp[World.cell?,hk]
       intro i hi;have h3:i=0\/i=1\/i=2:=by simp at hi;omega
       have e1:=k7b HO4.o;have e2:=k7b HG.o.o;rcases h3 with rfl|rfl|rfl
       ·exact⟨w4.heap.size,0,some ⟨w2,0,none⟩,1,rfl,hlt,hcell 0,Nat.le_refl _,HTW.o.tds.W hW,fun e=>by cases e⟩
       ·exact⟨w4.heap.size,0,A1,c1,rfl,hlt,by rw[show(([[sgT ↑(z3n tg 0 1)],acc,ns4]:List (List Td))[1]).length=n1 from HAL.o];exact hcell 1,e1.2.1,e1.2.2.W hW,fun e=>by
         have:=HO4.o.none.2 e
         exact⟨by show acc.length=0;rw[HAL.o];exact this.1,this.2⟩⟩
       ·exact⟨w4.heap.size,0,A4,c4,rfl,hlt,hcell 2,e2.2.1,e2.2.2.W hW,fun e=>HG.o.o.none.2 e⟩
      have hfl:[[sgT ↑(z3n tg 0 1)],acc,ns4].flatten=sgT ↑(z3n tg 0 1)::(acc++ns4):=by simp
      have hfn:(sgT ↑(z3n tg 0 1)::(acc++ns4)).length=1+n1+ns4.length:=by rw[List.length_cons,List.length_append,HAL.o];omega
      have HCC:Hid (∀W,Below w4 w4 W->W.heap[w4.heap.size]?=some (.cells #[.slice (some ⟨w2,0,none⟩) 1 1,.slice A1 n1 c1,.slice A4 ns4.length c4] 51 (0,0))->Calls prog 234 #[.slice (some ⟨w4,0,none⟩) 3 3] W fun e w'=>∃A c',e=.returned (.slice A (1+n1+ns4.length) c')/\j2a K ws pl b ↑(z3n tg 0 1) p w (ws.length-u4.length) (sgT ↑(z3n tg 0 1)::(acc++ns4)) (.slice A (1+n1+ns4.length) c') w'/\q<ws.length-u4.length):=by
       intro W hW hk;have h9:=k8z [[sgT ↑(z3n tg 0 1)],acc,ns4] (some ⟨w4,0,none⟩) 3 W (HP5.o W hW hk) (by rw[hfl,hfn];omega) (by rw[hfl,hfn];omega) (by simp);rw[hfl,hfn]at h9;refine h9.mono ?_;rintro e w6⟨A6,c6,rfl,ho6,hb6⟩;have hsW:=hW.size;exact⟨A6,c6,rfl,y6i HV.o hqlt HDR.o HBT.o (by omega) HG.o (hW.trans (hb6.mono hsW)) (ho6.down (by omega))⟩
      have HFN:=(show Hid (_=_)from hfn);clear hg hfl hfn hn4;generalize ns4.length=n4 at HCC HFN⊢;go_wp2_with fail;refine(HCC.o _ (q1t w4 _) (heap_alloc_new w4 _)).mono ?_;rintro e w6⟨A6,c6,rfl,h6,hq6⟩;have H6:=(show Hid (_)from And.intro h6 hq6);clear h6 hq6;go_wp2;refine⟨⟨_,_,A6,_,c6,rfl,HFN.o,H6.o.1⟩,?_⟩;rw[H6.o.1.rd.len_eq,HV.o.rd.len_eq]
      have:=H6.o.2
      omega
    ·have HNE:Hid ((ws.drop q).head?≠some (sgn ↑(z3n tg 0 1))):=by
      show _≠_;rw[q2a];exact hmr
     have HH:Hid (Calls prog 150 #[.pointer (some ⟨b,0,none⟩),.string ⟨#[↑(sel tg (43:UInt8) 42)]⟩] wr fun e w'=>e=.returned (.bool false)/\w'=wr):=q8g hV.rd (sgn ↑(z3n tg 0 1)) (by decide) hmr;clear hV hal hmr;go_wp2_with fail;refine HH.o.mono ?_;rintro e w2⟨rfl,rfl⟩;go_wp2;go_ret;have hV:=HV.o;obtain rfl:=HAL.o;have hdl:(ws.drop q).length=ws.length-q:=q0h;refine .ok (m:=0) (u:=ws.drop q) ⟨hV.ok _ (.lopE HNE.o),hV.o,?_,?_,hV.bt⟩
     ·rw[hdl,q0h];have:=hV.n;omega
     ·rw[hdl,show ws.length-(ws.length-q)=q by omega];exact hV.rd
theorem v4n{K:LwK}{ws:List Wd}{pl:Nat->Nat}{b p:Nat}(hL:∀q,p<=q->q<=ws.length->y8v K ws pl b q):j5g K ws pl b p:=by
 intro w h;have hmf:∀(fn:Fn)(first cap:Array Value)(w:World),(Instr.makeFunc fn first cap).run prog w=.ok (.func fn first cap) w:=fun _ _ _ _=>rfl
 have HC:Hid (Calls prog 201 #[.pointer (some ⟨b,0,none⟩),.string ⟨#[43]⟩,.int .i64 5,.func (.func 202) #[.pointer (some ⟨b,0,none⟩)] #[]] w fun e w'=>q4i K ws pl b (.level 0) p w e w'):=z8i 0 _ _ _ (.inl ⟨rfl,rfl,rfl,rfl⟩) hL w h;clear h hL;go_in;go_wp2_with fail;refine HC.o.mono ?_;intro e w1 hG;cases hG with
 | @bad u _ pr bt=>
  have HB:Hid (q4i K ws pl b (.level 0) p w (.panicked [q4t (pl (ws.length-u.length))]) w1):=.bad pr bt;clear pr bt;go_wp2;exact⟨rfl,HB.o⟩
 | @ok m ns u A c _ hg=>
  have HB:Hid (q4i K ws pl b (.level 0) p w (.returned (.slice A ns.length c)) w1):=.ok hg;clear hg;generalize ns.length=nl at HB⊢;go_wp2;go_ret;exact HB.o
theorem k5e{K:LwK}{ws:List Wd}{pl:Nat->Nat}{b p:Nat}(hL:∀q,p<=q->q<=ws.length->y8u K ws pl b q):y8v K ws pl b p:=by
 intro w h;have hmf:∀(fn:Fn)(first cap:Array Value)(w:World),(Instr.makeFunc fn first cap).run prog w=.ok (.func fn first cap) w:=fun _ _ _ _=>rfl
 have HC:Hid (Calls prog 201 #[.pointer (some ⟨b,0,none⟩),.string ⟨#[42]⟩,.int .i64 6,.func (.func 235) #[.pointer (some ⟨b,0,none⟩)] #[]] w fun e w'=>q4i K ws pl b (.level 1) p w e w'):=z8i 1 _ _ _ (.inr ⟨rfl,rfl,rfl,rfl⟩) hL w h;clear h hL;go_in;go_wp2_with fail;refine HC.o.mono ?_;intro e w1 hG;cases hG with
 | @bad u _ pr bt=>
  have HB:Hid (q4i K ws pl b (.level 1) p w (.panicked [q4t (pl (ws.length-u.length))]) w1):=.bad pr bt;clear pr bt;go_wp2;exact⟨rfl,HB.o⟩
 | @ok m ns u A c _ hg=>
  have HB:Hid (q4i K ws pl b (.level 1) p w (.returned (.slice A ns.length c)) w1):=.ok hg;clear hg;generalize ns.length=nl at HB⊢;go_wp2;go_ret;exact HB.o
structure g4m(K:LwK)(ws:List Wd)(pl:Nat->Nat)(b:Nat)(e:Wd)(op:Int)(tx:ByteArray)(p:Nat)(w:World)(n:Nat)(ns:List Td)(u:List Wd)(v:Value)(w':World):Prop where
 pr:PR (.args e 0 []) (ws.drop p) (.ok n ns u)
 o:q1v w v (⟨op,tx,(n:Int)⟩::ns) w'
 n:ns.length+u.length<=(ws.drop p).length
 rd:Ry K ws pl b (ws.length-u.length) w'
 bt:But w b w w'
inductive j5d (K:LwK) (ws:List Wd) (pl:Nat->Nat) (b:Nat) (e:Wd) (op:Int) (tx:ByteArray) (p:Nat) (w:World):Ending->World->Prop where
 | ok {n ns u A c w'} (h:g4m K ws pl b e op tx p w n ns u (.slice A (ns.length+1) c) w'):j5d K ws pl b e op tx p w (.returned (.slice A (ns.length+1) c)) w'
 | bad {u w'} (pr:PR (.args e 0 []) (ws.drop p) (.bad u)) (bt:But w b w w'):j5d K ws pl b e op tx p w (.panicked [q4t (pl (ws.length-u.length))]) w'
structure g4p(K:LwK)(ws:List Wd)(pl:Nat->Nat)(b:Nat)(e:Wd)(op:Int)(tx:ByteArray)(p:Nat)(w:World)(q n:Nat)(acc:List Td)(v:Value)(wr:World):Prop where
 n1:1<=n
 nq:n<=q
 lt:p<q
 nn:acc.length+(ws.length-q)<=ws.length-p
 o:q1v (w.heap.size+1) v acc wr
 rd:Ry K ws pl b q wr
 bt:But w b w wr
 bx:wr.heap[w.heap.size]?=some (.cells #[.int .i64 op,.string tx,.int .i64 (n:Int)] 71 (0,0))
 ok:∀r,PR (.args e n acc) (ws.drop q) r->PR (.args e 0 []) (ws.drop p) r
theorem Ry.far{K:LwK}{ws:List Wd}{pl:Nat->Nat}{b q:Nat}{w:World}(h:Ry K ws pl b q w){k i:Nat}{v:Value}(h1:k≠b)(h2:k≠K.gw)(h3:k≠K.ga):Ry K ws pl b q (w.setCell ⟨k,i,none⟩ v):=
 ⟨h.le,(cso (.inl h1)).trans h.c0,(cso (.inl h1)).trans h.c1,h.row.set,fun i hi=>(cso (.inl h2)).trans (h.wd i hi),fun i hi=>(cso (.inl h3)).trans (h.pt i hi),h.nw,h.na,h.lw,h.la,h.few⟩
theorem j6d{w:World}{k:Nat}{a c d d':Value}{T:TypeId}(h:w.heap[k]?=some (.cells #[a,c,d] T (0,0))):(w.setCell ⟨k,2,none⟩ d').heap[k]?=some (.cells #[a,c,d'] T (0,0)):=by
 simp[World.setCell,Array.getElem?_modify,h]
section
variable {K:LwK} {ws:List Wd} {pl:Nat→Nat} {b p q:Nat} {e:Wd} {op:Int} {tx:ByteArray} {w:World}
theorem k5d(he:e≠[])(he2:e≠[44])(hS:∀q,p<=q->q<=ws.length->j5g K ws pl b q)(h:Ry K ws pl b p w):
  Calls prog 256 #[.pointer (some ⟨b,0,none⟩),.agg #[.int .i64 op,.string tx,.int .i64 0],.string (wbS e)] w fun r w'=>j5d K ws pl b e op tx p w r w':=by
 have HS:Hid (∀q,p<=q->q<=ws.length->j5g K ws pl b q):=hS;have hbw:b<w.heap.size:=h.row.lt;have hple:=h.le;have hfew:=h.few;have hgw:=h.gwlt;have hga:=h.galt;have HR0:Hid (Ry K ws pl b p (w.alloc (.cells #[.int .i64 op,.string tx,.int .i64 0] 71))):=h.keep (q1t w _);have HE:Hid (e≠[]):=he;have HE2:Hid (e≠[44]):=he2;clear h hS he he2;by_cases hm:ws[p]?=some e
 ·obtain⟨hplt,hpe⟩:=List.getElem?_eq_some_iff.1 hm
  have HD:Hid (ws.drop p=e::ws.drop (p+1)):=by
   show _=_;rw[List.drop_eq_getElem_cons hplt,hpe]
  have HH:Hid (Calls prog 150 #[.pointer (some ⟨b,0,none⟩),.string (wbS e)] (w.alloc (.cells #[.int .i64 op,.string tx,.int .i64 0] 71)) fun r w'=>∃w1,w'=w1/\r=.returned (.bool true)/\Ry K ws pl b (p+1) w1/\But w b w w1/\w1.heap[w.heap.size]?=some (.cells #[.int .i64 op,.string tx,.int .i64 0] 71 (0,0))):=by
   refine(q7i HR0.o e hm).mono ?_;rintro r w1⟨rfl,h1,b1⟩;have hsz:(w.alloc (.cells #[.int .i64 op,.string tx,.int .i64 0] 71)).heap.size=w.heap.size+1:=World.size_alloc ..;exact⟨w1,rfl,rfl,h1,(But.of (q1t w _)).trans (b1.mono (by omega)),(b1.block _ (by omega) (by omega)).trans (heap_alloc_new w _)⟩
  generalize wbS e=S at HH⊢;clear hm hpe HR0;go_in;go_wp2_with fail;refine HH.o.mono ?_;rintro r w'⟨w1,rfl,rfl,h1,b1,hbx⟩;have d0:w'.cell? ⟨w,0,none⟩=some (.int .i64 op):=by rw[Lib.cell_of_heap hbx];rfl
  have d1:w'.cell? ⟨w,1,none⟩=some (.string tx):=by rw[Lib.cell_of_heap hbx];rfl
  have d2:w'.cell? ⟨w,2,none⟩=some (.int .i64 0):=by rw[Lib.cell_of_heap hbx];rfl
  have hs1:=b1.size
  have HX:Hid (j5d K ws pl b e op tx p w (.returned (.slice (some ⟨w',0,none⟩) 1 1)) (w'.alloc (.cells #[.int .i64 op,.string tx,.int .i64 0] 71))):=by
   refine j5d.ok (n:=0) (ns:=[]) (u:=ws.drop (p+1)) ⟨by rw[HD.o];exact .aEnd,(q1v.one w' ⟨op,tx,0⟩).down hs1,?_,?_,b1.alloc hs1 _⟩
   ·rw[q0h,q0h];simp only[List.length_nil];omega
   ·rw[q0h,show ws.length-(ws.length-(p+1))=p+1 by omega];exact h1.keep (q1t w' _)
  clear h1 b1 hbx HH;go_wp2;go_ret;exact HX.o
 ·have HH:Hid (Calls prog 150 #[.pointer (some ⟨b,0,none⟩),.string (wbS e)] (w.alloc (.cells #[.int .i64 op,.string tx,.int .i64 0] 71)) fun r w'=>r=.returned (.bool false)/\w'=w.alloc (.cells #[.int .i64 op,.string tx,.int .i64 0] 71)):=q8g HR0.o e HE.o hm
  have HNE:Hid ((ws.drop p).head?≠some e):=by
   show _≠_;rw[q2a];exact hm
  have HSC:Hid (∃w1,w.alloc (.cells #[.int .i64 op,.string tx,.int .i64 0] 71)=w1/\Calls prog 153 #[.pointer (some ⟨b,0,none⟩)] w1 (fun r w'=>q4i K ws pl b (.level 0) p w1 r w')/\But w b w w1/\w1.heap.size=w.heap.size+1/\w1.heap[w.heap.size]?=some (.cells #[.int .i64 op,.string tx,.int .i64 0] 71 (0,0))):=
   ⟨_,rfl,HS.o p Zl hple _ HR0.o,But.of (q1t w _),World.size_alloc ..,heap_alloc_new w _⟩
  clear hm HR0;go_in;go_wp2_with fail;refine HH.o.mono ?_;rintro r w'⟨rfl,rfl⟩;go_wp2_with fail;obtain⟨w1,hw1,hcal,hbt1,hsz1,hbx1⟩:=HSC.o;rw[hw1];have HB1:Hid (But w b w w1):=hbt1;have HBX1:=(show Hid (_=_)from hbx1);clear hbt1 hbx1 HSC hw1 HH;refine hcal.mono ?_;clear hcal;intro r w2 hG;cases hG with
  | @bad u2 _ pr bt=>
   have HB:Hid (j5d K ws pl b e op tx p w (.panicked [q4t (pl (ws.length-u2.length))]) w2):=.bad (.aB0 HNE.o pr) (HB1.o.trans (bt.mono (by omega)));clear pr bt;go_wp2;exact⟨rfl,HB.o⟩
  | @ok m2 ns2 u2 A2 c2 _ hg=>
   have hsf:=q4z hg.pr;have hu:ws.drop (ws.length-u2.length)=u2:=q6w hsf.1;have hn2:=hg.n;have he2:=hsf.2 m2 ns2 u2 rfl;rw[q0h]at hn2 he2;simp only[Job.eats]at he2;have hs2:=hg.bt.size;have hbx2:w2.heap[w.heap.size]?=some (.cells #[.int .i64 op,.string tx,.int .i64 0] 71 (0,0)):=(hg.bt.block _ (by omega) (by omega)).trans HBX1.o;have d2:w2.cell? ⟨w,2,none⟩=some (.int .i64 0):=by rw[Lib.cell_of_heap hbx2];rfl
   have f2:w2.frozen? ⟨w,2,none⟩=false:=Lib.frozen_of_heap hbx2 2
   have HV0:Hid (g4p K ws pl b e op tx p w (ws.length-u2.length) 1 ns2 (.slice A2 ns2.length c2) (w2.setCell ⟨w,2,none⟩ (.int .i64 1))):=by
    have ho:q1v (w.heap.size+1) (.slice A2 ns2.length c2) ns2 w2:=by rw[<-hsz1];exact hg.o
    refine⟨Nat.le_refl _,by omega,by omega,by omega,ho.kept fun g h1 h2=>Below.heap_setCell _ _ _ _ (by show g≠w.heap.size;omega),hg.rd.far (by omega) (by omega) (by omega),(HB1.o.trans (hg.bt.mono (by omega))).setCell (p:=⟨w,2,none⟩) (.inr Zl) _,j6d hbx2,fun r hr=>?_⟩;rw[hu]at hr;exact .aO0 HNE.o hg.pr (by simpa using hr)
   clear hg hu hn2 he2 hsf hbx2;generalize hnl:ns2.length=nl at HV0;have HNL:Hid (ns2.length=nl):=hnl;clear hnl;go_wp2_with fail
   go_loopw [7] (fun x wr=>∃(q n:Nat)(acc:List Td)(A':Option Addr)(n' c':Nat),x=.slice A' n' c'/\acc.length=n'/\g4p K ws pl b e op tx p w q n acc (.slice A' n' c') wr) (fun _ wr=>j3q wr b)
   case atStart=>exact⟨_,1,ns2,A2,nl,c2,rfl,HNL.o,HV0.o⟩
   case round=>
    obtain⟨q,n,acc,A3,n3,c3,rfl,hal,hV⟩:=hrel;have HV:=(show Hid (_)from hV);have HAL:Hid (acc.length=n3):=hal;have hqle:=hV.rd.le;have hn:=hV.nn;have hnq:=hV.nq;have hwb:=hV.bt.size;have hbr:b<wr.heap.size:=hV.rd.row.lt;have hnb:w.heap.size<wr.heap.size:=(Array.getElem?_eq_some_iff.1 hV.bx).1;rw[hal]at hn;by_cases hm:ws[q]?=some [44]
    ·obtain⟨hqlt,hqe⟩:=List.getElem?_eq_some_iff.1 hm
     have HDR:Hid (ws.drop q=[44]::ws.drop (q+1)):=by
      show _=_;rw[List.drop_eq_getElem_cons hqlt,hqe]
     have HH:Hid (Calls prog 150 #[.pointer (some ⟨b,0,none⟩),.string ⟨#[44]⟩] wr fun r w'=>r=.returned (.bool true)/\Ry K ws pl b (q+1) w'/\But wr b wr w'):=q7i hV.rd [44] hm;clear hV hal hm hqe;go_wp2_with fail;refine HH.o.mono ?_;rintro r w4⟨rfl,h4,b4⟩;have HB4:Hid (But wr b wr w4):=b4;have hs4:=b4.size;have HSC:Hid (Calls prog 153 #[.pointer (some ⟨b,0,none⟩)] w4 (fun r w'=>q4i K ws pl b (.level 0) (q+1) w4 r w')):=HS.o (q+1) (by have:=HV.o.lt;omega) (by omega) _ h4;clear h4 b4 HH;go_wp2_with fail;refine HSC.o.mono ?_;intro r w5 hG;cases hG with
     | @bad u5 _ pr bt=>
      have HB:Hid (j5d K ws pl b e op tx p w (.panicked [q4t (pl (ws.length-u5.length))]) w5):=by
       obtain⟨n',hn'⟩:∃n',n=n'+1:=⟨n-1,by have:=HV.o.n1;omega⟩;subst hn';exact .bad (HV.o.ok _ (by rw[HDR.o];exact .aB HE2.o pr)) ((HV.o.bt.trans (HB4.o.mono hwb)).trans (bt.mono (by omega)))
      clear pr bt;go_wp2;exact⟨rfl,HB.o⟩
     | @ok m5 ns5 u5 A5 c5 _ hg=>
      have hsf:=q4z hg.pr;have hu:ws.drop (ws.length-u5.length)=u5:=q6w hsf.1;have hn5:=hg.n;have he5:=hsf.2 m5 ns5 u5 rfl;rw[q0h]at hn5 he5;simp only[Job.eats]at he5;have hs5:=hg.bt.size;have HO5:Hid (q1v (w.heap.size+1) (.slice A3 n3 c3) acc w5):=(HV.o.o.but2 HB4.o (by omega)).but2 hg.bt (by omega);have HT5:Hid (Tds w5 A5 ns5):=hg.o.tds;have HN5:Hid (A5=none->ns5.length=0/\c5=0):=hg.o.none.2;have HBX5:Hid (w5.heap[w.heap.size]?=some (.cells #[.int .i64 op,.string tx,.int .i64 (n:Int)] 71 (0,0))):=(hg.bt.block _ (by omega) (by omega)).trans ((HB4.o.block _ (by omega) (by omega)).trans HV.o.bx);have HB5:Hid (But w b w w5):=(HV.o.bt.trans (HB4.o.mono hwb)).trans (hg.bt.mono (by omega));have HR5:Hid (Ry K ws pl b (ws.length-u5.length) w5):=hg.rd
      have HOK:Hid (∀r,PR (.args e (n+1) (acc++ns5)) (ws.drop (ws.length-u5.length)) r->PR (.args e 0 []) (ws.drop p) r):=fun r hr=>by
       obtain⟨n',hn'⟩:∃n',n=n'+1:=⟨n-1,by have:=HV.o.n1;omega⟩;subst hn';rw[hu]at hr;exact HV.o.ok _ (by rw[HDR.o];exact .aO HE2.o hg.pr hr)
      have hqq:q<ws.length-u5.length:=by omega
      clear hg hu hsf he5;generalize hnl5:ns5.length=n5 at hn5 HN5;have HNL5:Hid (ns5.length=n5):=hnl5;have hb5:n3+n5<=1000000:=by omega
      clear hnl5 HSC;go_wp2_with(at_builtin;refine k5l rfl _ _ rfl (w.heap.size+1) _ acc rfl HO5.o A5 n5 ns5 HNL5.o c5 rfl HT5.o HN5.o (n3+n5) (by rw[HAL.o]) hb5 (by omega) ?_);intro A6 c6 w6 hown6 hgrow6;have hs6:=hgrow6.size;have hbel6:Below (w.heap.size+1) w5 w6:= Zb.grown hgrow6 (by omega) (fun k hk=>(World.ownsRow.lt HO5.o k hk).1);have hbx6:w6.heap[w.heap.size]?=some (.cells #[.int .i64 op,.string tx,.int .i64 (n:Int)] 71 (0,0)):=(hbel6.block _ (by omega)).trans HBX5.o;have d6:w6.cell? ⟨w,2,none⟩=some (.int .i64 (n:Int)):=by rw[Lib.cell_of_heap hbx6];rfl
      have f6:w6.frozen? ⟨w,2,none⟩=false:=Lib.frozen_of_heap hbx6 2
      have HV6:Hid (g4p K ws pl b e op tx p w (ws.length-u5.length) (n+1) (acc++ns5) (.slice A6 (n3+n5) c6) (w6.setCell ⟨w,2,none⟩ (.int .i64 ((n:Int)+1)))):=by
       have hal6:(acc++ns5).length=n3+n5:=by rw[List.length_append,HAL.o,HNL5.o]
       have h7:=HV.o.lt;refine⟨by omega,by omega,by omega,by rw[hal6];omega,hown6.kept fun g h1 h2=>Below.heap_setCell _ _ _ _ (by show g≠w.heap.size;omega),(HR5.o.keepB hbel6 (by omega) (by omega) (by omega)).far (by omega) (by omega) (by omega),(HB5.o.trans (But.of (hbel6.mono (by omega)))).setCell (p:=⟨w,2,none⟩) (.inr Zl) _,?_,HOK.o⟩;rw[show((n+1:Nat):Int)=(n:Int)+1 by omega];exact j6d hbx6
      have HAL6:Hid ((acc++ns5).length=n3+n5):=(show _=_ by rw[List.length_append,HAL.o,HNL5.o]);have hnb6:(n:Int)+1<=60001:=by omega
      clear hown6 hgrow6 hbel6 hbx6 HBX5;go_wp2;refine⟨⟨_,n+1,acc++ns5,A6,n3+n5,c6,rfl,HAL6.o,HV6.o⟩,?_⟩;rw[HV6.o.rd.len_eq,HV.o.rd.len_eq];omega
    ·have HH:Hid (Calls prog 150 #[.pointer (some ⟨b,0,none⟩),.string ⟨#[44]⟩] wr fun r w'=>r=.returned (.bool false)/\w'=wr):=q8g hV.rd [44] (by simp) hm;by_cases hm2:ws[q]?=some e
     ·obtain⟨hqlt,hqe⟩:=List.getElem?_eq_some_iff.1 hm2
      have HDR:Hid (ws.drop q=e::ws.drop (q+1)):=by
       show _=_;rw[List.drop_eq_getElem_cons hqlt,hqe]
      have HM:Hid (Calls prog 152 #[.pointer (some ⟨b,0,none⟩),.string (wbS e)] wr fun r w'=>r=.returned (.tuple #[])/\Ry K ws pl b (q+1) w'/\But wr b wr w'):=q6j hV.rd e hm2;clear hV hal hm hm2 hqe;go_wp2_with fail;refine HH.o.mono ?_;rintro r w4⟨rfl,rfl⟩;go_wp2_with fail;refine HM.o.mono ?_;rintro r w5⟨rfl,h5,b5⟩;have hs5:=b5.size;have hbx5:w5.heap[w.heap.size]?=some (.cells #[.int .i64 op,.string tx,.int .i64 (n:Int)] 71 (0,0)):=(b5.block _ (by omega) (by omega)).trans HV.o.bx;have d0:w5.cell? ⟨w,0,none⟩=some (.int .i64 op):=by rw[Lib.cell_of_heap hbx5];rfl
      have d1:w5.cell? ⟨w,1,none⟩=some (.string tx):=by rw[Lib.cell_of_heap hbx5];rfl
      have d2:w5.cell? ⟨w,2,none⟩=some (.int .i64 (n:Int)):=by rw[Lib.cell_of_heap hbx5];rfl
      have ho5:q1v (w.heap.size+1) (.slice A3 n3 c3) acc w5:=HV.o.o.but2 b5 (by omega);have HX1:Hid (q1v w (.slice (some ⟨w5,0,none⟩) 1 1) [⟨op,tx,(n:Int)⟩] (w5.alloc (.cells #[.int .i64 op,.string tx,.int .i64 (n:Int)] 71))):=(q1v.one w5 ⟨op,tx,(n:Int)⟩).down (by omega);have HT1:Hid (Tds (w5.alloc (.cells #[.int .i64 op,.string tx,.int .i64 (n:Int)] 71)) A3 acc):=ho5.tds.alloc _;have HN1:Hid (A3=none->n3=0/\c3=0):=ho5.none.2;have HSZ:Hid ((w5.alloc (.cells #[.int .i64 op,.string tx,.int .i64 (n:Int)] 71)).heap.size=w5.heap.size+1):=World.size_alloc ..;have HR5:Hid (Ry K ws pl b (q+1) (w5.alloc (.cells #[.int .i64 op,.string tx,.int .i64 (n:Int)] 71))):=h5.keep (q1t w5 _);have HB5:Hid (But w b w (w5.alloc (.cells #[.int .i64 op,.string tx,.int .i64 (n:Int)] 71))):=(HV.o.bt.trans (b5.mono hwb)).alloc (by omega) _;have hb5:1+n3<=1000000:=by omega
      have hbr5:b<w5.heap.size:=h5.row.lt;have hgw5:=h5.gwlt;have hga5:=h5.galt;clear h5 b5 hbx5 ho5 HH HM;go_wp2_with(at_builtin;refine k5l rfl _ _ rfl w.heap.size _ [⟨op,tx,(n:Int)⟩] rfl HX1.o A3 n3 acc HAL.o c3 rfl HT1.o HN1.o (1+n3) rfl hb5 (by rw[HSZ.o];omega) ?_);intro A6 c6 w6 hown6 hgrow6
      have hrow6:∀k',(Value.slice (some ⟨w5,0,none⟩) 1 1).ownBlock=some k'->w5.heap.size<=k':=fun k' hk=>by
       simp only[Value.ownBlock,Option.some.injEq]at hk;omega
      have hbel6:Below w5 (w5.alloc (.cells #[.int .i64 op,.string tx,.int .i64 (n:Int)] 71)) w6:= Zb.grown hgrow6 (by rw[HSZ.o];omega) hrow6
      have HX:Hid (j5d K ws pl b e op tx p w (.returned (.slice A6 (n3+1) c6)) w6):=by
       have hal:=HAL.o;subst hal;have hV:=HV.o;have hdl:(ws.drop (q+1)).length=ws.length-(q+1):=q0h;have hlt:=hV.lt;have hnn:=hV.nn;refine j5d.ok (n:=n) (ns:=acc) (u:=ws.drop (q+1)) ⟨hV.ok _ (by rw[HDR.o];exact .aEnd),?_,?_,?_,HB5.o.trans (But.of (hbel6.mono (by omega)))⟩
       ·rw[show acc.length+1=1+acc.length by omega];exact hown6
       ·rw[hdl,q0h];omega
       ·rw[hdl,show ws.length-(ws.length-(q+1))=q+1 by omega];exact HR5.o.keepB hbel6 hbr5 hgw5 hga5
      clear hown6 hgrow6 hbel6 hrow6 HR5 HB5 HX1 HT1;rw[show 1+n3=n3+1 by omega];go_wp2;go_ret;exact HX.o
     ·have HM:Hid (Calls prog 152 #[.pointer (some ⟨b,0,none⟩),.string (wbS e)] wr fun r w'=>r=.panicked [q4t (pl q)]/\w'=wr):=q7j hV.rd e HE.o hm2
      have HX:Hid (j5d K ws pl b e op tx p w (.panicked [q4t (pl q)]) wr):=by
       have hdl:(ws.drop q).length=ws.length-q:=q0h;obtain⟨n',hn'⟩:∃n',n=n'+1:=⟨n-1,by have:=hV.n1;omega⟩;subst hn';have h9:=j5d.bad (K:=K) (pl:=pl) (b:=b) (op:=op) (tx:=tx) (w:=w) (hV.ok _ (.aSep (by rw[q2a];exact hm2) (by rw[q2a];exact hm))) hV.bt;rw[hdl,show ws.length-(ws.length-q)=q by omega]at h9;exact h9
      clear hV hal hm hm2;go_wp2_with fail;refine HH.o.mono ?_;rintro r w4⟨rfl,rfl⟩;go_wp2_with fail;refine HM.o.mono ?_;rintro r w5⟨rfl,rfl⟩;go_wp2;exact⟨rfl,HX.o⟩
end
theorem k9r:∀(w:Wd)(a:Nat),(∀b∈w,q4d b=true)->Lib.decFrom a w=some (w.foldl (fun a c=>a*10+(c.toNat-48)) a)
 | [],a,_=>rfl
 | c::r,a,h=>by
  have hc:=h c (by simp);simp only[q4d,Bool.and_eq_true,decide_eq_true_eq]at hc;have e:Lib.digitVal c=some (c.toNat-48):=by rw[Lib.digitVal,if_pos hc]
  rw[Lib.decFrom,e];exact k9r r _ fun b hb=>h b (by simp[hb])
theorem v5a{w:Wd}(h:∀b∈w,q4d b=true)(h0:w≠[]):Lib.atoi w=some ((z4a w:Nat):Int):=by
 cases w with
 | nil=>exact absurd rfl h0
 | cons c r=>
  have hc:=h c (by simp);simp only[q4d,Bool.and_eq_true,decide_eq_true_eq]at hc
  have e1:(c==45)=false:=by
   rw[beq_eq_false_iff_ne];rintro rfl;revert hc;decide
  have e2:(c==43)=false:=by
   rw[beq_eq_false_iff_ne];rintro rfl;revert hc;decide
  have e3:Lib.decNat (c::r)=some (z4a (c::r)):=by
   rw[Lib.decNat];exact k9r (c::r) 0 h
  simp only[Lib.atoi,e1,e2,e3];rfl
theorem v4z(w:Wd)(h:∀b∈w,q4d b=true)(h0:w≠[])(hl:w.length<=6)(W:World):Calls prog 254 #[.string (wbS w)] W fun e w'=>e=.returned (.tuple #[.int .i64 ((z4a w:Nat):Int),.nilIface])/\Below W W w':=by
 refine(atoi_sh (wbS w) ((z4a w:Nat):Int) (by rw[<-q0b];show w.length<=18;omega) (v5a h h0) W).mono ?_;rintro e w'⟨rfl,t,rfl⟩;exact⟨rfl,Lib.bytesWorld_below _ _ _⟩
section
variable {K:LwK} {ws:List Wd} {pl:Nat→Nat} {b p:Nat} {w:World}
theorem q4i.lev2{e:Ending}{w':World}(h:q4i K ws pl b .single p w e w'):q4i K ws pl b (.level 2) p w e w':=by
 cases h with
 | ok h=>exact .ok ⟨.lev2 h.pr,h.o,h.n,h.rd,h.bt⟩
 | bad pr bt=>exact .bad (.lev2 pr) bt
theorem v4i{j:Job}{q:Nat}{w':World}(hq:q<=ws.length)(pr:PR j (ws.drop p) (.bad (ws.drop q)))(bt:But w b w w'):q4i K ws pl b j p w (.panicked [q4t (pl q)]) w':=by
 have h9:=q4i.bad (K:=K) (pl:=pl) pr bt;rw[q0h,show ws.length-(ws.length-q)=q by omega]at h9;exact h9
theorem q4n(h:p<ws.length):ws.drop p=ws[p]::ws.drop (p+1):=List.drop_eq_getElem_cons h
theorem j4x(hS:∀q,p<q->q<=ws.length->j5g K ws pl b q)(hp:p<ws.length)(hn:nmW ws[p]=true)(h:Ry K ws pl b p w):
  Calls prog 255 #[.pointer (some ⟨b,0,none⟩)] w fun e w'=>q4i K ws pl b .single p w e w':=by
 have HN:Hid (Calls prog 198 #[.pointer (some ⟨b,0,none⟩)] w fun e w'=>e=.returned (.string (wbS ws[p]))/\Ry K ws pl b (p+1) w'/\But w b w w'):=q8h h hp;have HD:Hid (ws.drop p=ws[p]::ws.drop (p+1)):=q4n hp;have hbw:b<w.heap.size:=h.row.lt;clear h;by_cases hm:ws[p+1]?=some [40]
 ·obtain⟨hplt,hpe⟩:=List.getElem?_eq_some_iff.1 hm
  have HD2:Hid (ws.drop (p+1)=[40]::ws.drop (p+2)):=by
   show _=_;rw[q4n hplt,hpe]
  have HK:Hid (∀W,Ry K ws pl b (p+2) W->But w b w W->Calls prog 256 #[.pointer (some ⟨b,0,none⟩),.agg #[.int .i64 3,.string (wbS ws[p]),.int .i64 0],.string ⟨#[41]⟩] W fun r w'=>q4i K ws pl b .single p w r w'):=fun W hW hB=>by
   refine(k5d (e:=[41]) (op:=3) (tx:=wbS ws[p]) (by simp) (by decide) (fun q h1 h2=>hS q (by omega) h2) hW).mono ?_;intro r w' hG;have hs:=hB.size;cases hG with
   | bad pr bt=>exact .bad (by rw[HD.o,HD2.o];exact .sCB hn pr) (hB.trans (bt.mono hs))
   | @ok n ns u A c _ hg=>
    have hl:=hg.n;rw[q0h]at hl;refine q4i.ok (m:=0) (ns:=clT ws[p] n::ns) (u:=u) ⟨by rw[HD.o,HD2.o];exact .sCO hn hg.pr,hg.o.down hs,?_,hg.rd,hB.trans (hg.bt.mono hs)⟩;rw[q0h,List.length_cons];omega
  generalize wbS ws[p]=S at HN HK;go_in;go_wp2_with fail;refine HN.o.mono ?_;rintro e w1⟨rfl,h1,b1⟩;have HB1:Hid (But w b w w1):=b1;have hs1:=b1.size;have HH:Hid (Calls prog 150 #[.pointer (some ⟨b,0,none⟩),.string ⟨#[40]⟩] w1 fun e w'=>e=.returned (.bool true)/\Ry K ws pl b (p+2) w'/\But w1 b w1 w'):=q7i h1 [40] hm;clear h1 b1 HN hm hpe;go_wp2_with fail;refine HH.o.mono ?_;rintro e w2⟨rfl,h2,b2⟩;have HK2:Hid (Calls prog 256 #[.pointer (some ⟨b,0,none⟩),.agg #[.int .i64 3,.string S,.int .i64 0],.string ⟨#[41]⟩] w2 fun r w'=>q4i K ws pl b .single p w r w'):=HK.o w2 h2 (HB1.o.trans (b2.mono hs1));clear h2 b2 HH HK;go_wp2_with fail;refine HK2.o.mono ?_;intro r w3 hG;cases hG with
  | @bad u _ pr bt=>
   have HB:Hid (q4i K ws pl b .single p w (.panicked [q4t (pl (ws.length-u.length))]) w3):=.bad pr bt;clear pr bt;go_wp2;exact⟨rfl,HB.o⟩
  | @ok m ns u A c _ hg=>
   have HB:Hid (q4i K ws pl b .single p w (.returned (.slice A ns.length c)) w3):=.ok hg;clear hg;generalize ns.length=nl at HB⊢;go_wp2;go_ret;exact HB.o
 ·have HX:Hid (∀W,Ry K ws pl b (p+1) W->But w b w W->q4i K ws pl b .single p w (.returned (.slice (some ⟨W,0,none⟩) 1 1)) (W.alloc (.cells #[.int .i64 2,.string (wbS ws[p]),.int .i64 0] 71))):=fun W hW hB=>by
   refine q4i.ok (m:=0) (ns:=[nmT ws[p]]) (u:=ws.drop (p+1)) ⟨by rw[HD.o];exact .sName hn (by rw[q2a];exact hm),(q1v.one W (nmT ws[p])).down hB.size,?_,?_,hB.alloc hB.size _⟩
   ·rw[q0h,q0h];simp only[List.length_cons,List.length_nil];omega
   ·rw[q0h,show ws.length-(ws.length-(p+1))=p+1 by omega];exact hW.keep (q1t W _)
  generalize wbS ws[p]=S at HN HX;go_in;go_wp2_with fail;refine HN.o.mono ?_;rintro e w1⟨rfl,h1,b1⟩;have HX1:=(show Hid (_)from HX.o w1 h1 b1);have HH:Hid (Calls prog 150 #[.pointer (some ⟨b,0,none⟩),.string ⟨#[40]⟩] w1 fun e w'=>e=.returned (.bool false)/\w'=w1):=q8g h1 [40] (by simp) hm;clear h1 b1 HN hm HX;go_wp2_with fail;refine HH.o.mono ?_;rintro e w2⟨rfl,rfl⟩;go_wp2;go_ret;exact HX1.o
end
end Go.Proofs.YthcpdohdppkmkaaGreatDoor
