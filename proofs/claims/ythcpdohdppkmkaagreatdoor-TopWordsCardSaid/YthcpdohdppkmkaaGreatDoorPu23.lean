import Derived.Test.YthcpdohdppkmkaaGreatDoorPu22
open Go.Proofs.Tryz
namespace Go.Proofs.YthcpdohdppkmkaaGreatDoor
open Go Go.RowKit
set_option maxRecDepth 100000
set_option maxHeartbeats 4000000
theorem z1d{w:World}{B e size n k:Nat}{v:Value}{xs:List Value}(h:w.ownsRow B e size v n xs)(hk:v.ownBlock=some k):k<w.heap.size/\∃cur,w.heap[k]?=some (.cells cur e (0,0)):=by
 rcases h.2 with⟨rfl,_⟩|⟨g,c,cur,rfl,_,hg,_⟩
 ·simp[Value.ownBlock]at hk
 ·simp only[Value.ownBlock,Option.some.injEq]at hk;subst hk;exact⟨(Array.getElem?_eq_some_iff.1 hg).1,cur,hg⟩
theorem y2r{w:World}{B e size n k:Nat}{v:Value}{xs:List Value}(h:w.ownsRow B e size v n xs)(hk:v.ownBlock=some k):B<=k:=by
 rcases h.2 with⟨rfl,_⟩|⟨g,c,cur,rfl,hb,_⟩
 ·simp[Value.ownBlock]at hk
 ·simp only[Value.ownBlock,Option.some.injEq]at hk;subst hk;exact hb
theorem z1c{w w':World}{B e size n:Nat}{v:Value}{xs:List Value}(h:w.ownsRow B e size v n xs)(hk:∀k,v.ownBlock=some k->w'.heap[k]?=w.heap[k]?):w'.ownsRow B e size v n xs:=by
 refine⟨h.1,?_⟩;rcases h.2 with h0|⟨g,c,cur,rfl,hb,hg,rest⟩
 ·exact .inl h0
 ·exact .inr ⟨g,c,cur,rfl,hb,(hk g rfl).trans hg,rest⟩
structure ChR(sb g mb wd:Nat)(R:List Pl)(S:Nat->Nat->Bool)(w wr:World)(v3:Value)(b4 p c:Nat)(us:List Int):Prop where
 own:wr.ownsRow w.heap.size 3 1 v3 us.length (q0w us)
 box:wr.heap[b4]?=some (.cells #[.int .i64 p,.int .i64 c] 121 (0,0))
 lo:w.heap.size<=b4
 pl:p<=R.length
 cl:c<=wd
 inS:p<R.length->S p c=true
 way:us++(vv R wd p c).2=(vv R wd 0 0).2
 len:us.length<=p
 inv:Inv sb g mb wd R wr S
 bw:Below w w wr
section
variable {sb g mb wd b4 p c:Nat} {R:List Pl} {S:Nat→Nat→Bool} {w wr wx:World} {v3:Value} {us:List Int}
theorem ChR.c0(h:ChR sb g mb wd R S w wr v3 b4 p c us):wr.cell? ⟨b4,0,none⟩=some (.int .i64 p):=by simp[World.cell?,h.box]
theorem ChR.c1(h:ChR sb g mb wd R S w wr v3 b4 p c us):wr.cell? ⟨b4,1,none⟩=some (.int .i64 c):=by simp[World.cell?,h.box]
theorem ChR.lt(h:ChR sb g mb wd R S w wr v3 b4 p c us):b4<wr.heap.size:=World.block_lt_of_cell? wr ⟨b4,0,none⟩ h.c0
theorem ChR.form(h:ChR sb g mb wd R S w wr v3 b4 p c us):∃a cap,v3=.slice a us.length cap:=by
 rcases h.own.2 with⟨hv,h0⟩|⟨g,c,cur,hv,_⟩
 ·exact⟨none,0,by rw[hv,h0]⟩
 ·exact⟨_,c,hv⟩
theorem ChR.apart(h:ChR sb g mb wd R S w wr v3 b4 p c us){k:Nat}(hk:v3.ownBlock=some k):k≠b4:=by
 intro e;subst e;obtain⟨_,cur,h1⟩:=z1d h.own hk;rw[h.box]at h1;cases h1
theorem ChR.W(h:ChR sb g mb wd R S w wr v3 b4 p c us)(hb:Below wr wr wx):ChR sb g mb wd R S w wx v3 b4 p c us:=
 ⟨z1c h.own fun k hk=>hb.block k (z1d h.own hk).1,(hb.block _ h.lt).trans h.box,h.lo,h.pl,h.cl,h.inS,h.way,h.len,h.inv.W hb,h.bw.trans (hb.mono h.bw.size)⟩
end
def chM(n:Nat)(v:Value)(wr:World):Nat:=match v with
 | .pointer (some a)=>(match wr.cell? a with|some (.int _ p)=>n-p.toNat|_=>0)
 | _=>0
theorem k9k{n b p:Nat}{wr:World}(h:wr.cell? ⟨b,0,none⟩=some (.int .i64 (p:Int))):chM n (.pointer (some ⟨b,0,none⟩)) wr=n-p:=by
 simp[chM,h]
theorem v5v{sb g mb wd p c L M nx dp:Nat}{R:List Pl}{S:Nat->Nat->Bool}{w W:World}{v:Value}{us us':List Int}{ks:List (Nat × Tr)}{t:Tr}(hsp:Sp R L M p t nx dp ks)(hc:c<=wd)(hw:wd<=100)(hL:L<=400)(hM:M<=3200)(hway:us++(vv R wd p c).2=(vv R wd 0 0).2)(hlen:us.length<=p)(hS:S p c=true)
  (hus:us'=us++(if z2j t.root.op=true then [((crs R wd p c).ch:Int)]else [])) (hown:W.ownsRow w.heap.size 3 1 v us'.length (q0w us')) (hinv:Inv sb g mb wd R W S) (hbw:Below w w W):
  ChR sb g mb wd R S w (W.alloc (.cells #[.int .i64 (crs R wd p c).np,.int .i64 (crs R wd p c).nc] 121)) v W.heap.size (crs R wd p c).np (crs R wd p c).nc us'/\p<(crs R wd p c).np:=by
 obtain⟨h1,ch,_,h2⟩:=j7d hsp hc;have hm:=v0j (ch:=ch) hsp hc hw hL hM;have e1:(crs R wd p c).np=(q3h R wd p c ch).np:=by rw[h2];rfl
 have e2:(crs R wd p c).nc=(q3h R wd p c ch).nc:=by rw[h2];rfl
 have hlo:=hm.lo;refine⟨⟨z1c hown fun k hk=>Below.heap_alloc _ _ _ (z1d hown hk).1,heap_alloc_new W _,hbw.size,by rw[e1];exact hm.hi,by rw[e2];exact hm.cl,fun hl=>(hinv.cl p c hS).2.2 hl,?_,?_,hinv.alloc _,hbw.alloc hbw.size _⟩,by rw[e1];exact hlo⟩
 ·rw[h1]at hway;rw[hus,List.append_assoc];exact hway
 ·rw[hus,e1]
  split<;>simp<;>omega
theorem k1t{t:Tr}{wd:Nat}(sb g mb:Nat)(ht:t.Wf)(hn:t.sz<=400)(hw:wd<=100)(w:World)(S:Nat->Nat->Bool)(h:Inv sb g mb wd (q0a t) w S)(h0:S 0 0=true):
  Calls prog 64 #[.pointer (some ⟨sb,0,none⟩)] w fun e w'=>(∃a cap,e=.returned (.slice a (vv (q0a t) wd 0 0).2.length cap)/\w'.ownsRow w.heap.size 3 1 (.slice a (vv (q0a t) wd 0 0).2.length cap) (vv (q0a t) wd 0 0).2.length (q0w (vv (q0a t) wd 0 0).2))/\Below w w w':=by
 have HI:Hid (Inv sb g mb wd (q0a t) w S):=h;have H0:Hid (S 0 0=true):=h0;have hlt:=h.lt;have hR:(q0a t).length<=400:=by rw[q2u];exact hn
 have HRD:Hid (∃R,R=q0a t):=⟨_,rfl⟩
 have HST:Hid (∀W:World,W=w.alloc (.cells #[.int .i64 0,.int .i64 0] 121)->ChR sb g mb wd (q0a t) S w W (.slice none 0 0) w.heap.size 0 0 []):=fun W hW=>by
  subst hW;exact⟨⟨rfl,.inl ⟨rfl,rfl⟩⟩,heap_alloc_new w _,Nat.le_refl _,Nat.zero_le _,Nat.zero_le _,fun _=>H0.o,rfl,Nat.le_refl _,HI.o.alloc _,(Below.refl _ w).alloc Zl _⟩
 clear h h0;go_in;go_wp2_with fail
 go_loopw [3,4] (fun v3 v4 wr=>∃b4 p c us,v4=.pointer (some ⟨b4,0,none⟩)/\ChR sb g mb wd (q0a t) S w wr v3 b4 p c us) (fun _ v4 wr=>chM (q0a t).length v4 wr)
 case atStart=>exact⟨_,0,0,[],rfl,HST.o _ rfl⟩
 case round=>
  obtain⟨b4,p,c,us,rfl,hC⟩:=hrel;obtain⟨a3,cap3,rfl⟩:=hC.form;have HC:Hid (ChR sb g mb wd (q0a t) S w wr (.slice a3 us.length cap3) b4 p c us):=hC;have c0:=hC.inv.pl.c0;have p0:=hC.c0;by_cases hp:p<(q0a t).length
  ·have hpI:(p:Int)<((q0a t).length:Int):=by omega
   obtain⟨t',nx,dp,ks,hsp⟩:=v2k ht hp;have HSP:Hid (Sp (q0a t) t.lf t.dsum p t' nx dp ks):=hsp;have hp400:p<=400:=by omega
   have hc100:c<=100:=by have:=hC.cl;omega
   have HQ:Hid (∀W,Below wr wr W->W.cell? ⟨sb,0,none⟩=some (.slice (some ⟨g,0,none⟩) (q0a t).length (q0a t).length)/\W.cell? ⟨b4,0,none⟩=some (.int .i64 p)/\W.cell? ⟨g,p*7,none⟩=some (.int .i64 (q2 (q1g (q0a t) p)).op)/\W.cell? ⟨g,p*7+1,none⟩=some (.string (q2 (q1g (q0a t) p)).tx)/\W.cell? ⟨g,p*7+2,none⟩=some (.int .i64 (q2 (q1g (q0a t) p)).n)/\W.cell? ⟨g,p*7+3,none⟩=some (.int .i64 (q2 (q1g (q0a t) p)).en)/\W.cell? ⟨g,p*7+4,none⟩=some (.int .i64 (q2 (q1g (q0a t) p)).nx)/\W.cell? ⟨g,p*7+5,none⟩=some (.int .i64 (q2 (q1g (q0a t) p)).dp)/\W.cell? ⟨g,p*7+6,none⟩=some (.int .i64 (q2 (q1g (q0a t) p)).lg)):=fun W hW=>by
    have hC2:=HC.o.W hW;obtain⟨d0,d1,d2,d3,d4,d5,d6⟩:=hC2.inv.pl.pr.get p hp;exact⟨hC2.inv.pl.c0,hC2.c0,d0,d1,d2,d3,d4,d5,d6⟩
   have hop:(q2 (q1g (q0a t) p)).op=t'.root.op:=by rw[hsp.at];rfl
   have HLK:Hid (∀W,Inv sb g mb wd (q0a t) W S->(Instr.lookup 117 (.map (some mb)) (.agg #[.int .i64 (p:Int),.int .i64 (c:Int)]) false).run prog W=.ok (.agg #[.int .i64 (crs (q0a t) wd p c).o,.int .i64 (crs (q0a t) wd p c).l,.int .i64 (crs (q0a t) wd p c).ch,.int .i64 (crs (q0a t) wd p c).np,.int .i64 (crs (q0a t) wd p c).nc]) W):=fun W hW=>by
    have:=hW.me.look (p:=p) (c:=c) hp400 hc100
    rw[HC.o.inS hp,if_pos rfl]at this;exact this
   have hfn:=j7u;have hfh:=k5z;have hpp:(0:Int)<=(p:Int):=by omega
   have HNX:Hid (∀(W:World)(v:Value)(us':List Int),us'=us++(if z2j t'.root.op=true then [((crs (q0a t) wd p c).ch:Int)]else [])->W.ownsRow w.heap.size 3 1 v us'.length (q0w us')->Inv sb g mb wd (q0a t) W S->Below w w W->ChR sb g mb wd (q0a t) S w (W.alloc (.cells #[.int .i64 (crs (q0a t) wd p c).np,.int .i64 (crs (q0a t) wd p c).nc] 121)) v W.heap.size (crs (q0a t) wd p c).np (crs (q0a t) wd p c).nc us'/\p<(crs (q0a t) wd p c).np):=fun W v us' e1 e2 e3 e4=>
    v5v HSP.o HC.o.cl hw (by have:=q7v t;unfold Tr.sz at hn;omega) (by have:=q7v t;unfold Tr.sz at hn;omega) HC.o.way HC.o.len (HC.o.inS hp) e1 e2 e3 e4
   clear hC hsp;generalize q2 (q1g (q0a t) p)=q at *;generalize crs (q0a t) wd p c=k at *;cases hch:z2j q.op with
   | false=>
    have HIS:Hid (∀W,Calls prog 111 #[.agg #[.int .i64 q.op,.string q.tx,.int .i64 q.n,.int .i64 q.en,.int .i64 q.nx,.int .i64 q.dp,.int .i64 q.lg]] W fun e w'=>e=.returned (.bool false)/\Below W W w'):=fun W=>by have:=q9z q.op q.tx q.n q.en q.nx q.dp q.lg W;rw[hch]at this;exact this
    have HCH:Hid (z2j t'.root.op=false):=by rw[<-hop];exact hch
    clear hch hop;go_wp2_with fail
    go_quiet (fail)
    go_wp2_with fail;have hb1:Below wr wr (wr.drewN nq):=k9f (Below.refl _ wr) nq;generalize wr.drewN nq=w1 at *;have hSa:=HQ.o w1.drew hb1.drew;have HB1:Hid (Below wr wr w1):=hb1;clear hb1
    go_region_held3 (fun w'=>w'.cell? ⟨sb,0,none⟩=some (.slice (some ⟨g,0,none⟩) (q0a t).length (q0a t).length)/\w'.cell? ⟨b4,0,none⟩=some (.int .i64 p)/\w'.cell? ⟨g,p*7,none⟩=some (.int .i64 q.op)/\w'.cell? ⟨g,p*7+1,none⟩=some (.string q.tx)/\w'.cell? ⟨g,p*7+2,none⟩=some (.int .i64 q.n)/\w'.cell? ⟨g,p*7+3,none⟩=some (.int .i64 q.en)/\w'.cell? ⟨g,p*7+4,none⟩=some (.int .i64 q.nx)/\w'.cell? ⟨g,p*7+5,none⟩=some (.int .i64 q.dp)/\w'.cell? ⟨g,p*7+6,none⟩=some (.int .i64 q.lg))
     (first|with_reducible exact hSa|with_reducible exact hSb)
     ((go_at_call 111;refine(HIS.o w1.drew).mono ?_;rintro e w2⟨rfl,hb2⟩;have hBx:Below wr wr w2:=HB1.o.drew.trans (hb2.mono HB1.o.size);have hSb:=HQ.o w2 hBx))
    all_goals
     have hC2:=HC.o.W hBx;have HC2:Hid (ChR sb g mb wd (q0a t) S w w2 (.slice a3 us.length cap3) b4 p c us):=hC2;have x0:=hC2.c0;have x1:=hC2.c1;have m2:=fun O=>ka hC2.inv.c2 O
     have hL:=fun O=>HLK.o (w2.alloc O).drew ((hC2.inv.alloc O).kept fun _ _=>rfl)
     clear hC2 hb2 hBx hSb hSa c0 p0;go_wp2_with fail
     go_region
     all_goals
      go_wp2
      go_roundw
      case rel=>
       exact⟨_,_,_,us,rfl,((HNX.o w2 _ us (by rw[HCH.o];simp) HC2.o.own HC2.o.inv HC2.o.bw).1).W Zb.drew⟩
      case measure=>
       have h5:=(HNX.o w2 _ us (by rw[HCH.o];simp) HC2.o.own HC2.o.inv HC2.o.bw);have e5:chM (q0a t).length (.pointer (some ⟨b4,0,none⟩)) wr=(q0a t).length-p:=k9k HC.o.c0;have e6:chM (q0a t).length (.pointer (some ⟨w2,0,none⟩)) (w2.alloc (.cells #[.int .i64 k.np,.int .i64 k.nc] 121)).drew=(q0a t).length-k.np:=k9k h5.1.c0;have h6:=h5.2;rw[e5,e6];omega
   | true=>
    have HIS:Hid (∀W,Calls prog 111 #[.agg #[.int .i64 q.op,.string q.tx,.int .i64 q.n,.int .i64 q.en,.int .i64 q.nx,.int .i64 q.dp,.int .i64 q.lg]] W fun e w'=>e=.returned (.bool true)/\Below W W w'):=fun W=>by have:=q9z q.op q.tx q.n q.en q.nx q.dp q.lg W;rw[hch]at this;exact this
    have HCH:Hid (z2j t'.root.op=true):=by rw[<-hop];exact hch
    clear hch hop;go_wp2_with fail
    go_quiet (fail)
    go_wp2_with fail;have hb1:Below wr wr (wr.drewN nq):=k9f (Below.refl _ wr) nq;generalize wr.drewN nq=w1 at *;have hSa:=HQ.o w1.drew hb1.drew;have HB1:Hid (Below wr wr w1):=hb1;clear hb1
    go_region_held3 (fun w'=>w'.cell? ⟨sb,0,none⟩=some (.slice (some ⟨g,0,none⟩) (q0a t).length (q0a t).length)/\w'.cell? ⟨b4,0,none⟩=some (.int .i64 p)/\w'.cell? ⟨g,p*7,none⟩=some (.int .i64 q.op)/\w'.cell? ⟨g,p*7+1,none⟩=some (.string q.tx)/\w'.cell? ⟨g,p*7+2,none⟩=some (.int .i64 q.n)/\w'.cell? ⟨g,p*7+3,none⟩=some (.int .i64 q.en)/\w'.cell? ⟨g,p*7+4,none⟩=some (.int .i64 q.nx)/\w'.cell? ⟨g,p*7+5,none⟩=some (.int .i64 q.dp)/\w'.cell? ⟨g,p*7+6,none⟩=some (.int .i64 q.lg))
     (first|with_reducible exact hSa|with_reducible exact hSb)
     ((go_at_call 111;refine(HIS.o w1.drew).mono ?_;rintro e w2⟨rfl,hb2⟩;have hBx:Below wr wr w2:=HB1.o.drew.trans (hb2.mono HB1.o.size);have hSb:=HQ.o w2 hBx))
    all_goals
     have hC2:=HC.o.W hBx;have HC2:Hid (ChR sb g mb wd (q0a t) S w w2 (.slice a3 us.length cap3) b4 p c us):=hC2;have x0:=hC2.c0;have x1:=hC2.c1;have HSS:Hid (∀W,Inv sb g mb wd (q0a t) W S->W.heap[b4]?=some (.cells #[.int .i64 p,.int .i64 c] 121 (0,0))->W.cell? ⟨sb,2,none⟩=some (.map (some mb))/\W.cell? ⟨b4,0,none⟩=some (.int .i64 p)/\W.cell? ⟨b4,1,none⟩=some (.int .i64 c)/\(Instr.lookup 117 (.map (some mb)) (.agg #[.int .i64 (p:Int),.int .i64 (c:Int)]) false).run prog W=.ok (.agg #[.int .i64 k.o,.int .i64 k.l,.int .i64 k.ch,.int .i64 k.np,.int .i64 k.nc]) W):=fun W h1 h2=>⟨h1.c2,by simp[World.cell?,h2],by simp[World.cell?,h2],HLK.o W h1⟩
     have hbx4:∀O,(w2.alloc O).drew.heap[b4]?=some (.cells #[.int .i64 p,.int .i64 c] 121 (0,0)):=fun O=>(Below.heap_alloc w2 O b4 hC2.lt).trans hC2.box
     have hSc:=HSS.o w2.drew (hC2.inv.kept fun _ _=>rfl) hC2.box;have hSd:=fun O=>HSS.o (w2.alloc O).drew ((hC2.inv.alloc O).kept fun _ _=>rfl) (hbx4 O)
     have HG5:Hid (∀w5,(w2.alloc (.cells #[.int .i64 k.ch] 3)).drew.grownBy w5 (Value.slice a3 us.length cap3).ownBlock->Inv sb g mb wd (q0a t) w5 S/\w5.heap[b4]?=some (.cells #[.int .i64 p,.int .i64 c] 121 (0,0))/\Below w w w5):=fun w5 hg=>by
      have hsz:w2.heap.size<=(w2.alloc (.cells #[.int .i64 k.ch] 3)).drew.heap.size:=by show _<=(w2.alloc _).heap.size;simp
      have hbs:=HC2.o.bw.size
      have hne:∀b,b<w.heap.size->some b≠(Value.slice a3 us.length cap3).ownBlock:=fun b hb e=>by
       have:=y2r HC2.o.own e.symm
       omega
      have hlt2:=HC2.o.inv.lt;refine⟨((HC2.o.inv.alloc (.cells #[.int .i64 k.ch] 3)).kept (w':=(w2.alloc (.cells #[.int .i64 k.ch] 3)).drew) fun _ _=>rfl).kept3 (hg.block _ (by omega) (hne _ hlt.1)) (hg.block _ (by omega) (hne _ hlt.2.1)) (hg.block _ (by omega) (hne _ hlt.2.2)),(hg.block b4 (by have:=HC2.o.lt;omega) (fun e=>HC2.o.apart e.symm rfl)).trans (hbx4 _),?_⟩;exact((HC2.o.bw.alloc hbs (.cells #[.int .i64 k.ch] 3)).drew).trans ⟨hg.os,hg.tape,hg.output,hg.size,fun b hb=>hg.block b (by omega) (hne b hb)⟩
     obtain⟨i0,hi0,hz0,hz1,hz2⟩:=info_parts j8u;have hownA:(w2.alloc (.cells #[.int .i64 k.ch] 3)).drew.ownsRow w.heap.size 3 1 (.slice a3 us.length cap3) us.length (q0w us):=z1c hC2.own fun b hb=>Below.heap_alloc w2 _ b (z1d hC2.own hb).1
     have hnews:∀j u,[Value.int .i64 (k.ch:Int)][j]?=some u->(w2.alloc (.cells #[.int .i64 k.ch] 3)).drew.cell? ((⟨w2,0,none⟩:Addr).add j)=some u:=World.news_of_block (cs:=#[.int .i64 k.ch]) (heap_alloc_new w2 (.cells #[.int .i64 k.ch] 3));have hone:∀u∈[Value.int .i64 (k.ch:Int)],u.oneCell'=true:=by intro u hu;simp at hu;subst hu;rfl
     have hl63:us.length+1<=maxLen:=by have:=hC2.len;unfold maxLen;omega
     have hl47:(us.length+1)*8<=140737488355328:=by have:=hC2.len;omega
     have hbs2:w.heap.size<=(w2.alloc (.cells #[.int .i64 k.ch] 3)).drew.heap.size:=by show _<=(w2.alloc _).heap.size;have:=hC2.bw.size;simp;omega
     have hH2:(w2.alloc (.cells #[.int .i64 k.ch] 3)).drew.heap.size=w2.heap.size+1:=by show(w2.alloc _).heap.size=_;simp
     clear hC2 hb2 hBx hSb hSa c0 p0 hbx4 x0 x1;go_wp2_with fail
     go_region_held3 (fun w'=>w'.cell? ⟨sb,2,none⟩=some (.map (some mb))/\w'.cell? ⟨b4,0,none⟩=some (.int .i64 p)/\w'.cell? ⟨b4,1,none⟩=some (.int .i64 c)/\(Instr.lookup 117 (.map (some mb)) (.agg #[.int .i64 (p:Int),.int .i64 (c:Int)]) false).run prog w'=.ok (.agg #[.int .i64 k.o,.int .i64 k.l,.int .i64 k.ch,.int .i64 k.np,.int .i64 k.nc]) w')
      (first|with_reducible exact hSc|with_reducible exact hSd _|with_reducible exact hSe)
      ((refine step_append_lies _ (by rfl) _ _ 43 (by rfl) w.heap.size 3 i0 _ 1 8 Tryz.underlying43 hi0 hz0 hz1 hz2 rfl (by decide) (.slice a3 us.length cap3) us.length (q0w us) (by rfl) hownA ⟨w2,0,none⟩ 1 1 [.int .i64 k.ch] (by rfl) rfl hnews hone (by decide) hl63 hl47 hbs2 (w2.heap.size+1) hH2 ?_;intro g3 cap5 w5 hown5 hgrow5 hat5 hlt5;obtain⟨hI5,hx5,hbw5⟩:=HG5.o w5 hgrow5;have hSe:=HSS.o w5 hI5 hx5))
     all_goals
      have HO5:Hid (w5.ownsRow w.heap.size 3 1 (.slice (some ⟨g3,0,none⟩) (us.length+1) cap5) (us++[(k.ch:Int)]).length (q0w (us++[(k.ch:Int)]))):=by
       show w5.ownsRow _ _ _ _ _ _;rw[k2m,List.length_append];exact hown5
      have HI5:Hid (Inv sb g mb wd (q0a t) w5 S):=hI5;have HBW5:Hid (Below w w w5):=hbw5;obtain⟨_,x0,x1,_⟩:=hSe;have m2:=fun O=>ka hI5.c2 O
      have hL:=fun O=>HLK.o (w5.alloc O).drew ((hI5.alloc O).kept fun _ _=>rfl)
      clear hSc hSd hown5 hgrow5 hat5 hlt5 hI5 hx5 hbw5 hownA hnews hone hl63 hl47 hbs2 hH2 hi0 hz0 hz1 hz2;go_wp2_with fail
      go_region
      all_goals
       go_wp2
       go_roundw
       case rel=>
        exact⟨_,_,_,_,rfl,((HNX.o w5 _ _ (by rw[HCH.o];rfl) HO5.o HI5.o HBW5.o).1).W Zb.drew⟩
       case measure=>
        have h5:=(HNX.o w5 _ _ (by rw[HCH.o];rfl) HO5.o HI5.o HBW5.o);have e5:chM (q0a t).length (.pointer (some ⟨b4,0,none⟩)) wr=(q0a t).length-p:=k9k HC.o.c0;have e6:chM (q0a t).length (.pointer (some ⟨w5,0,none⟩)) (w5.alloc (.cells #[.int .i64 k.np,.int .i64 k.nc] 121)).drew=(q0a t).length-k.np:=k9k h5.1.c0;have h6:=h5.2;rw[e5,e6];omega
  ·have hpI:¬(p:Int)<((q0a t).length:Int):=by omega
   have HE:Hid (us=(vv (q0a t) wd 0 0).2):=by
    have:=hC.way
    rw[y3f (by omega),List.append_nil]at this;exact this
   clear hC;go_wp2_with fail
   go_quiet (fail)
   go_wp2;go_ret;refine⟨⟨a3,cap3,?_,?_⟩,?_⟩
   ·rw[<-HE.o];rfl
   ·rw[<-HE.o];exact z1c HC.o.own fun _ _=>rfl
   ·exact k9f HC.o.bw _
def F1(R:List Pl)(k:Nat):Nat->Q:=fun j=>if k<=j then q1 (q1g R j)else q0
theorem y3k{R:List Pl}{i:Nat}:upd (F1 R (i+1)) i (q1 (q1g R i))=F1 R i:=by
 funext j
 simp only[upd,F1];by_cases e:j=i
 ·subst e;simp
 ·by_cases h:i+1<=j
  ·rw[if_neg e,if_pos h,if_pos (by omega)]
  ·rw[if_neg e,if_neg h,if_neg (by omega)]
structure Tl(R:List Pl)(L M i:Nat)(F:Nat->Q):Prop where
 op:∀j,j<R.length->(F j).op=(q1g R j).nd.op
 tx:∀j,j<R.length->(F j).tx=(q1g R j).nd.tx
 n:∀j,j<R.length->(F j).n=(q1g R j).nd.n
 en:∀j,j<R.length->(F j).en=(q1g R j).en
 nx:∀j,j<R.length->(j=0\/∃p,p<i/\j4z R L M p j)->(F j).nx=(q1g R j).nx
 dp:∀j,j<R.length->(j=0\/∃p,p<i/\j4z R L M p j)->(F j).dp=(q1g R j).dp
 lg:∀j,j<R.length->j<i->(F j).lg=(q1g R j).lg
 l0:∀j,j<R.length->i<=j->(F j).lg=0
theorem Tl.tell{R:List Pl}{L M i j:Nat}{F:Nat->Q}{x y:Int}(h:Tl R L M i F)(hx:x=(q1g R j).nx)(hy:y=(q1g R j).dp):Tl R L M i (upd F j {F j with nx:=x,dp:=y}) where
 op k hk:=by by_cases e:k=j;subst e;rw[q0o];exact h.op k hk;rw[q1b e];exact h.op k hk
 tx k hk:=by by_cases e:k=j;subst e;rw[q0o];exact h.tx k hk;rw[q1b e];exact h.tx k hk
 n k hk:=by by_cases e:k=j;subst e;rw[q0o];exact h.n k hk;rw[q1b e];exact h.n k hk
 en k hk:=by by_cases e:k=j;subst e;rw[q0o];exact h.en k hk;rw[q1b e];exact h.en k hk
 nx k hk hp:=by by_cases e:k=j;subst e;rw[q0o];exact hx;rw[q1b e];exact h.nx k hk hp
 dp k hk hp:=by by_cases e:k=j;subst e;rw[q0o];exact hy;rw[q1b e];exact h.dp k hk hp
 lg k hk hp:=by by_cases e:k=j;subst e;rw[q0o];exact h.lg k hk hp;rw[q1b e];exact h.lg k hk hp
 l0 k hk hp:=by by_cases e:k=j;subst e;rw[q0o];exact h.l0 k hk hp;rw[q1b e];exact h.l0 k hk hp
theorem Tl.next{R:List Pl}{L M i:Nat}{F:Nat->Q}(h:Tl R L M i F)(hp:∀j,j<R.length->j4z R L M i j->(F j).nx=(q1g R j).nx/\(F j).dp=(q1g R j).dp)(hl:(F i).lg=(q1g R i).lg):Tl R L M (i+1) F where
 op:=h.op
 tx:=h.tx
 n:=h.n
 en:=h.en
 nx k hk hq:=by
  rcases hq with e|⟨p,hp1,hp2⟩
  ·exact h.nx k hk (.inl e)
  ·by_cases e:p=i
   ·subst e;exact(hp k hk hp2).1
   ·exact h.nx k hk (.inr ⟨p,by omega,hp2⟩)
 dp k hk hq:=by
  rcases hq with e|⟨p,hp1,hp2⟩
  ·exact h.dp k hk (.inl e)
  ·by_cases e:p=i
   ·subst e;exact(hp k hk hp2).2
   ·exact h.dp k hk (.inr ⟨p,by omega,hp2⟩)
 lg k hk hq:=by
  by_cases e:k=i
  ·subst e;exact hl
  ·exact h.lg k hk (by omega)
 l0 k hk hq:=h.l0 k hk (by omega)
theorem Tl.setLg{R:List Pl}{L M i:Nat}{F:Nat->Q}{x:Int}(h:Tl R L M i F):Tl R L M i F->∀k,k<R.length->(upd F i {F i with lg:=x} k).op=(F k).op/\(upd F i {F i with lg:=x} k).tx=(F k).tx/\(upd F i {F i with lg:=x} k).n=(F k).n/\(upd F i {F i with lg:=x} k).en=(F k).en/\(upd F i {F i with lg:=x} k).nx=(F k).nx/\(upd F i {F i with lg:=x} k).dp=(F k).dp:=by
 intro _ k _;by_cases e:k=i
 ·subst e;rw[q0o];exact⟨rfl,rfl,rfl,rfl,rfl,rfl⟩
 ·rw[q1b e];exact⟨rfl,rfl,rfl,rfl,rfl,rfl⟩
theorem Tl.nextLg{R:List Pl}{L M i:Nat}{F:Nat->Q}(h:Tl R L M i F)(hp:∀j,j<R.length->j4z R L M i j->(F j).nx=(q1g R j).nx/\(F j).dp=(q1g R j).dp):Tl R L M (i+1) (upd F i {F i with lg:=(q1g R i).lg}) where
 op k hk:=by rw[(h.setLg h k hk).1];exact h.op k hk
 tx k hk:=by rw[(h.setLg h k hk).2.1];exact h.tx k hk
 n k hk:=by rw[(h.setLg h k hk).2.2.1];exact h.n k hk
 en k hk:=by rw[(h.setLg h k hk).2.2.2.1];exact h.en k hk
 nx k hk hq:=by
  rw[(h.setLg h k hk).2.2.2.2.1];rcases hq with e|⟨p,hp1,hp2⟩
  ·exact h.nx k hk (.inl e)
  ·by_cases e:p=i
   ·subst e;exact(hp k hk hp2).1
   ·exact h.nx k hk (.inr ⟨p,by omega,hp2⟩)
 dp k hk hq:=by
  rw[(h.setLg h k hk).2.2.2.2.2];rcases hq with e|⟨p,hp1,hp2⟩
  ·exact h.dp k hk (.inl e)
  ·by_cases e:p=i
   ·subst e;exact(hp k hk hp2).2
   ·exact h.dp k hk (.inr ⟨p,by omega,hp2⟩)
 lg k hk hq:=by
  by_cases e:k=i
  ·subst e;rw[q0o]
  ·rw[q1b e];exact h.lg k hk (by omega)
 l0 k hk hq:=by rw[q1b (by omega)];exact h.l0 k hk (by omega)
theorem Tl.all{t:Tr}{F:Nat->Q}(ht:t.Wf)(h:Tl (q0a t) t.lf t.dsum (q0a t).length F):∀j,j<(q0a t).length->F j=q2 (q1g (q0a t) j):=by
 intro j hj
 have hq:j=0\/∃p,p<(q0a t).length/\j4z (q0a t) t.lf t.dsum p j:=by
  rcases Nat.eq_zero_or_pos j with e|e
  ·exact .inl e
  ·obtain⟨p,hp,hpp⟩:=k3v ht e hj;exact .inr ⟨p,by omega,hpp⟩
 have h1:=h.op j hj;have h2:=h.tx j hj;have h3:=h.n j hj;have h4:=h.en j hj;have h5:=h.nx j hj hq;have h6:=h.dp j hj hq;have h7:=h.lg j hj hj;unfold q2;rw[<-h1,<-h2,<-h3,<-h4,<-h5,<-h6,<-h7]
theorem Tl.start{t:Tr}:Tl (q0a t) t.lf t.dsum 0 (upd (F1 (q0a t) 0) 0 {F1 (q0a t) 0 0 with nx:=t.sz}):=by
 have hF:∀j,F1 (q0a t) 0 j=q1 (q1g (q0a t) j):=fun j=>by simp[F1]
 have e0:q1g (q0a t) 0=z7z t 0 t.sz 0 []:=by
  obtain⟨r,e⟩:=v1r t 0 t.sz 0 [];rw[q1g,List.getD,q0a,e];rfl
 have hk:∀(P:Q->Prop)k,(k=0->P {F1 (q0a t) 0 0 with nx:=t.sz})->(k≠0->P (F1 (q0a t) 0 k))->P (upd (F1 (q0a t) 0) 0 {F1 (q0a t) 0 0 with nx:=t.sz} k):=by
  intro P k h1 h2;by_cases e:k=0
  ·subst e;rw[q0o];exact h1 rfl
  ·rw[q1b e];exact h2 e
 refine⟨fun j _=>?_,fun j _=>?_,fun j _=>?_,fun j _=>?_,fun j _ hq=>?_,fun j _ hq=>?_,fun j _ hq=>?_,fun j _ _=>?_⟩
 ·refine hk (fun q=>q.op=_) j (fun e=>?_) (fun _=>?_)
  ·subst e;rw[hF];rfl
  ·rw[hF];rfl
 ·refine hk (fun q=>q.tx=_) j (fun e=>?_) (fun _=>?_)
  ·subst e;rw[hF];rfl
  ·rw[hF];rfl
 ·refine hk (fun q=>q.n=_) j (fun e=>?_) (fun _=>?_)
  ·subst e;rw[hF];rfl
  ·rw[hF];rfl
 ·refine hk (fun q=>q.en=_) j (fun e=>?_) (fun _=>?_)
  ·subst e;rw[hF];rfl
  ·rw[hF];rfl
 ·rcases hq with e|⟨p,hp,_⟩
  ·subst e;rw[q0o,e0];rfl
  ·omega
 ·rcases hq with e|⟨p,hp,_⟩
  ·subst e;rw[q0o,hF,e0];rfl
  ·omega
 ·omega
 ·refine hk (fun q=>q.lg=0) j (fun e=>?_) (fun _=>?_)
  ·rw[hF];rfl
  ·rw[hF];rfl
theorem y4j{R:List Pl}{L M i nx dp:Nat}{ks:List (Nat × Tr)}{t:Tr}(bp g:Nat)(F:Nat->Q)(w:World)(hR:R.length<=400)(hM:M<=3200)(h:Sp R L M i t nx dp ks)(hT:Tl R L M i F)(h0:i=0\/∃p,p<i/\j4z R L M p i)(hbg:bp≠g)
  (c0:w.cell? ⟨bp,0,none⟩=some (.slice (some ⟨g,0,none⟩) R.length R.length)) (hp:PwR w g R.length F):
  Calls prog 108 #[.pointer (some ⟨bp,0,none⟩),.int .i64 i] w fun e w'=>e=.returned (.tuple #[])/\(∃F',PwR w' g R.length F'/\Tl R L M i F'/\∀j,j<R.length->j4z R L M i j->(F' j).nx=(q1g R j).nx/\(F' j).dp=(q1g R j).dp)/\q0p w g w w':=by
 have hi:=h.lt;have ha:=h.at;have fop:=hT.op i hi;have fn:=hT.n i hi;have fnx:=hT.nx i hi h0;have fdp:=hT.dp i hi h0;rw[ha]at fop fn fnx fdp;have hbd:=h.bd;cases t with
 | leaf x=>
  have fop':(F i).op=x.op:=fop
  have hne:∀k:Int,k=6\/k=9\/k=7\/k=8->((F i).op==k)=false:=fun k hk=>beq_eq_false_iff_ne.2 (by
   rw[fop']
   rcases q5o h.wf.1 h.wf.2 with e|e|e|e|e<;>omega)
  refine(v5p bp g R.length i F w hi c0 hp (hne 6 (by omega)) (hne 9 (by omega)) (hne 7 (by omega)) (hne 8 (by omega))).mono ?_;rintro e w2⟨rfl,h2,hb⟩;refine⟨rfl,⟨F,h2,hT,fun j hj hpt=>?_⟩,hb⟩;rcases hpt with⟨x',a',_,_,_,hs,_⟩|⟨x',a',b',_,_,_,hs,_⟩
  ·have:=hs.at;rw[ha]at this;simp[z7z]at this
  ·have:=hs.at;rw[ha]at this;simp[z7z]at this
 | one x a=>
  have fop':(F i).op=x.op:=fop;have fn':(F i).n=x.n:=fn;have fnx':(F i).nx=(nx:Int):=fnx;have fdp':(F i).dp=(dp:Int):=fdp;have hs:=h.one;have hn8:0<=x.n/\x.n<=8:=by have:=q2b h.wf.1;omega
  have ex:IntKind.i64.wrap ((F i).dp+(F i).n)=((dp+x.n.toNat:Nat):Int):=by
   rw[fdp',fn',IntKind.wrap_i64];omega
  refine(y4k bp g R.length i F w hR hs.lt c0 hp (by rw[fop'];exact z3e h.wf.2.1) _ ex).mono ?_;rintro e w2⟨rfl,h2,hb⟩;have e1:(F i).nx=(q1g R (i+1)).nx:=by rw[fnx',hs.at];rfl
  have e2:((dp+x.n.toNat:Nat):Int)=(q1g R (i+1)).dp:=by rw[hs.at];rfl
  refine⟨rfl,⟨_,h2,hT.tell e1 e2,fun j hj hpt=>?_⟩,hb⟩
  have hj1:j=i+1:=by
   rcases hpt with⟨x',a',_,_,_,hs',e⟩|⟨x',a',b',_,_,_,hs',_⟩
   ·exact e
   ·have:=hs'.at;rw[ha]at this;simp[z7z]at this
  subst hj1;rw[q0o];exact⟨e1,e2⟩
 | two x a b=>
  have fop':(F i).op=x.op:=fop;have fnx':(F i).nx=(nx:Int):=fnx;have fdp':(F i).dp=(dp:Int):=fdp;have hs2:=h.two2
  have hpart:∀j,j4z R L M i j->j=i+1\/j=i+1+a.sz:=fun j hpt=>by
   rcases hpt with⟨x',a',_,_,_,hs',_⟩|⟨x',a',b',_,_,_,hs',e⟩
   ·have:=hs'.at;rw[ha]at this;simp[z7z]at this
   ·have:=hs'.at
    rw[ha]at this;simp only[z7z,Pl.mk.injEq,Tr.two.injEq]at this;rw[this.2.2.2.2.2.1.2.1];exact e
  rcases z1m h.wf.2.1 with e|e
  ·have hs:=h.both1 e;have fen:(F (i+1)).en=((i+1+a.sz:Nat):Int):=by rw[hT.en _ hs.lt,hs.at];rfl
   refine(y4l bp g R.length i (i+1+a.sz) F w hR hs.lt hs2.lt hbg c0 hp (by rw[fop',e]) fen).mono ?_;rintro e w2⟨rfl,h2,hb⟩;have e1:((i+1+a.sz:Nat):Int)=(q1g R (i+1)).nx:=by rw[hs.at];rfl
   have e2:(F i).dp=(q1g R (i+1)).dp:=by rw[fdp',hs.at];rfl
   have e3:(F i).nx=(q1g R (i+1+a.sz)).nx:=by rw[fnx',hs2.at];rfl
   have e4:(F i).dp=(q1g R (i+1+a.sz)).dp:=by rw[fdp',hs2.at];rfl
   refine⟨rfl,⟨_,h2,(hT.tell e1 e2).tell e3 e4,fun j hj hpt=>?_⟩,hb⟩;have hp2:=j1s a;rcases hpart j hpt with rfl|rfl
   ·rw[q1b (by omega),q0o];exact⟨e1,e2⟩
   ·rw[q0o];exact⟨e3,e4⟩
  ·have hs:=h.either1 (by omega);have fen:(F (i+1)).en=((i+1+a.sz:Nat):Int):=by rw[hT.en _ hs.lt,hs.at];rfl
   refine(v5q bp g R.length i (i+1+a.sz) F w hR hs.lt hs2.lt hbg c0 hp (by rw[fop',e]) fen).mono ?_;rintro e w2⟨rfl,h2,hb⟩;have e1:(F i).nx=(q1g R (i+1)).nx:=by rw[fnx',hs.at];rfl
   have e2:(F i).dp=(q1g R (i+1)).dp:=by rw[fdp',hs.at];rfl
   have e3:(F i).nx=(q1g R (i+1+a.sz)).nx:=by rw[fnx',hs2.at];rfl
   have e4:(F i).dp=(q1g R (i+1+a.sz)).dp:=by rw[fdp',hs2.at];rfl
   refine⟨rfl,⟨_,h2,(hT.tell e1 e2).tell e3 e4,fun j hj hpt=>?_⟩,hb⟩;have hp2:=j1s a;rcases hpart j hpt with rfl|rfl
   ·rw[q1b (by omega),q0o];exact⟨e1,e2⟩
   ·rw[q0o];exact⟨e3,e4⟩
end Go.Proofs.YthcpdohdppkmkaaGreatDoor
