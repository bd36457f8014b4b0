import Derived.Test.YthcpdohdppkmkaaGreatDoorPl13
open Go.Proofs.Tryz
namespace Go.Proofs.YthcpdohdppkmkaaGreatDoor
open Go Go.RowKit
set_option maxRecDepth 100000
set_option maxHeartbeats 4000000
theorem z0o{w:World}{B e A n k:Nat}{v:Value}{xs:List Value}(h:w.ownsRow B e A v n xs)(hk:v.ownBlock=some k):k<w.heap.size/\∃cur,w.heap[k]?=some (.cells cur e (0,0)):=by
 rcases h.2 with⟨rfl,_⟩|⟨g,c,cur,rfl,_,C,_⟩
 ·simp[Value.ownBlock]at hk
 ·simp only[Value.ownBlock,Option.some.injEq]at hk;subst hk;exact⟨(Array.getElem?_eq_some_iff.1 C).1,cur,C⟩
theorem v9d{w:World}{B e A n k:Nat}{v:Value}{xs:List Value}(h:w.ownsRow B e A v n xs)(hk:v.ownBlock=some k):B<=k:=by
 rcases h.2 with⟨rfl,_⟩|⟨g,c,C,rfl,D,_⟩
 ·simp[Value.ownBlock]at hk
 ·simp only[Value.ownBlock,Option.some.injEq]at hk;subst hk;exact D
theorem z0n{w w':World}{B e A n:Nat}{v:Value}{xs:List Value}(h:w.ownsRow B e A v n xs)(hk:∀k,v.ownBlock=some k->w'.heap[k]?=w.heap[k]?):w'.ownsRow B e A v n xs:=by
 refine⟨h.1,?_⟩;rcases h.2 with E|⟨g,c,D,rfl,G,H,C⟩
 ·exact .inl E
 ·exact .inr ⟨g,c,D,rfl,G,(hk g rfl).trans H,C⟩
structure ChR(sb g mb wd:Nat)(R:List Pl)(S:Nat->Nat->Bool)(w wr:World)(v3:Value)(b4 p c:Nat)(us:List Int):Prop where
 own:wr.ownsRow w.heap.size 3 1 v3 us.length (q0j us)
 box:wr.heap[b4]?=some (.cells #[.int .i64 p,.int .i64 c] 121 (0,0))
 lo:w.heap.size<=b4
 pl:p<=R.length
 cl:c<=wd
 inS:p<R.length->S p c=true
 way:us++(vv R wd p c).2=(vv R wd 0 0).2
 len:us.length<=p
 inv:Inv sb g mb wd R wr S
 bw:Below w w wr
section
variable {sb g mb wd b4 p c:Nat} {R:List Pl} {S:Nat→Nat→Bool} {w wr wx:World} {v3:Value} {us:List Int}
theorem ChR.c0(h:ChR sb g mb wd R S w wr v3 b4 p c us):wr.cell? ⟨b4,0,none⟩=some (.int .i64 p):=by simp[World.cell?,h.box]
theorem ChR.c1(h:ChR sb g mb wd R S w wr v3 b4 p c us):wr.cell? ⟨b4,1,none⟩=some (.int .i64 c):=by simp[World.cell?,h.box]
theorem ChR.lt(h:ChR sb g mb wd R S w wr v3 b4 p c us):b4<wr.heap.size:=World.block_lt_of_cell? wr ⟨b4,0,none⟩ h.c0
theorem ChR.form(h:ChR sb g mb wd R S w wr v3 b4 p c us):∃a cap,v3=.slice a us.length cap:=by
 rcases h.own.2 with⟨A,C⟩|⟨g,c,B,A,_⟩
 ·exact⟨none,0,by rw[A,C]⟩
 ·exact⟨_,c,A⟩
theorem ChR.apart(h:ChR sb g mb wd R S w wr v3 b4 p c us){k:Nat}(hk:v3.ownBlock=some k):k≠b4:=by
 intro e;subst e;obtain⟨_,B,A⟩:=z0o h.own hk;rw[h.box]at A;cases A
theorem ChR.W(h:ChR sb g mb wd R S w wr v3 b4 p c us)(hb:Below wr wr wx):ChR sb g mb wd R S w wx v3 b4 p c us:=
 ⟨z0n h.own fun k hk=>hb.block k (z0o h.own hk).1,(hb.block _ h.lt).trans h.box,h.lo,h.pl,h.cl,h.inS,h.way,h.len,h.inv.W hb,h.bw.trans (hb.mono h.bw.size)⟩
end
def chM(n:Nat)(v:Value)(wr:World):Nat:=match v with
 | .pointer (some a)=>(match wr.cell? a with|some (.int _ p)=>n-p.toNat|_=>0)
 | _=>0
theorem k5z{n b p:Nat}{wr:World}(h:wr.cell? ⟨b,0,none⟩=some (.int .i64 (p:Int))):chM n (.pointer (some ⟨b,0,none⟩)) wr=n-p:=by
 simp[chM,h]
theorem v2r{sb g mb wd p c L M nx dp:Nat}{R:List Pl}{S:Nat->Nat->Bool}{w W:World}{v:Value}{us A:List Int}{ks:List (Nat × Tr)}{t:Tr}(G:Sp R L M p t nx dp ks)(hc:c<=wd)(hw:wd<=100)(hL:L<=400)(hM:M<=3200)(D:us++(vv R wd p c).2=(vv R wd 0 0).2)(O:us.length<=p)(hS:S p c=true)
  (H:A=us++(if z1s t.root.op=true then [((crs R wd p c).ch:Int)]else [])) (C:W.ownsRow w.heap.size 3 1 v A.length (q0j A)) (B:Inv sb g mb wd R W S) (E:Below w w W):
  ChR sb g mb wd R S w (W.alloc (.cells #[.int .i64 (crs R wd p c).np,.int .i64 (crs R wd p c).nc] 121)) v W.heap.size (crs R wd p c).np (crs R wd p c).nc A/\p<(crs R wd p c).np:=by
 obtain⟨Q,ch,_,N⟩:=j3k G hc;have K:=j6u (ch:=ch) G hc hw hL hM;have I:(crs R wd p c).np=(q3i R wd p c ch).np:=by rw[N];rfl
 have P:(crs R wd p c).nc=(q3i R wd p c ch).nc:=by rw[N];rfl
 have J:=K.lo;refine⟨⟨z0n C fun k hk=>Below.heap_alloc _ _ _ (z0o C hk).1,heap_alloc_new W _,E.size,by rw[I];exact K.hi,by rw[P];exact K.cl,fun hl=>(B.cl p c hS).2.2 hl,?_,?_,B.alloc _,E.alloc E.size _⟩,by rw[I];exact J⟩
 ·rw[Q]at D;rw[H,List.append_assoc];exact D
 ·rw[H,I]
  split<;>simp<;>omega
theorem k0f{t:Tr}{wd:Nat}(sb g mb:Nat)(ht:t.Wf)(hn:t.sz<=400)(hw:wd<=100)(w:World)(S:Nat->Nat->Bool)(h:Inv sb g mb wd (q0a t) w S)(h0:S 0 0=true):
  Calls prog 64 #[.pointer (some ⟨sb,0,none⟩)] w fun e w'=>(∃a cap,e=.returned (.slice a (vv (q0a t) wd 0 0).2.length cap)/\w'.ownsRow w.heap.size 3 1 (.slice a (vv (q0a t) wd 0 0).2.length cap) (vv (q0a t) wd 0 0).2.length (q0j (vv (q0a t) wd 0 0).2))/\Below w w w':=by
 have HI:Hid (Inv sb g mb wd (q0a t) w S):=h;have H0:Hid (S 0 0=true):=h0;have Ai:=h.lt;have hR:(q0a t).length<=400:=by rw[q2y];exact hn
 have A5:Hid (∃R,R=q0a t):=⟨_,rfl⟩
 have A1:Hid (∀W:World,W=w.alloc (.cells #[.int .i64 0,.int .i64 0] 121)->ChR sb g mb wd (q0a t) S w W (.slice none 0 0) w.heap.size 0 0 []):=fun W hW=>by
  subst hW;exact⟨⟨rfl,.inl ⟨rfl,rfl⟩⟩,heap_alloc_new w _,Nat.le_refl _,Nat.zero_le _,Nat.zero_le _,fun _=>H0.o,rfl,Nat.le_refl _,HI.o.alloc _,(Below.refl _ w).alloc Zl _⟩
 clear h h0;go_in;go_wp2_with fail
 go_loopw [3,4] (fun v3 v4 wr=>∃G p c E,v4=.pointer (some ⟨G,0,none⟩)/\ChR sb g mb wd (q0a t) S w wr v3 G p c E) (fun _ v4 wr=>chM (q0a t).length v4 wr)
 case atStart=>exact⟨_,0,0,[],rfl,A1.o _ rfl⟩
 case round=>
  obtain⟨G,p,c,E,rfl,y⟩:=hrel;obtain⟨x,D,rfl⟩:=y.form;have M:Hid (ChR sb g mb wd (q0a t) S w wr (.slice x E.length D) G p c E):=y;have c0:=y.inv.pl.c0;have p0:=y.c0;by_cases hp:p<(q0a t).length
  ·have A3:(p:Int)<((q0a t).length:Int):=by omega
   obtain⟨t',nx,dp,ks,Ak⟩:=j9s ht hp;have A0:Hid (Sp (q0a t) t.lf t.dsum p t' nx dp ks):=Ak;have Aj:p<=400:=by omega
   have Ah:c<=100:=by have:=y.cl;omega
   have HQ:Hid (∀W,Below wr wr W->W.cell? ⟨sb,0,none⟩=some (.slice (some ⟨g,0,none⟩) (q0a t).length (q0a t).length)/\W.cell? ⟨G,0,none⟩=some (.int .i64 p)/\W.cell? ⟨g,p*7,none⟩=some (.int .i64 (q2 (q1p (q0a t) p)).op)/\W.cell? ⟨g,p*7+1,none⟩=some (.string (q2 (q1p (q0a t) p)).tx)/\W.cell? ⟨g,p*7+2,none⟩=some (.int .i64 (q2 (q1p (q0a t) p)).n)/\W.cell? ⟨g,p*7+3,none⟩=some (.int .i64 (q2 (q1p (q0a t) p)).en)/\W.cell? ⟨g,p*7+4,none⟩=some (.int .i64 (q2 (q1p (q0a t) p)).nx)/\W.cell? ⟨g,p*7+5,none⟩=some (.int .i64 (q2 (q1p (q0a t) p)).dp)/\W.cell? ⟨g,p*7+6,none⟩=some (.int .i64 (q2 (q1p (q0a t) p)).lg)):=fun W hW=>by
    have A:=M.o.W hW;obtain⟨d0,d1,d2,d3,d4,d5,d6⟩:=A.inv.pl.pr.get p hp;exact⟨A.inv.pl.c0,A.c0,d0,d1,d2,d3,d4,d5,d6⟩
   have r:(q2 (q1p (q0a t) p)).op=t'.root.op:=by rw[Ak.at];rfl
   have Af:Hid (∀W,Inv sb g mb wd (q0a t) W S->(Instr.lookup 117 (.map (some mb)) (.agg #[.int .i64 (p:Int),.int .i64 (c:Int)]) false).run prog W=.ok (.agg #[.int .i64 (crs (q0a t) wd p c).o,.int .i64 (crs (q0a t) wd p c).l,.int .i64 (crs (q0a t) wd p c).ch,.int .i64 (crs (q0a t) wd p c).np,.int .i64 (crs (q0a t) wd p c).nc]) W):=fun W hW=>by
    have:=hW.me.look (p:=p) (c:=c) Aj Ah
    rw[M.o.inS hp,if_pos rfl]at this;exact this
   have A7:=j3y;have A6:=k3o;have A8:(0:Int)<=(p:Int):=by omega
   have i:Hid (∀(W:World)(v:Value)(us':List Int),us'=E++(if z1s t'.root.op=true then [((crs (q0a t) wd p c).ch:Int)]else [])->W.ownsRow w.heap.size 3 1 v us'.length (q0j us')->Inv sb g mb wd (q0a t) W S->Below w w W->ChR sb g mb wd (q0a t) S w (W.alloc (.cells #[.int .i64 (crs (q0a t) wd p c).np,.int .i64 (crs (q0a t) wd p c).nc] 121)) v W.heap.size (crs (q0a t) wd p c).np (crs (q0a t) wd p c).nc us'/\p<(crs (q0a t) wd p c).np):=fun W v us' e1 e2 e3 e4=>
    v2r A0.o M.o.cl hw (by have:=q9l t;unfold Tr.sz at hn;omega) (by have:=q9l t;unfold Tr.sz at hn;omega) M.o.way M.o.len (M.o.inS hp) e1 e2 e3 e4
   clear y Ak;generalize q2 (q1p (q0a t) p)=q at *;generalize crs (q0a t) wd p c=k at *;cases L:z1s q.op with
   | false=>
    have Ae:Hid (∀W,Calls prog 111 #[.agg #[.int .i64 q.op,.string q.tx,.int .i64 q.n,.int .i64 q.en,.int .i64 q.nx,.int .i64 q.dp,.int .i64 q.lg]] W fun e w'=>e=.returned (.bool false)/\Below W W w'):=fun W=>by have:=q9u q.op q.tx q.n q.en q.nx q.dp q.lg W;rw[L]at this;exact this
    have P:Hid (z1s t'.root.op=false):=by rw[<-r];exact L
    clear L r;go_wp2_with fail
    go_quiet (fail)
    go_wp2_with fail;have J:Below wr wr (wr.drewN nq):=k5v (Below.refl _ wr) nq;generalize wr.drewN nq=w1 at *;have U:=HQ.o w1.drew J.drew;have N:Hid (Below wr wr w1):=J;clear J
    go_region_held3 (fun w'=>w'.cell? ⟨sb,0,none⟩=some (.slice (some ⟨g,0,none⟩) (q0a t).length (q0a t).length)/\w'.cell? ⟨G,0,none⟩=some (.int .i64 p)/\w'.cell? ⟨g,p*7,none⟩=some (.int .i64 q.op)/\w'.cell? ⟨g,p*7+1,none⟩=some (.string q.tx)/\w'.cell? ⟨g,p*7+2,none⟩=some (.int .i64 q.n)/\w'.cell? ⟨g,p*7+3,none⟩=some (.int .i64 q.en)/\w'.cell? ⟨g,p*7+4,none⟩=some (.int .i64 q.nx)/\w'.cell? ⟨g,p*7+5,none⟩=some (.int .i64 q.dp)/\w'.cell? ⟨g,p*7+6,none⟩=some (.int .i64 q.lg))
     (first|with_reducible exact U|with_reducible exact V)
     ((go_at_call 111;refine(Ae.o w1.drew).mono ?_;rintro e B⟨rfl,X⟩;have I:Below wr wr B:=N.o.drew.trans (X.mono N.o.size);have V:=HQ.o B I))
    all_goals
     have A:=M.o.W I;have C:Hid (ChR sb g mb wd (q0a t) S w B (.slice x E.length D) G p c E):=A;have x0:=A.c0;have x1:=A.c1;have m2:=fun O=>ka A.inv.c2 O
     have hL:=fun O=>Af.o (B.alloc O).drew ((A.inv.alloc O).kept fun _ _=>rfl)
     clear A X I V U c0 p0;go_wp2_with fail
     go_region
     all_goals
      go_wp2
      go_roundw
      case rel=>
       exact⟨_,_,_,E,rfl,((i.o B _ E (by rw[P.o];simp) C.o.own C.o.inv C.o.bw).1).W Zb.drew⟩
      case measure=>
       have h5:=(i.o B _ E (by rw[P.o];simp) C.o.own C.o.inv C.o.bw);have e5:chM (q0a t).length (.pointer (some ⟨G,0,none⟩)) wr=(q0a t).length-p:=k5z M.o.c0;have e6:chM (q0a t).length (.pointer (some ⟨B,0,none⟩)) (B.alloc (.cells #[.int .i64 k.np,.int .i64 k.nc] 121)).drew=(q0a t).length-k.np:=k5z h5.1.c0;have h6:=h5.2;rw[e5,e6];omega
   | true=>
    have Ae:Hid (∀W,Calls prog 111 #[.agg #[.int .i64 q.op,.string q.tx,.int .i64 q.n,.int .i64 q.en,.int .i64 q.nx,.int .i64 q.dp,.int .i64 q.lg]] W fun e w'=>e=.returned (.bool true)/\Below W W w'):=fun W=>by have:=q9u q.op q.tx q.n q.en q.nx q.dp q.lg W;rw[L]at this;exact this
    have P:Hid (z1s t'.root.op=true):=by rw[<-r];exact L
    clear L r;go_wp2_with fail
    go_quiet (fail)
    go_wp2_with fail;have J:Below wr wr (wr.drewN nq):=k5v (Below.refl _ wr) nq;generalize wr.drewN nq=w1 at *;have U:=HQ.o w1.drew J.drew;have N:Hid (Below wr wr w1):=J;clear J
    go_region_held3 (fun w'=>w'.cell? ⟨sb,0,none⟩=some (.slice (some ⟨g,0,none⟩) (q0a t).length (q0a t).length)/\w'.cell? ⟨G,0,none⟩=some (.int .i64 p)/\w'.cell? ⟨g,p*7,none⟩=some (.int .i64 q.op)/\w'.cell? ⟨g,p*7+1,none⟩=some (.string q.tx)/\w'.cell? ⟨g,p*7+2,none⟩=some (.int .i64 q.n)/\w'.cell? ⟨g,p*7+3,none⟩=some (.int .i64 q.en)/\w'.cell? ⟨g,p*7+4,none⟩=some (.int .i64 q.nx)/\w'.cell? ⟨g,p*7+5,none⟩=some (.int .i64 q.dp)/\w'.cell? ⟨g,p*7+6,none⟩=some (.int .i64 q.lg))
     (first|with_reducible exact U|with_reducible exact V)
     ((go_at_call 111;refine(Ae.o w1.drew).mono ?_;rintro e B⟨rfl,X⟩;have I:Below wr wr B:=N.o.drew.trans (X.mono N.o.size);have V:=HQ.o B I))
    all_goals
     have A:=M.o.W I;have C:Hid (ChR sb g mb wd (q0a t) S w B (.slice x E.length D) G p c E):=A;have x0:=A.c0;have x1:=A.c1;have Ag:Hid (∀W,Inv sb g mb wd (q0a t) W S->W.heap[G]?=some (.cells #[.int .i64 p,.int .i64 c] 121 (0,0))->W.cell? ⟨sb,2,none⟩=some (.map (some mb))/\W.cell? ⟨G,0,none⟩=some (.int .i64 p)/\W.cell? ⟨G,1,none⟩=some (.int .i64 c)/\(Instr.lookup 117 (.map (some mb)) (.agg #[.int .i64 (p:Int),.int .i64 (c:Int)]) false).run prog W=.ok (.agg #[.int .i64 k.o,.int .i64 k.l,.int .i64 k.ch,.int .i64 k.np,.int .i64 k.nc]) W):=fun W h1 h2=>⟨h1.c2,by simp[World.cell?,h2],by simp[World.cell?,h2],Af.o W h1⟩
     have Y:∀O,(B.alloc O).drew.heap[G]?=some (.cells #[.int .i64 p,.int .i64 c] 121 (0,0)):=fun O=>(Below.heap_alloc B O G A.lt).trans A.box
     have Ap:=Ag.o B.drew (A.inv.kept fun _ _=>rfl) A.box;have Aq:=fun O=>Ag.o (B.alloc O).drew ((A.inv.alloc O).kept fun _ _=>rfl) (Y O)
     have Az:Hid (∀H,(B.alloc (.cells #[.int .i64 k.ch] 3)).drew.grownBy H (Value.slice x E.length D).ownBlock->Inv sb g mb wd (q0a t) H S/\H.heap[G]?=some (.cells #[.int .i64 p,.int .i64 c] 121 (0,0))/\Below w w H):=fun H hg=>by
      have A9:B.heap.size<=(B.alloc (.cells #[.int .i64 k.ch] 3)).drew.heap.size:=by show _<=(B.alloc _).heap.size;simp
      have A2:=C.o.bw.size
      have m:∀b,b<w.heap.size->some b≠(Value.slice x E.length D).ownBlock:=fun b hb e=>by
       have:=v9d C.o.own e.symm
       omega
      have A4:=C.o.inv.lt;refine⟨((C.o.inv.alloc (.cells #[.int .i64 k.ch] 3)).kept (w':=(B.alloc (.cells #[.int .i64 k.ch] 3)).drew) fun _ _=>rfl).kept3 (hg.block _ (by omega) (m _ Ai.1)) (hg.block _ (by omega) (m _ Ai.2.1)) (hg.block _ (by omega) (m _ Ai.2.2)),(hg.block G (by have:=C.o.lt;omega) (fun e=>C.o.apart e.symm rfl)).trans (Y _),?_⟩;exact((C.o.bw.alloc A2 (.cells #[.int .i64 k.ch] 3)).drew).trans ⟨hg.os,hg.tape,hg.output,hg.size,fun b hb=>hg.block b (by omega) (m b hb)⟩
     obtain⟨i0,At,Aw,Ax,Ay⟩:=info_parts k3v;have f:(B.alloc (.cells #[.int .i64 k.ch] 3)).drew.ownsRow w.heap.size 3 1 (.slice x E.length D) E.length (q0j E):=z0n A.own fun b hb=>Below.heap_alloc B _ b (z0o A.own hb).1
     have Z:∀j u,[Value.int .i64 (k.ch:Int)][j]?=some u->(B.alloc (.cells #[.int .i64 k.ch] 3)).drew.cell? ((⟨B,0,none⟩:Addr).add j)=some u:=World.news_of_block (cs:=#[.int .i64 k.ch]) (heap_alloc_new B (.cells #[.int .i64 k.ch] 3));have Ad:∀u∈[Value.int .i64 (k.ch:Int)],u.oneCell'=true:=by intro u hu;simp at hu;subst hu;rfl
     have Ac:E.length+1<=maxLen:=by have:=A.len;unfold maxLen;omega
     have Ab:(E.length+1)*8<=140737488355328:=by have:=A.len;omega
     have z:w.heap.size<=(B.alloc (.cells #[.int .i64 k.ch] 3)).drew.heap.size:=by show _<=(B.alloc _).heap.size;have:=A.bw.size;simp;omega
     have Ao:(B.alloc (.cells #[.int .i64 k.ch] 3)).drew.heap.size=B.heap.size+1:=by show(B.alloc _).heap.size=_;simp
     clear A X I V U c0 p0 Y x0 x1;go_wp2_with fail
     go_region_held3 (fun w'=>w'.cell? ⟨sb,2,none⟩=some (.map (some mb))/\w'.cell? ⟨G,0,none⟩=some (.int .i64 p)/\w'.cell? ⟨G,1,none⟩=some (.int .i64 c)/\(Instr.lookup 117 (.map (some mb)) (.agg #[.int .i64 (p:Int),.int .i64 (c:Int)]) false).run prog w'=.ok (.agg #[.int .i64 k.o,.int .i64 k.l,.int .i64 k.ch,.int .i64 k.np,.int .i64 k.nc]) w')
      (first|with_reducible exact Ap|with_reducible exact Aq _|with_reducible exact Ar)
      ((refine step_append_lies _ (by rfl) _ _ 43 (by rfl) w.heap.size 3 i0 _ 1 8 Tryz.underlying43 At Aw Ax Ay rfl (by decide) (.slice x E.length D) E.length (q0j E) (by rfl) f ⟨B,0,none⟩ 1 1 [.int .i64 k.ch] (by rfl) rfl Z Ad (by decide) Ac Ab z (B.heap.size+1) Ao ?_;intro g3 An H d K As Au;obtain⟨Q,Av,Aa⟩:=Az.o H K;have Ar:=Ag.o H Q Av))
     all_goals
      have Am:Hid (H.ownsRow w.heap.size 3 1 (.slice (some ⟨g3,0,none⟩) (E.length+1) An) (E++[(k.ch:Int)]).length (q0j (E++[(k.ch:Int)]))):=by
       show H.ownsRow _ _ _ _ _ _;rw[z2j,List.length_append];exact d
      have Al:Hid (Inv sb g mb wd (q0a t) H S):=Q;have s:Hid (Below w w H):=Aa;obtain⟨_,x0,x1,_⟩:=Ar;have m2:=fun O=>ka Q.c2 O
      have hL:=fun O=>Af.o (H.alloc O).drew ((Q.alloc O).kept fun _ _=>rfl)
      clear Ap Aq d K As Au Q Av Aa f Z Ad Ac Ab z Ao At Aw Ax Ay;go_wp2_with fail
      go_region
      all_goals
       go_wp2
       go_roundw
       case rel=>
        exact⟨_,_,_,_,rfl,((i.o H _ _ (by rw[P.o];rfl) Am.o Al.o s.o).1).W Zb.drew⟩
       case measure=>
        have h5:=(i.o H _ _ (by rw[P.o];rfl) Am.o Al.o s.o);have e5:chM (q0a t).length (.pointer (some ⟨G,0,none⟩)) wr=(q0a t).length-p:=k5z M.o.c0;have e6:chM (q0a t).length (.pointer (some ⟨H,0,none⟩)) (H.alloc (.cells #[.int .i64 k.np,.int .i64 k.nc] 121)).drew=(q0a t).length-k.np:=k5z h5.1.c0;have h6:=h5.2;rw[e5,e6];omega
  ·have A3:¬(p:Int)<((q0a t).length:Int):=by omega
   have HE:Hid (E=(vv (q0a t) wd 0 0).2):=by
    have:=y.way
    rw[v9n (by omega),List.append_nil]at this;exact this
   clear y;go_wp2_with fail
   go_quiet (fail)
   go_wp2;go_ret;refine⟨⟨x,D,?_,?_⟩,?_⟩
   ·rw[<-HE.o];rfl
   ·rw[<-HE.o];exact z0n M.o.own fun _ _=>rfl
   ·exact k5v M.o.bw _
def F1(R:List Pl)(k:Nat):Nat->Q:=fun j=>if k<=j then q1 (q1p R j)else q0
theorem v9r{R:List Pl}{i:Nat}:upd (F1 R (i+1)) i (q1 (q1p R i))=F1 R i:=by
 funext j
 simp only[upd,F1];by_cases e:j=i
 ·subst e;simp
 ·by_cases h:i+1<=j
  ·rw[if_neg e,if_pos h,if_pos (by omega)]
  ·rw[if_neg e,if_neg h,if_neg (by omega)]
structure Tl(R:List Pl)(L M i:Nat)(F:Nat->Q):Prop where
 op:∀j,j<R.length->(F j).op=(q1p R j).nd.op
 tx:∀j,j<R.length->(F j).tx=(q1p R j).nd.tx
 n:∀j,j<R.length->(F j).n=(q1p R j).nd.n
 en:∀j,j<R.length->(F j).en=(q1p R j).en
 nx:∀j,j<R.length->(j=0\/∃p,p<i/\j1l R L M p j)->(F j).nx=(q1p R j).nx
 dp:∀j,j<R.length->(j=0\/∃p,p<i/\j1l R L M p j)->(F j).dp=(q1p R j).dp
 lg:∀j,j<R.length->j<i->(F j).lg=(q1p R j).lg
 l0:∀j,j<R.length->i<=j->(F j).lg=0
theorem Tl.tell{R:List Pl}{L M i j:Nat}{F:Nat->Q}{x y:Int}(h:Tl R L M i F)(hx:x=(q1p R j).nx)(hy:y=(q1p R j).dp):Tl R L M i (upd F j {F j with nx:=x,dp:=y}) where
 op k hk:=by by_cases e:k=j;subst e;rw[q0n];exact h.op k hk;rw[q1l e];exact h.op k hk
 tx k hk:=by by_cases e:k=j;subst e;rw[q0n];exact h.tx k hk;rw[q1l e];exact h.tx k hk
 n k hk:=by by_cases e:k=j;subst e;rw[q0n];exact h.n k hk;rw[q1l e];exact h.n k hk
 en k hk:=by by_cases e:k=j;subst e;rw[q0n];exact h.en k hk;rw[q1l e];exact h.en k hk
 nx k hk hp:=by by_cases e:k=j;subst e;rw[q0n];exact hx;rw[q1l e];exact h.nx k hk hp
 dp k hk hp:=by by_cases e:k=j;subst e;rw[q0n];exact hy;rw[q1l e];exact h.dp k hk hp
 lg k hk hp:=by by_cases e:k=j;subst e;rw[q0n];exact h.lg k hk hp;rw[q1l e];exact h.lg k hk hp
 l0 k hk hp:=by by_cases e:k=j;subst e;rw[q0n];exact h.l0 k hk hp;rw[q1l e];exact h.l0 k hk hp
theorem Tl.next{R:List Pl}{L M i:Nat}{F:Nat->Q}(h:Tl R L M i F)(hp:∀j,j<R.length->j1l R L M i j->(F j).nx=(q1p R j).nx/\(F j).dp=(q1p R j).dp)(hl:(F i).lg=(q1p R i).lg):Tl R L M (i+1) F where
 op:=h.op
 tx:=h.tx
 n:=h.n
 en:=h.en
 nx k hk hq:=by
  rcases hq with e|⟨p,B,A⟩
  ·exact h.nx k hk (.inl e)
  ·by_cases e:p=i
   ·subst e;exact(hp k hk A).1
   ·exact h.nx k hk (.inr ⟨p,by omega,A⟩)
 dp k hk hq:=by
  rcases hq with e|⟨p,B,A⟩
  ·exact h.dp k hk (.inl e)
  ·by_cases e:p=i
   ·subst e;exact(hp k hk A).2
   ·exact h.dp k hk (.inr ⟨p,by omega,A⟩)
 lg k hk hq:=by
  by_cases e:k=i
  ·subst e;exact hl
  ·exact h.lg k hk (by omega)
 l0 k hk hq:=h.l0 k hk (by omega)
theorem Tl.setLg{R:List Pl}{L M i:Nat}{F:Nat->Q}{x:Int}(h:Tl R L M i F):Tl R L M i F->∀k,k<R.length->(upd F i {F i with lg:=x} k).op=(F k).op/\(upd F i {F i with lg:=x} k).tx=(F k).tx/\(upd F i {F i with lg:=x} k).n=(F k).n/\(upd F i {F i with lg:=x} k).en=(F k).en/\(upd F i {F i with lg:=x} k).nx=(F k).nx/\(upd F i {F i with lg:=x} k).dp=(F k).dp:=by
 intro _ k _;by_cases e:k=i
 ·subst e;rw[q0n];exact⟨rfl,rfl,rfl,rfl,rfl,rfl⟩
 ·rw[q1l e];exact⟨rfl,rfl,rfl,rfl,rfl,rfl⟩
theorem Tl.nextLg{R:List Pl}{L M i:Nat}{F:Nat->Q}(h:Tl R L M i F)(hp:∀j,j<R.length->j1l R L M i j->(F j).nx=(q1p R j).nx/\(F j).dp=(q1p R j).dp):Tl R L M (i+1) (upd F i {F i with lg:=(q1p R i).lg}) where
 op k hk:=by rw[(h.setLg h k hk).1];exact h.op k hk
 tx k hk:=by rw[(h.setLg h k hk).2.1];exact h.tx k hk
 n k hk:=by rw[(h.setLg h k hk).2.2.1];exact h.n k hk
 en k hk:=by rw[(h.setLg h k hk).2.2.2.1];exact h.en k hk
 nx k hk hq:=by
  rw[(h.setLg h k hk).2.2.2.2.1];rcases hq with e|⟨p,B,A⟩
  ·exact h.nx k hk (.inl e)
  ·by_cases e:p=i
   ·subst e;exact(hp k hk A).1
   ·exact h.nx k hk (.inr ⟨p,by omega,A⟩)
 dp k hk hq:=by
  rw[(h.setLg h k hk).2.2.2.2.2];rcases hq with e|⟨p,B,A⟩
  ·exact h.dp k hk (.inl e)
  ·by_cases e:p=i
   ·subst e;exact(hp k hk A).2
   ·exact h.dp k hk (.inr ⟨p,by omega,A⟩)
 lg k hk hq:=by
  by_cases e:k=i
  ·subst e;rw[q0n]
  ·rw[q1l e];exact h.lg k hk (by omega)
 l0 k hk hq:=by rw[q1l (by omega)];exact h.l0 k hk (by omega)
theorem Tl.all{t:Tr}{F:Nat->Q}(ht:t.Wf)(h:Tl (q0a t) t.lf t.dsum (q0a t).length F):∀j,j<(q0a t).length->F j=q2 (q1p (q0a t) j):=by
 intro j A
 have C:j=0\/∃p,p<(q0a t).length/\j1l (q0a t) t.lf t.dsum p j:=by
  rcases Nat.eq_zero_or_pos j with e|e
  ·exact .inl e
  ·obtain⟨p,L,B⟩:=k2c ht e A;exact .inr ⟨p,by omega,B⟩
 have D:=h.op j A;have E:=h.tx j A;have G:=h.n j A;have H:=h.en j A;have I:=h.nx j A C;have J:=h.dp j A C;have K:=h.lg j A A;unfold q2;rw[<-D,<-E,<-G,<-H,<-I,<-J,<-K]
theorem Tl.start{t:Tr}:Tl (q0a t) t.lf t.dsum 0 (upd (F1 (q0a t) 0) 0 {F1 (q0a t) 0 0 with nx:=t.sz}):=by
 have A:∀j,F1 (q0a t) 0 j=q1 (q1p (q0a t) j):=fun j=>by simp[F1]
 have C:q1p (q0a t) 0=z6s t 0 t.sz 0 []:=by
  obtain⟨r,e⟩:=j8z t 0 t.sz 0 [];rw[q1p,List.getD,q0a,e];rfl
 have B:∀(P:Q->Prop)k,(k=0->P {F1 (q0a t) 0 0 with nx:=t.sz})->(k≠0->P (F1 (q0a t) 0 k))->P (upd (F1 (q0a t) 0) 0 {F1 (q0a t) 0 0 with nx:=t.sz} k):=by
  intro P k D E;by_cases e:k=0
  ·subst e;rw[q0n];exact D rfl
  ·rw[q1l e];exact E e
 refine⟨fun j _=>?_,fun j _=>?_,fun j _=>?_,fun j _=>?_,fun j _ hq=>?_,fun j _ hq=>?_,fun j _ hq=>?_,fun j _ _=>?_⟩
 ·refine B (fun q=>q.op=_) j (fun e=>?_) (fun _=>?_)
  ·subst e;rw[A];rfl
  ·rw[A];rfl
 ·refine B (fun q=>q.tx=_) j (fun e=>?_) (fun _=>?_)
  ·subst e;rw[A];rfl
  ·rw[A];rfl
 ·refine B (fun q=>q.n=_) j (fun e=>?_) (fun _=>?_)
  ·subst e;rw[A];rfl
  ·rw[A];rfl
 ·refine B (fun q=>q.en=_) j (fun e=>?_) (fun _=>?_)
  ·subst e;rw[A];rfl
  ·rw[A];rfl
 ·rcases hq with e|⟨p,G,_⟩
  ·subst e;rw[q0n,C];rfl
  ·omega
 ·rcases hq with e|⟨p,G,_⟩
  ·subst e;rw[q0n,A,C];rfl
  ·omega
 ·omega
 ·refine B (fun q=>q.lg=0) j (fun e=>?_) (fun _=>?_)
  ·rw[A];rfl
  ·rw[A];rfl
theorem y0l{R:List Pl}{L M i nx dp:Nat}{ks:List (Nat × Tr)}{t:Tr}(bp g:Nat)(F:Nat->Q)(w:World)(hR:R.length<=400)(hM:M<=3200)(h:Sp R L M i t nx dp ks)(hT:Tl R L M i F)(h0:i=0\/∃p,p<i/\j1l R L M p i)(c:bp≠g)
  (c0:w.cell? ⟨bp,0,none⟩=some (.slice (some ⟨g,0,none⟩) R.length R.length)) (hp:PwR w g R.length F):
  Calls prog 108 #[.pointer (some ⟨bp,0,none⟩),.int .i64 i] w fun e w'=>e=.returned (.tuple #[])/\(∃F',PwR w' g R.length F'/\Tl R L M i F'/\∀j,j<R.length->j1l R L M i j->(F' j).nx=(q1p R j).nx/\(F' j).dp=(q1p R j).dp)/\q0v w g w w':=by
 have d:=h.lt;have W:=h.at;have I:=hT.op i d;have s:=hT.n i d;have S:=hT.nx i d h0;have O:=hT.dp i d h0;rw[W]at I s S O;have v:=h.bd;cases t with
 | leaf x=>
  have B:(F i).op=x.op:=I
  have J:∀k:Int,k=6\/k=9\/k=7\/k=8->((F i).op==k)=false:=fun k hk=>beq_eq_false_iff_ne.2 (by
   rw[B]
   rcases q3y h.wf.1 h.wf.2 with e|e|e|e|e<;>omega)
  refine(v2n bp g R.length i F w d c0 hp (J 6 (by omega)) (J 9 (by omega)) (J 7 (by omega)) (J 8 (by omega))).mono ?_;rintro e q⟨rfl,U,V⟩;refine⟨rfl,⟨F,U,hT,fun j hj hpt=>?_⟩,V⟩;rcases hpt with⟨f,X,_,_,_,C,_⟩|⟨f,X,r,_,_,_,C,_⟩
  ·have:=C.at;rw[W]at this;simp[z6s]at this
  ·have:=C.at;rw[W]at this;simp[z6s]at this
 | one x a=>
  have B:(F i).op=x.op:=I;have l:(F i).n=x.n:=s;have D:(F i).nx=(nx:Int):=S;have A:(F i).dp=(dp:Int):=O;have C:=h.one;have y:0<=x.n/\x.n<=8:=by have:=q2c h.wf.1;omega
  have u:IntKind.i64.wrap ((F i).dp+(F i).n)=((dp+x.n.toNat:Nat):Int):=by
   rw[A,l,IntKind.wrap_i64];omega
  refine(y0m bp g R.length i F w hR C.lt c0 hp (by rw[B];exact q7y h.wf.2.1) _ u).mono ?_;rintro e q⟨rfl,U,V⟩;have K:(F i).nx=(q1p R (i+1)).nx:=by rw[D,C.at];rfl
  have N:((dp+x.n.toNat:Nat):Int)=(q1p R (i+1)).dp:=by rw[C.at];rfl
  refine⟨rfl,⟨_,U,hT.tell K N,fun j hj hpt=>?_⟩,V⟩
  have m:j=i+1:=by
   rcases hpt with⟨f,X,_,_,_,E,e⟩|⟨f,X,r,_,_,_,E,_⟩
   ·exact e
   ·have:=E.at;rw[W]at this;simp[z6s]at this
  subst m;rw[q0n];exact⟨K,N⟩
 | two x a b=>
  have B:(F i).op=x.op:=I;have D:(F i).nx=(nx:Int):=S;have A:(F i).dp=(dp:Int):=O;have G:=h.two2
  have H:∀j,j1l R L M i j->j=i+1\/j=i+1+a.sz:=fun j hpt=>by
   rcases hpt with⟨f,X,_,_,_,E,_⟩|⟨f,X,r,_,_,_,E,e⟩
   ·have:=E.at;rw[W]at this;simp[z6s]at this
   ·have:=E.at
    rw[W]at this;simp only[z6s,Pl.mk.injEq,Tr.two.injEq]at this;rw[this.2.2.2.2.2.1.2.1];exact e
  rcases q7k h.wf.2.1 with e|e
  ·have C:=h.both1 e;have P:(F (i+1)).en=((i+1+a.sz:Nat):Int):=by rw[hT.en _ C.lt,C.at];rfl
   refine(y0n bp g R.length i (i+1+a.sz) F w hR C.lt G.lt c c0 hp (by rw[B,e]) P).mono ?_;rintro e q⟨rfl,U,V⟩;have K:((i+1+a.sz:Nat):Int)=(q1p R (i+1)).nx:=by rw[C.at];rfl
   have N:(F i).dp=(q1p R (i+1)).dp:=by rw[A,C.at];rfl
   have Y:(F i).nx=(q1p R (i+1+a.sz)).nx:=by rw[D,G.at];rfl
   have Z:(F i).dp=(q1p R (i+1+a.sz)).dp:=by rw[A,G.at];rfl
   refine⟨rfl,⟨_,U,(hT.tell K N).tell Y Z,fun j hj hpt=>?_⟩,V⟩;have o:=k8b a;rcases H j hpt with rfl|rfl
   ·rw[q1l (by omega),q0n];exact⟨K,N⟩
   ·rw[q0n];exact⟨Y,Z⟩
  ·have C:=h.either1 (by omega);have P:(F (i+1)).en=((i+1+a.sz:Nat):Int):=by rw[hT.en _ C.lt,C.at];rfl
   refine(v2o bp g R.length i (i+1+a.sz) F w hR C.lt G.lt c c0 hp (by rw[B,e]) P).mono ?_;rintro e q⟨rfl,U,V⟩;have K:(F i).nx=(q1p R (i+1)).nx:=by rw[D,C.at];rfl
   have N:(F i).dp=(q1p R (i+1)).dp:=by rw[A,C.at];rfl
   have Y:(F i).nx=(q1p R (i+1+a.sz)).nx:=by rw[D,G.at];rfl
   have Z:(F i).dp=(q1p R (i+1+a.sz)).dp:=by rw[A,G.at];rfl
   refine⟨rfl,⟨_,U,(hT.tell K N).tell Y Z,fun j hj hpt=>?_⟩,V⟩;have o:=k8b a;rcases H j hpt with rfl|rfl
   ·rw[q1l (by omega),q0n];exact⟨K,N⟩
   ·rw[q0n];exact⟨Y,Z⟩
theorem q4n(z:Value)(n:Nat):(madeCells #[z] n).size=n:=by simp[madeCells]
theorem q2o(w:World)(O0 O1 O2 O3:Obj):((((w.alloc O0).alloc O1).alloc O2).alloc O3).drew.heap[w.heap.size]?=some O0/\((((w.alloc O0).alloc O1).alloc O2).alloc O3).drew.heap[w.heap.size+1]?=some O1
  /\((((w.alloc O0).alloc O1).alloc O2).alloc O3).drew.heap[w.heap.size+1+1]?=some O2/\((((w.alloc O0).alloc O1).alloc O2).alloc O3).drew.heap[w.heap.size+1+1+1]?=some O3:=by
 have E:(w.alloc O0).heap.size=w.heap.size+1:=by simp
 have G:((w.alloc O0).alloc O1).heap.size=w.heap.size+1+1:=by simp
 have H:(((w.alloc O0).alloc O1).alloc O2).heap.size=w.heap.size+1+1+1:=by simp
 have D:=heap_alloc_new w O0;have A:=heap_alloc_new (w.alloc O0) O1;have B:=heap_alloc_new ((w.alloc O0).alloc O1) O2;have C:=heap_alloc_new (((w.alloc O0).alloc O1).alloc O2) O3;rw[E]at A;rw[G]at B;rw[H]at C;refine⟨?_,?_,?_,C⟩
 ·exact(Below.heap_alloc _ _ _ (by omega)).trans ((Below.heap_alloc _ _ _ (by omega)).trans ((Below.heap_alloc _ _ _ (by omega)).trans D))
 ·exact(Below.heap_alloc _ _ _ (by omega)).trans ((Below.heap_alloc _ _ _ (by omega)).trans A)
 ·exact(Below.heap_alloc _ _ _ (by omega)).trans B
theorem z1j(w:World)(O0 O1 O2 O3:Obj):Below w w ((((w.alloc O0).alloc O1).alloc O2).alloc O3).drew:=
 Below.drew (((((Below.refl _ w).alloc Zl _).alloc (by simp) _).alloc (by simp;omega) _).alloc (by simp;omega) _)
theorem q8q{w W:World}{s bp be bf cap:Nat}{a:Option Addr}{ds:List Nd}(hs:s<w.heap.size)(hN:q1k s w a ds)(bw:Below w w W)(rb:W.heap[w.heap.size]?=some (.cells #[.slice none 0 0,.slice none 0 0,.slice none 0 0] 133 (0,0)))
  (hp:W.heap[bp]?=some (.cells #[.slice a ds.length cap,.slice (some ⟨be,0,none⟩) ds.length ds.length,.slice (some ⟨bf,0,none⟩) ds.length ds.length] 133 (0,0))) {ce cf:Array Value} {Te Tf:TypeId} (he:W.heap[be]?=some (.cells ce Te (0,0))) (A:ce.size=ds.length) (hf:W.heap[bf]?=some (.cells cf Tf (0,0))) (B:cf.size=ds.length)
  (b1:w.heap.size<=bp) (b2:w.heap.size+1<=be) (b3:w.heap.size+1<=bf) (n1:bp≠be) (n2:bp≠bf) (n3:be≠bf):z7m w s bp be bf a cap ds W where
 b1:=b1
 b2:=b2
 b3:=b3
 n1:=n1
 n2:=n2
 n3:=n3
 c0:=by simp[World.cell?,hp]
 c1:=by simp[World.cell?,hp]
 c2:=by simp[World.cell?,hp]
 re:=⟨ce,Te,he,A⟩
 rf:=⟨cf,Tf,hf,B⟩
 rb:=rb
 bw:=bw
 nd:=hN.kept (bw.block s hs)
theorem k4p(ds:List Nd)(a:Option Addr)(cap s:Nat)(w:World)(h0:q3d ds=0)(hN:q1k s w a ds)(hs:s<w.heap.size):
  Calls prog 69 #[.slice a ds.length cap] w fun e w'=>(∃be bf,e=.returned (.agg #[.slice a ds.length cap,.slice (some ⟨be,0,none⟩) ds.length ds.length,.slice (some ⟨bf,0,none⟩) ds.length ds.length])/\be<w'.heap.size/\bf<w'.heap.size/\q8v w' be bf ds 0)/\Below w w w':=by
 obtain⟨n,I,Z⟩:=q5c h0
 have o:∀W:World,(Instr.makeSlice 43 (.int .i64 (ds.length:Int)) (.int .i64 (ds.length:Int))).run prog W=.ok (.slice (some ⟨W,0,none⟩) ds.length ds.length) (W.alloc (.cells (madeCells #[.int .i64 0] ds.length) 3)):=fun W=>
  run_make_row' 43 3 _ 8 Tryz.underlying43 k3v rfl .i64 .i64 ds.length (by omega) (by omega) W
 have q:∀W:World,(Instr.makeSlice 131 (.int .i64 (ds.length:Int)) (.int .i64 (ds.length:Int))).run prog W=.ok (.slice (some ⟨W,0,none⟩) ds.length ds.length) (W.alloc (.cells (madeCells #[.bool false] ds.length) 4)):=fun W=>
  run_make_row' 131 4 _ 1 Tryz.underlying131 v2i rfl .i64 .i64 ds.length (by omega) (by omega) W
 have M:Hid (∀x∈ds,q1b x=0):=I;have J:Hid (q0o ds 0 1=some ds.length):=Z;have G:Hid (q1k s w a ds):=hN;clear h0 hN I Z;go_in
 go_upto_region 1 with fail
 go_cut [0,2,3] (fun s0 s2 s3 wx=>s0=.slice a ds.length cap/\s2=.pointer (some ⟨w,0,none⟩)/\∃B be bf,s3=.pointer (some ⟨B,0,none⟩)/\z7m w s B be bf a cap ds wx)
 case first=>
  go_region_held3 (fun _=>True) (trivial) (fail)
  all_goals (go_wp2)
  all_goals
   go_meet
   first
    | exact⟨rfl,rfl,w.heap.size+1+1+1,w.heap.size+1,w.heap.size+1+1,rfl,q8q hs G.o (z1j w _ _ _ _) (q2o w _ _ _ _).1 (q2o w _ _ _ _).2.2.2 (q2o w _ _ _ _).2.1 (q4n _ _) (q2o w _ _ _ _).2.2.1 (q4n _ _) (by omega) (by omega) (by omega) (by omega) (by omega) (by omega)⟩
    | exact⟨rfl,rfl,w.heap.size+1+1,w.heap.size+1,w.heap.size+1+1+1,rfl,q8q hs G.o (z1j w _ _ _ _) (q2o w _ _ _ _).1 (q2o w _ _ _ _).2.2.1 (q2o w _ _ _ _).2.1 (q4n _ _) (q2o w _ _ _ _).2.2.2 (q4n _ _) (by omega) (by omega) (by omega) (by omega) (by omega) (by omega)⟩
    | exact⟨rfl,rfl,w.heap.size+1+1+1,w.heap.size+1+1,w.heap.size+1,rfl,q8q hs G.o (z1j w _ _ _ _) (q2o w _ _ _ _).1 (q2o w _ _ _ _).2.2.2 (q2o w _ _ _ _).2.2.1 (q4n _ _) (q2o w _ _ _ _).2.1 (q4n _ _) (by omega) (by omega) (by omega) (by omega) (by omega) (by omega)⟩
    | exact⟨rfl,rfl,w.heap.size+1,w.heap.size+1+1,w.heap.size+1+1+1,rfl,q8q hs G.o (z1j w _ _ _ _) (q2o w _ _ _ _).1 (q2o w _ _ _ _).2.1 (q2o w _ _ _ _).2.2.1 (q4n _ _) (q2o w _ _ _ _).2.2.2 (q4n _ _) (by omega) (by omega) (by omega) (by omega) (by omega) (by omega)⟩
    | exact⟨rfl,rfl,w.heap.size+1+1,w.heap.size+1+1+1,w.heap.size+1,rfl,q8q hs G.o (z1j w _ _ _ _) (q2o w _ _ _ _).1 (q2o w _ _ _ _).2.2.1 (q2o w _ _ _ _).2.2.2 (q4n _ _) (q2o w _ _ _ _).2.1 (q4n _ _) (by omega) (by omega) (by omega) (by omega) (by omega) (by omega)⟩
    | exact⟨rfl,rfl,w.heap.size+1,w.heap.size+1+1+1,w.heap.size+1+1,rfl,q8q hs G.o (z1j w _ _ _ _) (q2o w _ _ _ _).1 (q2o w _ _ _ _).2.1 (q2o w _ _ _ _).2.2.2 (q4n _ _) (q2o w _ _ _ _).2.2.1 (q4n _ _) (by omega) (by omega) (by omega) (by omega) (by omega) (by omega)⟩
 case rest=>
  obtain⟨rfl,rfl,B,be,bf,rfl,X⟩:=hcut;have h:Hid (z7m w s B be bf a cap ds wc):=X;clear X;go_wp2
  go_loopw [4] (fun i wr=>z7m w s B be bf a cap ds wr/\∃k:Nat,k<=ds.length/\i=.int .i64 ((k:Int)-1)/\q8v wr be bf ds k) (fun i _=>(intOf i+1).toNat)
  case atStart=>exact⟨h.o,ds.length,Nat.le_refl _,by go_num,q8v.end⟩
  case round=>
   obtain⟨d,k,C,rfl,V⟩:=hrel;have A:Hid (z7m w s B be bf a cap ds wr):=d;have K:Hid (q8v wr be bf ds k):=V;clear d V;by_cases Q:k=0
   ·subst Q;have c:¬((0:Int)<=((0:Nat):Int)-1):=by omega
    have c0:=A.o.c0;have c1:=A.o.c1;have c2:=A.o.c2;have E:=A.o.rb;have z:wr.cell? ⟨w,0,none⟩=some (.slice none 0 0):=by simp[World.cell?,E]
    have r1:wr.cell? ⟨w,1,none⟩=some (.slice none 0 0):=by simp[World.cell?,E]
    have r2:wr.cell? ⟨w,2,none⟩=some (.slice none 0 0):=by simp[World.cell?,E]
    have f0:wr.frozen? ⟨w,0,none⟩=false:=by simp[World.frozen?,E]
    have f1:wr.frozen? ⟨w,1,none⟩=false:=by simp[World.frozen?,E]
    have f2:wr.frozen? ⟨w,2,none⟩=false:=by simp[World.frozen?,E]
    clear E;go_wp2;refine bodyPost_ret (v:=.agg #[.slice a ds.length cap,.slice (some ⟨be,0,none⟩) ds.length ds.length,.slice (some ⟨bf,0,none⟩) ds.length ds.length]) (by simp[results,Tryz.results69,go_sem,z,r1,r2]) rfl ?_
    have P:∀v0 v1 v2,Below w wr (((wr.setCell ⟨w,0,none⟩ v0).setCell ⟨w,1,none⟩ v1).setCell ⟨w,2,none⟩ v2):=fun v0 v1 v2=>
     (((Below.refl _ wr).setCell (p:=⟨w,0,none⟩) Zl _).setCell (p:=⟨w,1,none⟩) Zl _).setCell (p:=⟨w,2,none⟩) Zl _
    have r:=A.o.b2;have u:=A.o.b3;have le:=A.o.re.lt;have y:=A.o.rf.lt
    have C:∀v0 v1 v2 k,k≠w.heap.size->(((wr.setCell ⟨w,0,none⟩ v0).setCell ⟨w,1,none⟩ v1).setCell ⟨w,2,none⟩ v2).heap[k]?=wr.heap[k]?:=fun v0 v1 v2 k C=>
     (Below.heap_setCell _ _ _ _ C).trans ((Below.heap_setCell _ _ _ _ C).trans (Below.heap_setCell _ _ _ _ C))
    exact⟨⟨be,bf,rfl,Nat.lt_of_lt_of_le le (P _ _ _).size,Nat.lt_of_lt_of_le y (P _ _ _).size,K.o.kept (C _ _ _ _ (by omega)) (C _ _ _ _ (by omega))⟩,A.o.bw.trans (P _ _ _)⟩
   ·obtain⟨i,rfl⟩:∃i,k=i+1:=⟨k-1,by omega⟩;have H:(((i+1:Nat):Int)-1)=(i:Int):=by omega
    rw[H];obtain⟨j,b,l,m⟩:=j3t J.o (show i<ds.length by omega);obtain⟨t,f,Y,_⟩:=v0j M.o b;have R:Hid (ds.drop i=t.N++ds.drop j):=Y;clear Y b H;go_wp2_with fail;refine(j5i B be bf s cap i ds a t (ds.drop j) _ f R.o n A.o.nd A.o.n1 A.o.n2 A.o.n3 (by have:=A.o.b2;omega) (by have:=A.o.b3;omega) A.o.c0 A.o.c1 A.o.c2 A.o.re A.o.rf K.o).mono ?_;rintro e g⟨rfl,D⟩;obtain⟨y1,S⟩:=A.o.re.cell (show i<ds.length by omega);obtain⟨y2,U⟩:=A.o.rf.cell (show i<ds.length by omega);have O:Hid (z7m w s B be bf a cap ds g):=A.o.put hs D;have L:Hid (q8v g be bf ds i):=K.o.step f R.o A.o.n3 S U D;clear D S U;go_wp2
    go_roundw
    case rel=>exact⟨O.o,i,by omega,by go_num,L.o⟩
    case measure=>simp[intOf]
end Go.Proofs.YthcpdohdppkmkaaGreatDoor
