import Derived.Test.YtfdppahhbpfnoaaGreatDoorPb36
import Derived.Test.YtfdppahhbpfnoaaGreatDoorPb37
open Go.Proofs.Tryz
namespace Go.Proofs.YtfdppahhbpfnoaaGreatDoor
open Go Go.RowKit
theorem v5m{t:Tr}{wd:Nat}(sb g mb:Nat)(ht:t.Wf)(hn:t.sz<=400)(hw:wd<=100):∀m i c,(q0a t).length-i<=m->i<=(q0a t).length->c<=wd->j2j sb g mb wd (q0a t) i c:=by
 have X:=q9b t;have V:t.lf*(21+t.dsum)<=400000:=y3d X hn;have Q:t.lf<=400:=by unfold Tr.sz at hn;omega
 have R:t.dsum<=3200:=by unfold Tr.sz at hn;omega
 have a:(q0a t).length<=400:=by rw[q2o];exact hn
 intro m
 induction m with
 | zero=>intro i c f j s;exact k9b sb g mb wd i c _ (by omega)
 | succ m ih=>
  intro i c f j P;by_cases d:i<(q0a t).length
  ·obtain⟨Y,z,r,y,A⟩:=j9o ht d;refine v5n sb g mb wd i c _ d a hw P ?_;have L:=A.at
   have b:∀ch,∃k:Cv,k=(if(q2z (q0a t) wd i c ch).np<(q0a t).length then crs (q0a t) wd (q2z (q0a t) wd i c ch).np (q2z (q0a t) wd i c ch).nc else zCv)/\k.o=(vv (q0a t) wd (q2z (q0a t) wd i c ch).np (q2z (q0a t) wd i c ch).nc).1.1/\k.l=(vv (q0a t) wd (q2z (q0a t) wd i c ch).np (q2z (q0a t) wd i c ch).nc).1.2/\k.o<=400000/\k.l<=400000:=fun ch=>by
    have G:=j6s (ch:=ch) A P hw Q R;refine⟨_,rfl,?_⟩;by_cases W:(q2z (q0a t) wd i c ch).np<(q0a t).length
    ·rw[if_pos W];obtain⟨t2,q,e,p,H⟩:=j9o ht W;have n:=(j3w H G.cl).1;have U:=g1f (wd:=wd) (c:=(q2z (q0a t) wd i c ch).nc) H V;rw[n]at U⊢;exact⟨rfl,rfl,U⟩
    ·rw[if_neg W,v9n (by omega)];exact⟨rfl,rfl,by simp[zCv],by simp[zCv]⟩
   have K:∀ch,(ch=0\/ch=1)->(Y.lg=-1->ch=1)->z5j sb g mb wd (q0a t) i c ch:=fun ch h01 hh=>by
    have G:=j6s (ch:=ch) A P hw Q R
    have:=G.lo
    exact v6c sb g mb a A P hw Q R h01 hh (ih _ _ (by omega) G.hi G.cl) (b ch)
   have D:∀ch,(tkC (q0a t) wd i c ch).o<=1000000/\(tkC (q0a t) wd i c ch).l<=1000000:=fun ch=>by
    have G:=j6s (ch:=ch) A P hw Q R;obtain⟨k,_,U,u,v,x⟩:=b ch
    have:=G.bo
    have:=G.bl
    simp only[tkC,j3z];omega
   have Z:(q2 (q1e (q0a t) i)).lg=Y.lg:=by rw[L];rfl
   intro w S h;by_cases C:Y.lg=-1
   ·have I:crs (q0a t) wd i c=tkC (q0a t) wd i c 1:=by rw[crs,if_pos (show(q1e (q0a t) i).lg=-1 by rw[L];exact C)]
    rw[I];exact k4i sb g mb A (by rw[Z];exact C) (K 1 (.inr rfl) fun _=>rfl) w S h
   ·have N:((q2 (q1e (q0a t) i)).lg==-1)=false:=beq_eq_false_iff_ne.2 (by rw[Z];exact C);have J:=K 0 (.inl rfl) fun h=>absurd h C
    have O:=K 1 (.inr rfl) fun _=>rfl
    have M:¬(q1e (q0a t) i).lg=-1:=by rw[L];exact C
    cases B:z1m (q1e (q0a t) i).nd.op with
    | false=>
     have I:crs (q0a t) wd i c=tkC (q0a t) wd i c 0:=by rw[crs,if_neg M,if_pos B]
     rw[I];exact k1a sb g mb A N B J w S h
    | true=>
     by_cases E:q3f ((tkC (q0a t) wd i c 1).o,(tkC (q0a t) wd i c 1).l) ((tkC (q0a t) wd i c 0).o,(tkC (q0a t) wd i c 0).l)
     ·have I:crs (q0a t) wd i c=tkC (q0a t) wd i c 1:=by rw[crs,if_neg M,if_neg (by rw[B];simp),if_pos E]
      rw[I];exact q9p sb g mb A N B J O (D 0) (D 1) 1 (.inr ⟨rfl,decide_eq_true E⟩) w S h
     ·have I:crs (q0a t) wd i c=tkC (q0a t) wd i c 0:=by rw[crs,if_neg M,if_neg (by rw[B];simp),if_neg E]
      rw[I];exact q9p sb g mb A N B J O (D 0) (D 1) 0 (.inl ⟨rfl,decide_eq_false E⟩) w S h
  ·exact k9b sb g mb wd i c _ (by omega)
set_option maxRecDepth 100000
set_option maxHeartbeats 4000000
theorem z0j{w:World}{B e A n k:Nat}{v:Value}{xs:List Value}(h:w.ownsRow B e A v n xs)(hk:v.ownBlock=some k):k<w.heap.size/\∃cur,w.heap[k]?=some (.cells cur e (0,0)):=by
 rcases h.2 with⟨rfl,_⟩|⟨g,c,cur,rfl,_,C,_⟩
 ·simp[Value.ownBlock]at hk
 ·simp only[Value.ownBlock,Option.some.injEq]at hk;subst hk;exact⟨(Array.getElem?_eq_some_iff.1 C).1,cur,C⟩
theorem v9c{w:World}{B e A n k:Nat}{v:Value}{xs:List Value}(h:w.ownsRow B e A v n xs)(hk:v.ownBlock=some k):B<=k:=by
 rcases h.2 with⟨rfl,_⟩|⟨g,c,C,rfl,D,_⟩
 ·simp[Value.ownBlock]at hk
 ·simp only[Value.ownBlock,Option.some.injEq]at hk;subst hk;exact D
theorem z0i{w w':World}{B e A n:Nat}{v:Value}{xs:List Value}(h:w.ownsRow B e A v n xs)(hk:∀k,v.ownBlock=some k->w'.heap[k]?=w.heap[k]?):w'.ownsRow B e A v n xs:=by
 refine⟨h.1,?_⟩;rcases h.2 with E|⟨g,c,D,rfl,G,H,C⟩
 ·exact .inl E
 ·exact .inr ⟨g,c,D,rfl,G,(hk g rfl).trans H,C⟩
structure ChR(sb g mb wd:Nat)(R:List Pl)(S:Nat->Nat->Bool)(w wr:World)(v3:Value)(b4 p c:Nat)(us:List Int):Prop where
 own:wr.ownsRow w.heap.size 3 1 v3 us.length (q0q us)
 box:wr.heap[b4]?=some (.cells #[.int .i64 p,.int .i64 c] 172 (0,0))
 lo:w.heap.size<=b4
 pl:p<=R.length
 cl:c<=wd
 inS:p<R.length->S p c=true
 way:us++(vv R wd p c).2=(vv R wd 0 0).2
 len:us.length<=p
 inv:Inv sb g mb wd R wr S
 bw:Below w w wr
section
variable {sb g mb wd b4 p c:Nat} {R:List Pl} {S:Nat→Nat→Bool} {w wr wx:World} {v3:Value} {us:List Int}
theorem ChR.c0(h:ChR sb g mb wd R S w wr v3 b4 p c us):wr.cell? ⟨b4,0,none⟩=some (.int .i64 p):=by simp[World.cell?,h.box]
theorem ChR.c1(h:ChR sb g mb wd R S w wr v3 b4 p c us):wr.cell? ⟨b4,1,none⟩=some (.int .i64 c):=by simp[World.cell?,h.box]
theorem ChR.lt(h:ChR sb g mb wd R S w wr v3 b4 p c us):b4<wr.heap.size:=World.block_lt_of_cell? wr ⟨b4,0,none⟩ h.c0
theorem ChR.form(h:ChR sb g mb wd R S w wr v3 b4 p c us):∃a cap,v3=.slice a us.length cap:=by
 rcases h.own.2 with⟨A,C⟩|⟨g,c,B,A,_⟩
 ·exact⟨none,0,by rw[A,C]⟩
 ·exact⟨_,c,A⟩
theorem ChR.apart(h:ChR sb g mb wd R S w wr v3 b4 p c us){k:Nat}(hk:v3.ownBlock=some k):k≠b4:=by
 intro e;subst e;obtain⟨_,B,A⟩:=z0j h.own hk;rw[h.box]at A;cases A
theorem ChR.W(h:ChR sb g mb wd R S w wr v3 b4 p c us)(hb:Below wr wr wx):ChR sb g mb wd R S w wx v3 b4 p c us:=
 ⟨z0i h.own fun k hk=>hb.block k (z0j h.own hk).1,(hb.block _ h.lt).trans h.box,h.lo,h.pl,h.cl,h.inS,h.way,h.len,h.inv.W hb,h.bw.trans (hb.mono h.bw.size)⟩
end
def chM(n:Nat)(v:Value)(wr:World):Nat:=match v with
 | .pointer (some a)=>(match wr.cell? a with|some (.int _ p)=>n-p.toNat|_=>0)
 | _=>0
theorem k7j{n b p:Nat}{wr:World}(h:wr.cell? ⟨b,0,none⟩=some (.int .i64 (p:Int))):chM n (.pointer (some ⟨b,0,none⟩)) wr=n-p:=by
 simp[chM,h]
theorem v2t{sb g mb wd p c L M nx dp:Nat}{R:List Pl}{S:Nat->Nat->Bool}{w W:World}{v:Value}{us A:List Int}{ks:List (Nat × Tr)}{t:Tr}(G:Sp R L M p t nx dp ks)(hc:c<=wd)(hw:wd<=100)(hL:L<=400)(hM:M<=3200)(D:us++(vv R wd p c).2=(vv R wd 0 0).2)(O:us.length<=p)(hS:S p c=true)
  (H:A=us++(if z1m t.root.op=true then [((crs R wd p c).ch:Int)]else [])) (C:W.ownsRow w.heap.size 3 1 v A.length (q0q A)) (B:Inv sb g mb wd R W S) (E:Below w w W):
  ChR sb g mb wd R S w (W.alloc (.cells #[.int .i64 (crs R wd p c).np,.int .i64 (crs R wd p c).nc] 172)) v W.heap.size (crs R wd p c).np (crs R wd p c).nc A/\p<(crs R wd p c).np:=by
 obtain⟨Q,ch,_,N⟩:=j3w G hc;have K:=j6s (ch:=ch) G hc hw hL hM;have I:(crs R wd p c).np=(q2z R wd p c ch).np:=by rw[N];rfl
 have P:(crs R wd p c).nc=(q2z R wd p c ch).nc:=by rw[N];rfl
 have J:=K.lo;refine⟨⟨z0i C fun k hk=>Below.heap_alloc _ _ _ (z0j C hk).1,heap_alloc_new W _,E.size,by rw[I];exact K.hi,by rw[P];exact K.cl,fun hl=>(B.cl p c hS).2.2 hl,?_,?_,B.alloc _,E.alloc E.size _⟩,by rw[I];exact J⟩
 ·rw[Q]at D;rw[H,List.append_assoc];exact D
 ·rw[H,I]
  split<;>simp<;>omega
theorem k0s{t:Tr}{wd:Nat}(sb g mb:Nat)(ht:t.Wf)(hn:t.sz<=400)(hw:wd<=100)(w:World)(S:Nat->Nat->Bool)(h:Inv sb g mb wd (q0a t) w S)(h0:S 0 0=true):
  Calls prog 110 #[.pointer (some ⟨sb,0,none⟩)] w fun e w'=>(∃a cap,e=.returned (.slice a (vv (q0a t) wd 0 0).2.length cap)/\w'.ownsRow w.heap.size 3 1 (.slice a (vv (q0a t) wd 0 0).2.length cap) (vv (q0a t) wd 0 0).2.length (q0q (vv (q0a t) wd 0 0).2))/\Below w w w':=by
 have HI:Hid (Inv sb g mb wd (q0a t) w S):=h;have H0:Hid (S 0 0=true):=h0;have Ai:=h.lt;have hR:(q0a t).length<=400:=by rw[q2o];exact hn
 have A5:Hid (∃R,R=q0a t):=⟨_,rfl⟩
 have A1:Hid (∀W:World,W=w.alloc (.cells #[.int .i64 0,.int .i64 0] 172)->ChR sb g mb wd (q0a t) S w W (.slice none 0 0) w.heap.size 0 0 []):=fun W hW=>by
  subst hW;exact⟨⟨rfl,.inl ⟨rfl,rfl⟩⟩,heap_alloc_new w _,Nat.le_refl _,Nat.zero_le _,Nat.zero_le _,fun _=>H0.o,rfl,Nat.le_refl _,HI.o.alloc _,(Below.refl _ w).alloc Zl _⟩
 clear h h0;go_in;go_wp2_with fail
 go_loopw [3,4] (fun v3 v4 wr=>∃G p c E,v4=.pointer (some ⟨G,0,none⟩)/\ChR sb g mb wd (q0a t) S w wr v3 G p c E) (fun _ v4 wr=>chM (q0a t).length v4 wr)
 case atStart=>exact⟨_,0,0,[],rfl,A1.o _ rfl⟩
 case round=>
  obtain⟨G,p,c,E,rfl,y⟩:=hrel;obtain⟨x,D,rfl⟩:=y.form;have M:Hid (ChR sb g mb wd (q0a t) S w wr (.slice x E.length D) G p c E):=y;have c0:=y.inv.pl.c0;have p0:=y.c0;by_cases hp:p<(q0a t).length
  ·have A3:(p:Int)<((q0a t).length:Int):=by omega
   obtain⟨t',nx,dp,ks,Ak⟩:=j9o ht hp;have A0:Hid (Sp (q0a t) t.lf t.dsum p t' nx dp ks):=Ak;have Aj:p<=400:=by omega
   have Ah:c<=100:=by have:=y.cl;omega
   have HQ:Hid (∀W,Below wr wr W->W.cell? ⟨sb,0,none⟩=some (.slice (some ⟨g,0,none⟩) (q0a t).length (q0a t).length)/\W.cell? ⟨G,0,none⟩=some (.int .i64 p)/\W.cell? ⟨g,p*7,none⟩=some (.int .i64 (q2 (q1e (q0a t) p)).op)/\W.cell? ⟨g,p*7+1,none⟩=some (.string (q2 (q1e (q0a t) p)).tx)/\W.cell? ⟨g,p*7+2,none⟩=some (.int .i64 (q2 (q1e (q0a t) p)).n)/\W.cell? ⟨g,p*7+3,none⟩=some (.int .i64 (q2 (q1e (q0a t) p)).en)/\W.cell? ⟨g,p*7+4,none⟩=some (.int .i64 (q2 (q1e (q0a t) p)).nx)/\W.cell? ⟨g,p*7+5,none⟩=some (.int .i64 (q2 (q1e (q0a t) p)).dp)/\W.cell? ⟨g,p*7+6,none⟩=some (.int .i64 (q2 (q1e (q0a t) p)).lg)):=fun W hW=>by
    have A:=M.o.W hW;obtain⟨d0,d1,d2,d3,d4,d5,d6⟩:=A.inv.pl.pr.get p hp;exact⟨A.inv.pl.c0,A.c0,d0,d1,d2,d3,d4,d5,d6⟩
   have r:(q2 (q1e (q0a t) p)).op=t'.root.op:=by rw[Ak.at];rfl
   have Af:Hid (∀W,Inv sb g mb wd (q0a t) W S->(Instr.lookup 168 (.map (some mb)) (.agg #[.int .i64 (p:Int),.int .i64 (c:Int)]) false).run prog W=.ok (.agg #[.int .i64 (crs (q0a t) wd p c).o,.int .i64 (crs (q0a t) wd p c).l,.int .i64 (crs (q0a t) wd p c).ch,.int .i64 (crs (q0a t) wd p c).np,.int .i64 (crs (q0a t) wd p c).nc]) W):=fun W hW=>by
    have:=hW.me.look (p:=p) (c:=c) Aj Ah
    rw[M.o.inS hp,if_pos rfl]at this;exact this
   have A7:=j4m;have A6:=k4r;have A8:(0:Int)<=(p:Int):=by omega
   have i:Hid (∀(W:World)(v:Value)(us':List Int),us'=E++(if z1m t'.root.op=true then [((crs (q0a t) wd p c).ch:Int)]else [])->W.ownsRow w.heap.size 3 1 v us'.length (q0q us')->Inv sb g mb wd (q0a t) W S->Below w w W->ChR sb g mb wd (q0a t) S w (W.alloc (.cells #[.int .i64 (crs (q0a t) wd p c).np,.int .i64 (crs (q0a t) wd p c).nc] 172)) v W.heap.size (crs (q0a t) wd p c).np (crs (q0a t) wd p c).nc us'/\p<(crs (q0a t) wd p c).np):=fun W v us' e1 e2 e3 e4=>
    v2t A0.o M.o.cl hw (by have:=q9b t;unfold Tr.sz at hn;omega) (by have:=q9b t;unfold Tr.sz at hn;omega) M.o.way M.o.len (M.o.inS hp) e1 e2 e3 e4
   clear y Ak;generalize q2 (q1e (q0a t) p)=q at *;generalize crs (q0a t) wd p c=k at *;cases L:z1m q.op with
   | false=>
    have Ae:Hid (∀W,Calls prog 164 #[.agg #[.int .i64 q.op,.string q.tx,.int .i64 q.n,.int .i64 q.en,.int .i64 q.nx,.int .i64 q.dp,.int .i64 q.lg]] W fun e w'=>e=.returned (.bool false)/\Below W W w'):=fun W=>by have:=q9m q.op q.tx q.n q.en q.nx q.dp q.lg W;rw[L]at this;exact this
    have P:Hid (z1m t'.root.op=false):=by rw[<-r];exact L
    clear L r;go_wp2_with fail
    go_quiet (fail)
    go_wp2_with fail;have J:Below wr wr (wr.drewN nq):=k7e (Below.refl _ wr) nq;generalize wr.drewN nq=w1 at *;have U:=HQ.o w1.drew J.drew;have N:Hid (Below wr wr w1):=J;clear J
    go_region_held3 (fun w'=>w'.cell? ⟨sb,0,none⟩=some (.slice (some ⟨g,0,none⟩) (q0a t).length (q0a t).length)/\w'.cell? ⟨G,0,none⟩=some (.int .i64 p)/\w'.cell? ⟨g,p*7,none⟩=some (.int .i64 q.op)/\w'.cell? ⟨g,p*7+1,none⟩=some (.string q.tx)/\w'.cell? ⟨g,p*7+2,none⟩=some (.int .i64 q.n)/\w'.cell? ⟨g,p*7+3,none⟩=some (.int .i64 q.en)/\w'.cell? ⟨g,p*7+4,none⟩=some (.int .i64 q.nx)/\w'.cell? ⟨g,p*7+5,none⟩=some (.int .i64 q.dp)/\w'.cell? ⟨g,p*7+6,none⟩=some (.int .i64 q.lg))
     (first|with_reducible exact U|with_reducible exact V)
     ((go_at_call 164;refine(Ae.o w1.drew).mono ?_;rintro e B⟨rfl,X⟩;have I:Below wr wr B:=N.o.drew.trans (X.mono N.o.size);have V:=HQ.o B I))
    all_goals
     have A:=M.o.W I;have C:Hid (ChR sb g mb wd (q0a t) S w B (.slice x E.length D) G p c E):=A;have x0:=A.c0;have x1:=A.c1;have m2:=fun O=>ka A.inv.c2 O
     have hL:=fun O=>Af.o (B.alloc O).drew ((A.inv.alloc O).kept fun _ _=>rfl)
     clear A X I V U c0 p0;go_wp2_with fail
     go_region
     all_goals
      go_wp2
      go_roundw
      case rel=>
       exact⟨_,_,_,E,rfl,((i.o B _ E (by rw[P.o];simp) C.o.own C.o.inv C.o.bw).1).W Zb.drew⟩
      case measure=>
       have h5:=(i.o B _ E (by rw[P.o];simp) C.o.own C.o.inv C.o.bw);have e5:chM (q0a t).length (.pointer (some ⟨G,0,none⟩)) wr=(q0a t).length-p:=k7j M.o.c0;have e6:chM (q0a t).length (.pointer (some ⟨B,0,none⟩)) (B.alloc (.cells #[.int .i64 k.np,.int .i64 k.nc] 172)).drew=(q0a t).length-k.np:=k7j h5.1.c0;have h6:=h5.2;rw[e5,e6];omega
   | true=>
    have Ae:Hid (∀W,Calls prog 164 #[.agg #[.int .i64 q.op,.string q.tx,.int .i64 q.n,.int .i64 q.en,.int .i64 q.nx,.int .i64 q.dp,.int .i64 q.lg]] W fun e w'=>e=.returned (.bool true)/\Below W W w'):=fun W=>by have:=q9m q.op q.tx q.n q.en q.nx q.dp q.lg W;rw[L]at this;exact this
    have P:Hid (z1m t'.root.op=true):=by rw[<-r];exact L
    clear L r;go_wp2_with fail
    go_quiet (fail)
    go_wp2_with fail;have J:Below wr wr (wr.drewN nq):=k7e (Below.refl _ wr) nq;generalize wr.drewN nq=w1 at *;have U:=HQ.o w1.drew J.drew;have N:Hid (Below wr wr w1):=J;clear J
    go_region_held3 (fun w'=>w'.cell? ⟨sb,0,none⟩=some (.slice (some ⟨g,0,none⟩) (q0a t).length (q0a t).length)/\w'.cell? ⟨G,0,none⟩=some (.int .i64 p)/\w'.cell? ⟨g,p*7,none⟩=some (.int .i64 q.op)/\w'.cell? ⟨g,p*7+1,none⟩=some (.string q.tx)/\w'.cell? ⟨g,p*7+2,none⟩=some (.int .i64 q.n)/\w'.cell? ⟨g,p*7+3,none⟩=some (.int .i64 q.en)/\w'.cell? ⟨g,p*7+4,none⟩=some (.int .i64 q.nx)/\w'.cell? ⟨g,p*7+5,none⟩=some (.int .i64 q.dp)/\w'.cell? ⟨g,p*7+6,none⟩=some (.int .i64 q.lg))
     (first|with_reducible exact U|with_reducible exact V)
     ((go_at_call 164;refine(Ae.o w1.drew).mono ?_;rintro e B⟨rfl,X⟩;have I:Below wr wr B:=N.o.drew.trans (X.mono N.o.size);have V:=HQ.o B I))
    all_goals
     have A:=M.o.W I;have C:Hid (ChR sb g mb wd (q0a t) S w B (.slice x E.length D) G p c E):=A;have x0:=A.c0;have x1:=A.c1;have Ag:Hid (∀W,Inv sb g mb wd (q0a t) W S->W.heap[G]?=some (.cells #[.int .i64 p,.int .i64 c] 172 (0,0))->W.cell? ⟨sb,2,none⟩=some (.map (some mb))/\W.cell? ⟨G,0,none⟩=some (.int .i64 p)/\W.cell? ⟨G,1,none⟩=some (.int .i64 c)/\(Instr.lookup 168 (.map (some mb)) (.agg #[.int .i64 (p:Int),.int .i64 (c:Int)]) false).run prog W=.ok (.agg #[.int .i64 k.o,.int .i64 k.l,.int .i64 k.ch,.int .i64 k.np,.int .i64 k.nc]) W):=fun W h1 h2=>⟨h1.c2,by simp[World.cell?,h2],by simp[World.cell?,h2],Af.o W h1⟩
     have Y:∀O,(B.alloc O).drew.heap[G]?=some (.cells #[.int .i64 p,.int .i64 c] 172 (0,0)):=fun O=>(Below.heap_alloc B O G A.lt).trans A.box
     have Ap:=Ag.o B.drew (A.inv.kept fun _ _=>rfl) A.box;have Aq:=fun O=>Ag.o (B.alloc O).drew ((A.inv.alloc O).kept fun _ _=>rfl) (Y O)
     have Az:Hid (∀H,(B.alloc (.cells #[.int .i64 k.ch] 3)).drew.grownBy H (Value.slice x E.length D).ownBlock->Inv sb g mb wd (q0a t) H S/\H.heap[G]?=some (.cells #[.int .i64 p,.int .i64 c] 172 (0,0))/\Below w w H):=fun H hg=>by
      have A9:B.heap.size<=(B.alloc (.cells #[.int .i64 k.ch] 3)).drew.heap.size:=by show _<=(B.alloc _).heap.size;simp
      have A2:=C.o.bw.size
      have m:∀b,b<w.heap.size->some b≠(Value.slice x E.length D).ownBlock:=fun b hb e=>by
       have:=v9c C.o.own e.symm
       omega
      have A4:=C.o.inv.lt;refine⟨((C.o.inv.alloc (.cells #[.int .i64 k.ch] 3)).kept (w':=(B.alloc (.cells #[.int .i64 k.ch] 3)).drew) fun _ _=>rfl).kept3 (hg.block _ (by omega) (m _ Ai.1)) (hg.block _ (by omega) (m _ Ai.2.1)) (hg.block _ (by omega) (m _ Ai.2.2)),(hg.block G (by have:=C.o.lt;omega) (fun e=>C.o.apart e.symm rfl)).trans (Y _),?_⟩;exact((C.o.bw.alloc A2 (.cells #[.int .i64 k.ch] 3)).drew).trans ⟨hg.os,hg.tape,hg.output,hg.size,fun b hb=>hg.block b (by omega) (m b hb)⟩
     obtain⟨i0,At,Aw,Ax,Ay⟩:=info_parts j5k;have f:(B.alloc (.cells #[.int .i64 k.ch] 3)).drew.ownsRow w.heap.size 3 1 (.slice x E.length D) E.length (q0q E):=z0i A.own fun b hb=>Below.heap_alloc B _ b (z0j A.own hb).1
     have Z:∀j u,[Value.int .i64 (k.ch:Int)][j]?=some u->(B.alloc (.cells #[.int .i64 k.ch] 3)).drew.cell? ((⟨B,0,none⟩:Addr).add j)=some u:=World.news_of_block (cs:=#[.int .i64 k.ch]) (heap_alloc_new B (.cells #[.int .i64 k.ch] 3));have Ad:∀u∈[Value.int .i64 (k.ch:Int)],u.oneCell'=true:=by intro u hu;simp at hu;subst hu;rfl
     have Ac:E.length+1<=maxLen:=by have:=A.len;unfold maxLen;omega
     have Ab:(E.length+1)*8<=140737488355328:=by have:=A.len;omega
     have z:w.heap.size<=(B.alloc (.cells #[.int .i64 k.ch] 3)).drew.heap.size:=by show _<=(B.alloc _).heap.size;have:=A.bw.size;simp;omega
     have Ao:(B.alloc (.cells #[.int .i64 k.ch] 3)).drew.heap.size=B.heap.size+1:=by show(B.alloc _).heap.size=_;simp
     clear A X I V U c0 p0 Y x0 x1;go_wp2_with fail
     go_region_held3 (fun w'=>w'.cell? ⟨sb,2,none⟩=some (.map (some mb))/\w'.cell? ⟨G,0,none⟩=some (.int .i64 p)/\w'.cell? ⟨G,1,none⟩=some (.int .i64 c)/\(Instr.lookup 168 (.map (some mb)) (.agg #[.int .i64 (p:Int),.int .i64 (c:Int)]) false).run prog w'=.ok (.agg #[.int .i64 k.o,.int .i64 k.l,.int .i64 k.ch,.int .i64 k.np,.int .i64 k.nc]) w')
      (first|with_reducible exact Ap|with_reducible exact Aq _|with_reducible exact Ar)
      ((refine step_append_lies _ (by rfl) _ _ 45 (by rfl) w.heap.size 3 i0 _ 1 8 Tryz.underlying45 At Aw Ax Ay rfl (by decide) (.slice x E.length D) E.length (q0q E) (by rfl) f ⟨B,0,none⟩ 1 1 [.int .i64 k.ch] (by rfl) rfl Z Ad (by decide) Ac Ab z (B.heap.size+1) Ao ?_;intro g3 An H d K As Au;obtain⟨Q,Av,Aa⟩:=Az.o H K;have Ar:=Ag.o H Q Av))
     all_goals
      have Am:Hid (H.ownsRow w.heap.size 3 1 (.slice (some ⟨g3,0,none⟩) (E.length+1) An) (E++[(k.ch:Int)]).length (q0q (E++[(k.ch:Int)]))):=by
       show H.ownsRow _ _ _ _ _ _;rw[k1t,List.length_append];exact d
      have Al:Hid (Inv sb g mb wd (q0a t) H S):=Q;have s:Hid (Below w w H):=Aa;obtain⟨_,x0,x1,_⟩:=Ar;have m2:=fun O=>ka Q.c2 O
      have hL:=fun O=>Af.o (H.alloc O).drew ((Q.alloc O).kept fun _ _=>rfl)
      clear Ap Aq d K As Au Q Av Aa f Z Ad Ac Ab z Ao At Aw Ax Ay;go_wp2_with fail
      go_region
      all_goals
       go_wp2
       go_roundw
       case rel=>
        exact⟨_,_,_,_,rfl,((i.o H _ _ (by rw[P.o];rfl) Am.o Al.o s.o).1).W Zb.drew⟩
       case measure=>
        have h5:=(i.o H _ _ (by rw[P.o];rfl) Am.o Al.o s.o);have e5:chM (q0a t).length (.pointer (some ⟨G,0,none⟩)) wr=(q0a t).length-p:=k7j M.o.c0;have e6:chM (q0a t).length (.pointer (some ⟨H,0,none⟩)) (H.alloc (.cells #[.int .i64 k.np,.int .i64 k.nc] 172)).drew=(q0a t).length-k.np:=k7j h5.1.c0;have h6:=h5.2;rw[e5,e6];omega
  ·have A3:¬(p:Int)<((q0a t).length:Int):=by omega
   have HE:Hid (E=(vv (q0a t) wd 0 0).2):=by
    have:=y.way
    rw[v9n (by omega),List.append_nil]at this;exact this
   clear y;go_wp2_with fail
   go_quiet (fail)
   go_wp2;go_ret;refine⟨⟨x,D,?_,?_⟩,?_⟩
   ·rw[<-HE.o];rfl
   ·rw[<-HE.o];exact z0i M.o.own fun _ _=>rfl
   ·exact k7e M.o.bw _
theorem j3i(ds:List Nd)(ws:List Int)(a wa:Option Addr)(cap wc:Nat)(hc:ds.length<=cap)(A:ws.length<=wc)(hl:ws.length<=9223372036854775807)(w:World)(hN:q2e w a ds)(hI:q7w w wa ws):
  Calls prog 111 #[.slice a ds.length cap,.slice wa ws.length wc] w fun e w'=>e=.returned (.string (shS (q6l ds ws)))/\Below w w w':=by
 have B:Hid (Calls prog 19 #[.slice a ds.length cap,.slice wa ws.length wc] w fun e w'=>e=.returned (.tuple #[.string (shS (q6l ds ws)),q1m (shE (q6l ds ws))])/\Below w w w'):=k3o ds ws a wa cap wc hc A hl w hN hI;clear hN hI hc A hl;generalize shS (q6l ds ws)=s at *;generalize q1m (shE (q6l ds ws))=v at *;go_in;go_wp2_with fail;refine B.o.mono ?_;rintro e D⟨rfl,C⟩;go_wp2;go_ret;exact⟨rfl,C⟩
def bE(ds:List Nd)(wd:Int):Int:=if q2x ds=0 then(if wd<0\/100<wd then 1 else 0)else q2x ds
open Classical in
noncomputable def bA(ds:List Nd)(wd:Int):Crs:=if h:q2x ds=0 then(if wd<0\/100<wd then((0,0),[])else bs wd.toNat 0 [(0,v7m ds h)])else((0,0),[])
noncomputable def bT(ds:List Nd)(wd:Int):ByteArray:=if bE ds wd=0 then shS (q6l ds (bA ds wd).2)else⟨#[]⟩
theorem v7c{ds:List Nd}{wd:Int}(h:bE ds wd≠0):bA ds wd=((0,0),[]):=by
 unfold bE at h;unfold bA
 split
 ·rename_i h0;rw[if_pos h0]at h
  split at h
  ·rename_i h1;rw[if_pos h1]
  ·exact absurd rfl h
 ·rfl
theorem j2q{ds:List Nd}{wd:Nat}{t:Tr}(ht:t.Wf)(e:ds=t.N)(hl:ds.length<=400)(hw:wd<=100):bE ds wd=0/\bA ds wd=bs wd 0 [(0,t)]:=by
 have h:q2x ds=0:=by rw[e];exact z0q ht (by rw[<-e];exact hl)
 have A:¬((wd:Int)<0\/(100:Int)<wd):=by omega
 refine⟨by rw[bE,if_pos h,if_neg A],?_⟩;rw[bA,dif_pos h,if_neg A,z7y h ht e,Int.toNat_natCast]
theorem y4e{t:Tr}(ht:t.Wf)(wd:Nat):vv (q0a t) wd 0 0=bs wd 0 [(0,t)]:=by rw[vv,(z9w ht).kont]
theorem v5j{w:World}{B B' e A n:Nat}{v:Value}{xs:List Value}(h:w.ownsRow B e A v n xs)(hB:B'<=B):w.ownsRow B' e A v n xs:=by
 refine⟨h.1,?_⟩;rcases h.2 with E|⟨g,c,D,rfl,G,C⟩
 ·exact .inl E
 ·exact .inr ⟨g,c,D,rfl,Nat.le_trans hB G,C⟩
theorem j8p(w:World)(B:Nat):w.ownsRow B 3 1 (.slice none 0 0) 0 (q0q []):=⟨rfl,.inl ⟨rfl,rfl⟩⟩
def z7j(ds:List Nd)(wd:Int)(w:World)(e:Ending)(w':World):Prop:=
 (∃wa wc,e=.returned (.tuple #[.string (bT ds wd),.slice wa (bA ds wd).2.length wc,.agg #[.int .i64 (bA ds wd).1.1,.int .i64 (bA ds wd).1.2],q1m (bE ds wd)])/\w'.ownsRow w.heap.size 3 1 (.slice wa (bA ds wd).2.length wc) (bA ds wd).2.length (q0q (bA ds wd).2))/\Below w w w'
theorem v2g(ds:List Nd)(wd:Int)(a:Option Addr)(cap:Nat)(w:World)(hN:q2e w a ds)(h:q2x ds≠0):
  Calls prog 71 #[.slice a ds.length cap,.int .i64 wd] w fun e w'=>z7j ds wd w e w':=by
 have D:bE ds wd=q2x ds:=by rw[bE,if_neg h]
 have I:=v7c (ds:=ds) (wd:=wd) (by rw[D];exact h);have J:bT ds wd=⟨#[]⟩:=by rw[bT,if_neg (by rw[D];exact h)]
 have K:Hid (∀O,q2e (w.alloc O) a ds):=fun O=>hN.W ((Below.refl _ w).alloc Zl O)
 have H:Hid (q2x ds≠0):=h;unfold z7j;rw[D,I,J,q0k h];clear hN h D I J;go_in;go_wp2_with fail;refine(q2u ds a cap _ (K.o _)).mono ?_;rintro e C⟨rfl,E⟩;rw[q0k H.o];obtain⟨A,B⟩:=q1o E;have L:C.cell? ⟨w,0,none⟩=some (.int .i64 0):=(A _ _ (by simp)).trans (by simp[go_sem]);have M:C.cell? ⟨w,1,none⟩=some (.int .i64 0):=(A _ _ (by simp)).trans (by simp[go_sem]);have N:C.frozen? ⟨w,0,none⟩=false:=(B _ _ (by simp)).trans (by simp[go_sem]);have P:C.frozen? ⟨w,1,none⟩=false:=(B _ _ (by simp)).trans (by simp[go_sem]);have G:Below w w C:=((Below.refl _ w).alloc Zl _).trans (E.mono (by simp));clear A B E;go_wp2;refine bodyPost_ret (v:=.tuple #[.string ⟨#[]⟩,.slice none 0 0,.agg #[.int .i64 0,.int .i64 0],.iface 23 (.int .i64 (q2x ds))]) (by simp[results,Tryz.results71,go_sem,L,M]) rfl ?_;exact⟨⟨none,0,rfl,j8p _ _⟩,(G.setCell (p:=⟨w,0,none⟩) Zl _).setCell (p:=⟨w,1,none⟩) Zl _⟩
theorem k9s(ds:List Nd)(wd:Int)(a:Option Addr)(cap:Nat)(w:World)(hN:q2e w a ds)(h:q2x ds=0)(hw:wd<0\/100<wd):
  Calls prog 71 #[.slice a ds.length cap,.int .i64 wd] w fun e w'=>z7j ds wd w e w':=by
 have D:bE ds wd=1:=by rw[bE,if_pos h,if_pos hw]
 have I:=v7c (ds:=ds) (wd:=wd) (by rw[D];decide);have J:bT ds wd=⟨#[]⟩:=by rw[bT,if_neg (by rw[D];decide)]
 have K:Hid (∀O,q2e (w.alloc O) a ds):=fun O=>hN.W ((Below.refl _ w).alloc Zl O)
 have H:Hid (q2x ds=0):=h;unfold z7j;rw[D,I,J,z5x];clear hN h D I J;rcases hw with hw|hw
 case' inr=>have L:¬wd<0:=by omega
 all_goals
  go_in;go_wp2_with fail;refine(q2u ds a cap _ (K.o _)).mono ?_;rintro e C⟨rfl,E⟩;rw[H.o,q0n];obtain⟨A,B⟩:=q1o E;have M:C.cell? ⟨w,0,none⟩=some (.int .i64 0):=(A _ _ (by simp)).trans (by simp[go_sem]);have N:C.cell? ⟨w,1,none⟩=some (.int .i64 0):=(A _ _ (by simp)).trans (by simp[go_sem]);have P:C.frozen? ⟨w,0,none⟩=false:=(B _ _ (by simp)).trans (by simp[go_sem]);have Q:C.frozen? ⟨w,1,none⟩=false:=(B _ _ (by simp)).trans (by simp[go_sem]);have G:Below w w C:=((Below.refl _ w).alloc Zl _).trans (E.mono (by simp));clear A B E;go_wp2;refine bodyPost_ret (v:=.tuple #[.string ⟨#[]⟩,.slice none 0 0,.agg #[.int .i64 0,.int .i64 0],.iface 23 (.int .i64 1)]) (by simp[results,Tryz.results71,go_sem,M,N]) rfl ?_;exact⟨⟨none,0,rfl,j8p _ _⟩,(G.setCell (p:=⟨w,0,none⟩) Zl _).setCell (p:=⟨w,1,none⟩) Zl _⟩
theorem y0e(ds:List Nd)(t:Tr)(hd:ds=t.N)(ht:t.Wf)(hl:ds.length<=400)(wd:Nat)(hw:wd<=100)(a:Option Addr)(cap:Nat)(hc:ds.length<=cap)(w:World)(hN:q2e w a ds):
  Calls prog 71 #[.slice a ds.length cap,.int .i64 wd] w fun e w'=>z7j ds wd w e w':=by
 obtain⟨e0,e1⟩:=j2q ht hd hl hw;have R:=y4e ht wd;have e2:bT ds wd=shS (q6l ds (vv (q0a t) wd 0 0).2):=by rw[bT,if_pos e0,e1,R]
 have HR:Hid (z7j ds wd w=fun e w'=>(∃U wc,e=.returned (.tuple #[.string (shS (q6l ds (vv (q0a t) wd 0 0).2)),.slice U (vv (q0a t) wd 0 0).2.length wc,.agg #[.int .i64 (crs (q0a t) wd 0 0).o,.int .i64 (crs (q0a t) wd 0 0).l],.nilIface])/\w'.ownsRow w.heap.size 3 1 (.slice U (vv (q0a t) wd 0 0).2.length wc) (vv (q0a t) wd 0 0).2.length (q0q (vv (q0a t) wd 0 0).2))/\Below w w w'):=by
  show z7j ds wd w=_;have h3:=(j3w (wd:=wd) (c:=0) (z9w ht) (Nat.zero_le _)).1
  funext e w'
  unfold z7j;rw[e0,e1,e2,q0n,<-R];have h4:((vv (q0a t) wd 0 0).1.1:Int)=(crs (q0a t) wd 0 0).o:=by rw[h3]
  have h5:((vv (q0a t) wd 0 0).1.2:Int)=(crs (q0a t) wd 0 0).l:=by rw[h3]
  rw[h4,h5]
 rw[HR.o];have Af:0<(q0a t).length:=by rw[q2o];exact t.pos
 have Ag:(q0a t).length=ds.length:=by rw[q2o,hd];rfl
 have h0:q2x ds=0:=by rw[hd];exact z0q ht (by rw[<-hd];exact hl)
 have Am:t.sz<=400:=by unfold Tr.sz;rw[<-hd];exact hl
 have Av:ds≠[]:=by rw[hd];have:=t.pos;exact List.length_pos_iff.1 this
 have HN:Hid (q2e w a ds):=hN;have H0:Hid (q2x ds=0):=h0;have Ab:Hid (∀sb g mb,j2j sb g mb wd (q0a t) 0 0):=fun sb g mb=>v5m sb g mb ht Am hw (q0a t).length 0 0 (by omega) (Nat.zero_le _) (Nat.zero_le _)
 have u:Hid (∀sb g mb(W:World)S,Inv sb g mb wd (q0a t) W S->S 0 0=true->Calls prog 110 #[.pointer (some ⟨sb,0,none⟩)] W fun e w'=>(∃a cap,e=.returned (.slice a (vv (q0a t) wd 0 0).2.length cap)/\w'.ownsRow W.heap.size 3 1 (.slice a (vv (q0a t) wd 0 0).2.length cap) (vv (q0a t) wd 0 0).2.length (q0q (vv (q0a t) wd 0 0).2))/\Below W W w'):=fun sb g mb W S hI hS=>k0s sb g mb ht Am hw W S hI hS
 have HD:Hid (ds=t.N):=hd;have z:Hid ((q0a t).length=ds.length):=Ag
 have At:Hid ((vv (q0a t) wd 0 0).2.length<=9223372036854775807):=by
  show(vv (q0a t) wd 0 0).2.length<=_
  obtain⟨a',ha⟩:=j2y t wd;have hb:=q9l t wd;rw[q3c,<-R]at hb;have h1:=(q7x hb).1;have h2:=q9f t _ h1;rw[<-hd]at h2;omega
 have y:Hid (∀(s:Nat)(W:World),q0z s W a ds->s<W.heap.size->Calls prog 108 #[.slice a ds.length cap,.int .i64 wd] W fun e w'=>e=.returned (.agg #[.slice (some ⟨W.heap.size+1,0,none⟩) ds.length ds.length,.int .i64 wd])/\PwR w' (W.heap.size+1) ds.length (fun j=>q2 (q1e (q0a t) j))/\Below W W w'):=fun s W h1 h2=>k0v ds t HD.o ht hl a cap s wd hc W h1 h2
 have Ay:=@run_makeMap prog;have A0:¬(wd:Int)<0:=by omega
 have A1:¬(100:Int)<(wd:Int):=by omega
 clear hN h0 hd Ag e0 e1 e2 R HR;go_in;go_wp2_with fail;refine(q2u ds a cap _ (HN.o.W ((Below.refl _ w).alloc Zl _))).mono ?_;rintro e D⟨rfl,n⟩;rw[H0.o,q0n];have Ak:z3g D w.heap.size:=z3g.kept ⟨_,_,heap_alloc_new w (.cells #[.int .i64 0,.int .i64 0] 54)⟩ (n.block _ (by simp));have k0:D.cell? ⟨w,0,none⟩=some (.int .i64 0):=((q1o n).1 _ _ (by simp)).trans (by simp[go_sem]);have k1:D.cell? ⟨w,1,none⟩=some (.int .i64 0):=((q1o n).1 _ _ (by simp)).trans (by simp[go_sem]);have V:Hid (Below w w D):=((Below.refl _ w).alloc Zl _).trans (n.mono (by simp));have i:w.heap.size<D.heap.size:=by have:=n.size;simp at this;omega
 have O:Hid (D.cell? ⟨w,0,none⟩=some (.int .i64 0)/\D.cell? ⟨w,1,none⟩=some (.int .i64 0)/\z3g D w.heap.size):=⟨k0,k1,Ak⟩;clear Ak k0 k1 n;obtain⟨s,hs,Aj⟩:=(HN.o.W V.o).s Av;have Aq:Hid (q0z s D a ds):=Aj;clear Aj;go_wp2_with fail;refine(y.o s D Aq.o hs).mono ?_;rintro e B⟨rfl,f,K⟩;have q:Hid (Below w w B):=V.o.trans (K.mono V.o.size);have Az:=K.size;have Au:D.heap.size+1<B.heap.size:=f.row.lt;have P:Hid (B.cell? ⟨w,0,none⟩=some (.int .i64 0)/\B.cell? ⟨w,1,none⟩=some (.int .i64 0)/\z3g B w.heap.size):=⟨(K.cell (p:=⟨w,0,none⟩) i).trans O.o.1,(K.cell (p:=⟨w,1,none⟩) i).trans O.o.2.1,O.o.2.2.kept (K.block _ i)⟩
 have x:Hid (Inv (B.heap.size+1) (D.heap.size+1) B.heap.size wd (q0a t) ((B.alloc (.map #[] 0)).alloc (.cells #[.slice (some ⟨D.heap.size+1,0,none⟩) ds.length ds.length,.int .i64 wd,.map (some B.heap.size)] 170)) (fun _ _=>false)):=by
  refine⟨⟨?_,?_,?_⟩,?_,?_,fun p c h=>by cases h⟩
  ·rw[z.o];simp[go_sem]
  ·simp[go_sem]
  ·rw[z.o];exact f.kept ((Below.heap_alloc _ _ _ (by simp;omega)).trans (Below.heap_alloc _ _ _ Au))
  ·simp[go_sem]
  ·exact(Mem.made B _).kept (Below.heap_alloc _ _ _ (by simp))
 have Aa:Hid (∀W S,Inv (B.heap.size+1) (D.heap.size+1) B.heap.size wd (q0a t) W S->Calls prog 109 #[.pointer (some ⟨B.heap.size+1,0,none⟩),.agg #[.int .i64 0,.int .i64 0]] W fun e w'=>e=.returned (.agg #[.int .i64 (crs (q0a t) wd 0 0).o,.int .i64 (crs (q0a t) wd 0 0).l,.int .i64 (crs (q0a t) wd 0 0).ch,.int .i64 (crs (q0a t) wd 0 0).np,.int .i64 (crs (q0a t) wd 0 0).nc])/\Left (B.heap.size+1) (D.heap.size+1) B.heap.size wd (q0a t) S 0 0 0 W w'):=fun W S h=>by
  have:=Ab.o _ _ _ W S h
  rw[if_pos Af]at this;exact this
 clear f K;go_wp2_with fail;refine(Aa.o _ _ x.o).mono ?_;rintro e H⟨rfl,L,S',hI,_,_,Ah⟩;have C:((B.alloc (.map #[] 0)).alloc (.cells #[.slice (some ⟨D.heap.size+1,0,none⟩) ds.length ds.length,.int .i64 wd,.map (some B.heap.size)] 170)).heap.size=B.heap.size+1+1:=by simp
 have Aw:=L.size;rw[C]at Aw;have Ad:Below w w ((B.alloc (.map #[] 0)).alloc (.cells #[.slice (some ⟨D.heap.size+1,0,none⟩) ds.length ds.length,.int .i64 wd,.map (some B.heap.size)] 170)):=v2c (v2c q.o _) _;have X:Hid (Below w w H):=Ad.trans ((L.mono (B':=w.heap.size) (by rw[C];omega)).W (by omega))
 have Q:Hid (H.cell? ⟨w,0,none⟩=some (.int .i64 0)/\H.cell? ⟨w,1,none⟩=some (.int .i64 0)/\z3g H w.heap.size):=
  ⟨(L.cell (p:=⟨w,0,none⟩) (by rw[C];simp;omega) (by simp;omega)).trans (ka (ka P.o.1 _) _),(L.cell (p:=⟨w,1,none⟩) (by rw[C];simp;omega) (by simp;omega)).trans (ka (ka P.o.2.1 _) _),P.o.2.2.kept ((L.block _ (by rw[C];omega) (by omega)).trans ((Below.heap_alloc _ _ _ (by simp;omega)).trans (Below.heap_alloc _ _ _ (by omega))))⟩
 have Y:Hid (Inv (B.heap.size+1) (D.heap.size+1) B.heap.size wd (q0a t) H S'/\S' 0 0=true):=⟨hI,Ah Af⟩;clear L hI Ah Ad C x Aa Ab y q P O;generalize Ai:crs (q0a t) wd 0 0=k at *;have Ap:Hid (crs (q0a t) wd 0 0=k):=Ai;clear Ai;go_wp2_with fail;refine(u.o _ _ _ _ _ (Y.o.1.alloc _) Y.o.2).mono ?_;rintro e J⟨⟨U,wc,rfl,A⟩,E⟩;obtain⟨_,_,Ax,Ae,_⟩:=z9q A;have d:Below w w J:=(v2c X.o _).trans (E.mono (by have:=X.o.size;simp;omega));have r:Hid (Below w w J):=d;have G:H.heap.size<J.heap.size:=by have:=E.size;simp at this;omega
 have m:=X.o.size
 have Z:Hid (J.cell? ⟨w,0,none⟩=some (.int .i64 0)/\J.cell? ⟨w,1,none⟩=some (.int .i64 0)/\z3g J w.heap.size):=
  ⟨(E.cell (p:=⟨w,0,none⟩) (by simp;omega)).trans (ka Q.o.1 _),(E.cell (p:=⟨w,1,none⟩) (by simp;omega)).trans (ka Q.o.2.1 _),Q.o.2.2.kept ((E.block _ (by simp;omega)).trans (Below.heap_alloc _ _ _ (by omega)))⟩
 have u0:J.drew.cell? ⟨H,0,none⟩=some (.int .i64 k.o):=(E.cell (p:=⟨H,0,none⟩) (by simp)).trans (by simp[go_sem]);have u1:J.drew.cell? ⟨H,1,none⟩=some (.int .i64 k.l):=(E.cell (p:=⟨H,1,none⟩) (by simp)).trans (by simp[go_sem])
 have As:Hid (Calls prog 111 #[.slice a ds.length cap,.slice U (vv (q0a t) wd 0 0).2.length wc] J.drew fun e w'=>e=.returned (.string (shS (q6l ds (vv (q0a t) wd 0 0).2)))/\Below J.drew.heap.size J.drew w'):=
  j3i ds (vv (q0a t) wd 0 0).2 a U cap wc hc Ax At.o J.drew (HN.o.W d.drew) (q7w.W Ae (Below.refl _ J).drew)
 have Ar:Hid (∀W:World,(∀b,H.heap.size<=b->b<J.heap.size->W.heap[b]?=J.heap[b]?)->W.ownsRow w.heap.size 3 1 (.slice U (vv (q0a t) wd 0 0).2.length wc) (vv (q0a t) wd 0 0).2.length (q0q (vv (q0a t) wd 0 0).2)):=fun W hW=>by
  have h1:=z0i (w':=W) A fun b hb=>hW b (by have:=v9c A hb;simp at this;omega) (z0j A hb).1
  exact v5j h1 (by simp;omega)
 have M:Hid (w.heap.size<H.heap.size):=(show w.heap.size<H.heap.size by omega);clear A Ae d E u Y Q;generalize Ao:(vv (q0a t) wd 0 0).2=us at *;generalize An:shS (q6l ds us)=tx at *;have Ac:Hid ((vv (q0a t) wd 0 0).2=us/\shS (q6l ds us)=tx):=⟨Ao,An⟩;clear Ao An;go_wp2_with fail
 go_region_held3 (fun w'=>w'.cell? ⟨H,0,none⟩=some (.int .i64 k.o)/\w'.cell? ⟨H,1,none⟩=some (.int .i64 k.l))
  (first|with_reducible exact⟨u0,u1⟩|with_reducible exact⟨u07,u17⟩|with_reducible exact⟨(cso (.inl (Nat.ne_of_lt M.o))).trans ((cso (.inl (Nat.ne_of_lt M.o))).trans u07),(cso (.inl (Nat.ne_of_lt M.o))).trans ((cso (.inl (Nat.ne_of_lt M.o))).trans u17)⟩)
  ((go_at_call 111;refine As.o.mono ?_;rintro e w7⟨rfl,I⟩;have u07:=(I.cell (p:=⟨H,0,none⟩) G).trans u0;have u17:=(I.cell (p:=⟨H,1,none⟩) G).trans u1;have k0:=(I.cell (p:=⟨w,0,none⟩) (Nat.lt_of_le_of_lt m G)).trans Z.o.1;have k1:=(I.cell (p:=⟨w,1,none⟩) (Nat.lt_of_le_of_lt m G)).trans Z.o.2.1;have Al:=Z.o.2.2.kept (I.block w.heap.size (Nat.lt_of_le_of_lt m G));have f0:w7.frozen? ⟨w,0,none⟩=false:=Al.frozen;have f1:w7.frozen? ⟨w,1,none⟩=false:=Al.frozen))
 all_goals
  go_wp2;refine bodyPost_ret (v:=.tuple #[.string tx,.slice U us.length wc,.agg #[.int .i64 k.o,.int .i64 k.l],.nilIface]) (by simp[results,Tryz.results71,go_sem,k0,k1]) rfl ?_;rw[Ac.o.1,Ac.o.2,Ap.o];refine⟨⟨U,wc,rfl,Ar.o _ fun b hb1 hb2=>?_⟩,?_⟩
  ·have h5:=M.o;exact(Below.heap_setCell _ _ _ _ (by simp;omega)).trans ((Below.heap_setCell _ _ _ _ (by simp;omega)).trans (I.block b hb2))
  ·exact((r.o.drew.trans (I.mono r.o.size)).setCell (p:=⟨w,0,none⟩) Zl _).setCell (p:=⟨w,1,none⟩) Zl _
theorem j2t(ds:List Nd)(wd:Int)(a:Option Addr)(cap:Nat)(hc:ds.length<=cap)(w:World)(hN:q2e w a ds):
  Calls prog 71 #[.slice a ds.length cap,.int .i64 wd] w fun e w'=>z7j ds wd w e w':=by
 by_cases h:q2x ds=0
 ·by_cases A:wd<0\/100<wd
  ·exact k9s ds wd a cap w hN h A
  ·obtain⟨n,rfl⟩:∃n:Nat,wd=n:=⟨wd.toNat,by omega⟩;exact y0e ds _ (q4e h) (z1g h) (q5l h).1 n (by omega) a cap hc w hN
 ·exact v2g ds wd a cap w hN h
def Bx(w:World)(b:Nat)(o l:Int):Prop:=w.cell? ⟨b,0,none⟩=some (.int .i64 o)/\w.cell? ⟨b,1,none⟩=some (.int .i64 l)
theorem Bx.W{w w':World}{b:Nat}{o l:Int}(h:Bx w b o l)(hb:Below w w w'):Bx w' b o l:=
 ⟨(hb.cell (p:=⟨b,0,none⟩) (World.block_lt_of_cell? w ⟨b,0,none⟩ h.1)).trans h.1,(hb.cell (p:=⟨b,1,none⟩) (World.block_lt_of_cell? w ⟨b,0,none⟩ h.1)).trans h.2⟩
theorem Bx.alloc{w:World}{b:Nat}{o l:Int}(h:Bx w b o l)(O:Obj):Bx (w.alloc O) b o l:=⟨ka h.1 O,ka h.2 O⟩
theorem Bx.new(w:World)(o l:Int)(T:TypeId):Bx (w.alloc (.cells #[.int .i64 o,.int .i64 l] T)) w.heap.size o l:=⟨by simp[go_sem],by simp[go_sem]⟩
theorem Bx.drew{w:World}{b:Nat}{o l:Int}(h:Bx w b o l):Bx w.drew b o l:=h
end Go.Proofs.YtfdppahhbpfnoaaGreatDoor
