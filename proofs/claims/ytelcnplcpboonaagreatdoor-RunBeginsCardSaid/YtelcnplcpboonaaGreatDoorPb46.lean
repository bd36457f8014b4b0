import Derived.Test.YtelcnplcpboonaaGreatDoorPb45
import Derived.Test.YtelcnplcpboonaaGreatDoorPb39
open Go.Proofs.Tryz
namespace Go.Proofs.YtelcnplcpboonaaGreatDoor
open Go Go.RowKit
set_option maxRecDepth 100000
set_option maxHeartbeats 4000000
theorem k2q(Q:v7u){σ:Ss}(B M d:Nat)(hM:B<=M)(w:World)(hS:SeM w M d σ)(S:σ.tx.length<=999999)(j:RtB B w):
  Calls prog 26 #[.pointer (some ⟨M,0,none⟩),.string ⟨#[108,111,111,107]⟩] w fun e w'=>z1b M d σ .look 0 w e w':=by
 have Y:Hid (Calls prog 41 #[.string ⟨#[108,111,111,107]⟩,.string ⟨#[43]⟩] w fun e w'=>e=.returned (.tuple #[.string ⟨#[108,111,111,107]⟩,.bool false])/\w=w'):=q3c _ (by decide) w;have Z:Hid (Calls prog 41 #[.string ⟨#[108,111,111,107]⟩,.string ⟨#[119,105,100,101,32]⟩] w fun e w'=>e=.returned (.tuple #[.string ⟨#[108,111,111,107]⟩,.bool false])/\w=w'):=q4f _ (by decide) w;have m:Hid (∀W,Below w w W->Rtb W):=fun W hx=>j W (hx.mono (by have:=hS.lt;omega))
 have HS:Hid (SeM w M d σ):=hS;have c0:=hS.cell0;have s:=hS.cell1;have d0:w.drew.cell? ⟨M,0,none⟩=some (.pointer (some ⟨d,0,none⟩)):=c0;have d1:w.drew.cell? ⟨M,1,none⟩=some (.string (wbS σ.tx)):=s;have J:Hid (Below w w w.drew):= Zb.drew;obtain⟨_,_,_,q⟩:=hS.sh;have z:=q.w1;have Aa:=q.w2;have O:¬((σ.wd:Int)<10\/100<(σ.wd:Int)):=by omega
 have U:Hid (∀W,SeM W M d σ->Calls prog 49 #[.pointer (some ⟨d,0,none⟩)] W fun e w'=>e=.returned (.int .i64 (σ.wd:Int))/\W=w'):=fun W hs=>k7w W hs.sh
 have L:Hid (SeM w.drew M d σ):=hS.W Zb.drew;clear hS j hM q z Aa;by_cases u:y9q σ.tx
 ·obtain⟨I,g,hz⟩:=u;have c:=v6f σ.tx (q2j σ.wd I) 0;have y:=v6g σ.tx (q2j σ.wd I) 0;have HL:Hid (LnR σ .look (lkA (fdL σ.tx (q2j σ.wd I) 0)) σ):=.look g hz
  have H:Hid (∀W,Below w w W->Calls prog 48 #[.string (wbS σ.tx),.int .i64 (σ.wd:Int)] W fun e w'=>e=.returned (.tuple #[.int .i64 (fdL σ.tx (q2j σ.wd I) 0),.int .i64 0,.nilIface])/\Below w w w'):=fun W hb=>by
   refine(Q _ _ W (m.o W hb).tabs).mono ?_;rintro e w'⟨T,k,f,rfl,t,N⟩;refine⟨?_,q0g hb Zl N⟩;cases t with
   | range h=>exact absurd h O
   | bad _ h1 h2=>exact absurd (q0p h1 g).2.2 h2
   | full _ h1 h2=>
    obtain⟨rfl,_⟩:=q0p h1 g;exact absurd hz h2
   | ok _ h1 _=>
    obtain⟨rfl,_⟩:=q0p h1 g;rw[if_pos rfl,Int.toNat_natCast];rfl
  have r:Hid (∀W,Below w w W->Calls prog 45 #[.int .i64 (fdL σ.tx (q2j σ.wd I) 0),.int .i64 0,.nilIface] W fun e w'=>e=.returned (.string (wbS (lkA (fdL σ.tx (q2j σ.wd I) 0))))/\Below w w w'):=fun W hb=>(k0l _ _ c (by omega) W (m.o W hb)).mono fun e w' q=>⟨q.1,q0g hb Zl q.2⟩
  have a:Hid ((lkA (fdL σ.tx (q2j σ.wd I) 0)).length<=100000000):=by
   show _<=_;unfold lkA
   split
   ·decide
   ·have:=q3f 8 (fdL σ.tx (q2j σ.wd I) 0).toNat (by omega)
    rw[List.length_append,List.length_singleton];omega
  clear g hz c y S O;generalize lkA (fdL σ.tx (q2j σ.wd I) 0)=A at HL r a;generalize fdL σ.tx (q2j σ.wd I) 0=x at H r;generalize wbS σ.tx=T at s d1 H
  generalize(σ.wd:Int)=wv at U H
  go_in;go_wp2_with fail;refine Y.o.mono ?_;rintro e V⟨rfl,rfl⟩;go_wp2_with fail;refine Z.o.mono ?_;rintro e V⟨rfl,rfl⟩;go_wp2_with fail
  go_region_with (first
   | (go_at_call 49;refine(U.o _ ?_).mono ?_;exact L.o;rintro e C⟨rfl,rfl⟩)
   | (go_at_call 48;refine(H.o _ ?_).mono ?_;exact J.o;rintro e C⟨rfl,G⟩;have p:Hid (Below w w C):=G;clear G)
   | (go_at_call 45;refine(r.o _ ?_).mono ?_;exact p.o;rintro e l⟨rfl,o⟩;have X:Hid (Below w w l):=o;clear o))
  all_goals
   go_wp2;go_ret;exact z1b.ok HL.o (HS.o.W X.o) a.o Zl (Ex.of X.o)
 ·have H:Hid (∀W,Below w w W->Calls prog 48 #[.string (wbS σ.tx),.int .i64 (σ.wd:Int)] W fun e w'=>∃(k:Nat)(f:Int),e=.returned (.tuple #[.int .i64 0,.int .i64 (k:Int),q0s f])/\(Ern f/\k<=999999/\LnR σ .look (erA k f) σ)/\Below w w w'):=fun W hb=>by
   refine(Q _ _ W (m.o W hb).tabs).mono ?_;rintro e w'⟨T,k,f,rfl,t,N⟩;cases t with
   | range h=>exact absurd h O
   | bad _ h1 h2=>
    obtain⟨R,n,rfl,h4⟩:=v6e S h1 h2;exact⟨n,f,by rw[if_neg h2],⟨R,h4,.lookE h1 h2⟩,q0g hb Zl N⟩
   | full _ h1 h2=>exact⟨0,_,by rw[if_neg h2];rfl,⟨v6j h2,by decide,.lookF h1 h2⟩,q0g hb Zl N⟩
   | ok _ h1 h2=>exact absurd ⟨_,h1,h2⟩ u
  clear u S O;generalize wbS σ.tx=T at s d1 H
  generalize(σ.wd:Int)=wv at U H
  have E:Hid (∀C(k:Nat)(f:Int),(Ern f/\k<=999999/\LnR σ .look (erA k f) σ)->Below w w C->Calls prog 45 #[.int .i64 0,.int .i64 (k:Int),q0s f] C fun e w'=>e=.panicked [j9z (erA k f)]/\z1b M d σ .look 0 w (.panicked [j9z (erA k f)]) w'):=fun C k f D hb=>by
   refine(k0k D.1 0 k D.2.1 C (m.o C hb)).mono ?_;rintro e l⟨rfl,o⟩;have b:=q0g hb Zl o;exact⟨rfl,z1b.bad D.2.2 (HS.o.W b) (j3g D.2.1 f) Zl (Ex.of b)⟩
  go_in;go_wp2_with fail;refine Y.o.mono ?_;rintro e V⟨rfl,rfl⟩;go_wp2_with fail;refine Z.o.mono ?_;rintro e V⟨rfl,rfl⟩;go_wp2_with fail
  go_region_dies
  ·refine(U.o _ ?_).mono ?_
   ·exact L.o
   rintro e V⟨rfl,rfl⟩;rename_i K hK;refine hK _ _ ?_;clear hK K;refine wpAny_ready (rs:=[9]) (by kernel_rfl) (by simp) ?_;refine AllReady.cons rfl (fun K hK=>?_) AllReady.nil
   go_simp
   refine(H.o _ ?_).mono ?_
   ·exact J.o
   rintro e C⟨k,f,rfl,D,G⟩;have P:=E.o C k f D G;clear D G;generalize q0s f=EV at P;refine hK _ _ ?_;clear hK K;refine wpAny_take (i:=10) (v:=.int .i64 0) rfl (by kernel_rfl) (by kernel_rfl) (by kernel_rfl) (fun _ _ _ h=>h) (Or.inl ⟨by rfl,(by intro W;go_simp)⟩) ?_;refine wpAny_take (i:=11) (v:=.int .i64 (k:Int)) rfl (by kernel_rfl) (by kernel_rfl) (by kernel_rfl) (fun _ _ _ h=>h) (Or.inl ⟨by rfl,(by intro W;go_simp)⟩) ?_;refine wpAny_take (i:=12) (v:=EV) rfl (by kernel_rfl) (by kernel_rfl) (by kernel_rfl) (fun _ _ _ h=>h) (Or.inl ⟨by rfl,(by intro W;go_simp)⟩) ?_;refine wpAny_ready (rs:=[13]) (by kernel_rfl) (by simp) ?_;refine AllReady.cons rfl (fun K hK=>?_) AllReady.nil
   go_simp
   refine P.mono ?_;rintro e l⟨rfl,R⟩;exact⟨rfl,R⟩
  ·refine(U.o _ ?_).mono ?_
   ·exact L.o
   rintro e V⟨rfl,rfl⟩;rename_i K hK;refine hK _ _ ?_;clear hK K;refine wpAny_ready (rs:=[9]) (by kernel_rfl) (by simp) ?_;refine AllReady.cons rfl (fun K hK=>?_) AllReady.nil
   go_simp
   refine(H.o _ ?_).mono ?_
   ·exact J.o
   rintro e C⟨k,f,rfl,D,G⟩;have P:=E.o C k f D G;clear D G;generalize q0s f=EV at P;refine hK _ _ ?_;clear hK K;refine wpAny_take (i:=10) (v:=.int .i64 0) rfl (by kernel_rfl) (by kernel_rfl) (by kernel_rfl) (fun _ _ _ h=>h) (Or.inl ⟨by rfl,(by intro W;go_simp)⟩) ?_;refine wpAny_take (i:=11) (v:=.int .i64 (k:Int)) rfl (by kernel_rfl) (by kernel_rfl) (by kernel_rfl) (fun _ _ _ h=>h) (Or.inl ⟨by rfl,(by intro W;go_simp)⟩) ?_;refine wpAny_take (i:=12) (v:=EV) rfl (by kernel_rfl) (by kernel_rfl) (by kernel_rfl) (fun _ _ _ h=>h) (Or.inl ⟨by rfl,(by intro W;go_simp)⟩) ?_;refine wpAny_ready (rs:=[13]) (by kernel_rfl) (by simp) ?_;refine AllReady.cons rfl (fun K hK=>?_) AllReady.nil
   go_simp
   refine P.mono ?_;rintro e l⟨rfl,R⟩;exact⟨rfl,R⟩
  ·refine(U.o _ ?_).mono ?_
   ·exact L.o
   rintro e V⟨rfl,rfl⟩;rename_i K hK;refine hK _ _ ?_;clear hK K;refine wpAny_ready (rs:=[3]) (by kernel_rfl) (by simp) ?_;refine AllReady.cons rfl (fun K hK=>?_) AllReady.nil
   go_simp
   refine hK _ _ ?_;clear hK K;refine wpAny_ready (rs:=[9]) (by kernel_rfl) (by simp) ?_;refine AllReady.cons rfl (fun K hK=>?_) AllReady.nil
   go_simp
   refine(H.o _ ?_).mono ?_
   ·exact J.o
   rintro e C⟨k,f,rfl,D,G⟩;have P:=E.o C k f D G;clear D G;generalize q0s f=EV at P;refine hK _ _ ?_;clear hK K;refine wpAny_take (i:=10) (v:=.int .i64 0) rfl (by kernel_rfl) (by kernel_rfl) (by kernel_rfl) (fun _ _ _ h=>h) (Or.inl ⟨by rfl,(by intro W;go_simp)⟩) ?_;refine wpAny_take (i:=11) (v:=.int .i64 (k:Int)) rfl (by kernel_rfl) (by kernel_rfl) (by kernel_rfl) (fun _ _ _ h=>h) (Or.inl ⟨by rfl,(by intro W;go_simp)⟩) ?_;refine wpAny_take (i:=12) (v:=EV) rfl (by kernel_rfl) (by kernel_rfl) (by kernel_rfl) (fun _ _ _ h=>h) (Or.inl ⟨by rfl,(by intro W;go_simp)⟩) ?_;refine wpAny_ready (rs:=[13]) (by kernel_rfl) (by simp) ?_;refine AllReady.cons rfl (fun K hK=>?_) AllReady.nil
   go_simp
   refine P.mono ?_;rintro e l⟨rfl,R⟩;exact⟨rfl,R⟩
theorem k3v(L:v7u){σ:Ss}(l:ByteArray)(hl:l.size<=3000)(B M d:Nat)(hM:B<=M)(hd:B<=d)(w:World)(hS:SeM w M d σ)(N:σ.tx.length<=999999)(G:RtB B w):
  Calls prog 26 #[.pointer (some ⟨M,0,none⟩),.string l] w fun e w'=>z1b M d σ (kdL (btL l)) l.size w e w':=by
 have I:∀{k K O w'}{e:Ending},K<=O->z1b M d σ k K w e w'->z1b M d σ k O w e w':=by
  intro k K O w' e U h;cases h with
  | ok A H D J E=>exact .ok A H D (by omega) E
  | bad A H D J E=>exact .bad A H D (by omega) E
 have C:∀u:List UInt8,btL l=u->l=wbS u:=fun u h=>by rw[<-h];rfl
 by_cases A:(btL l).head?=some 43
 ·have S:0<l.size:=by
   rcases Nat.eq_zero_or_pos l.size with P|P
   ·have:btL l=[]:=List.eq_nil_of_length_eq_zero (by rw[q0b];exact P)
    rw[this]at A;cases A
   ·exact P
  refine k8j l hl S ?_ M d w hS (by omega);rw[List.head?_eq_getElem?,List.getElem?_eq_getElem (by rw[q0b];exact S)]at A;exact Option.some.inj A
 ·by_cases H:(btL l).take 5=z4v
  ·exact(k2s l hl H B M d hM hd w hS G).mono fun e w' h=>I (Nat.zero_le _) h
  ·by_cases D:btL l=y3l
   ·rw[D,v9v,C _ D];exact(k8l B M d hM hd w hS N G).mono fun e w' h=>I (Nat.zero_le _) h
   ·by_cases J:btL l=k9y
    ·rw[J,v2f,C _ J];exact(k2r M d w hS).mono fun e w' h=>I (Nat.zero_le _) h
    ·by_cases E:btL l=k8v
     ·rw[E,v2e,C _ E];exact(k2q L B M d hM w hS N G).mono fun e w' h=>I (Nat.zero_le _) h
     ·by_cases Q:btL l=v1i
      ·rw[Q,v2d,C _ Q];exact(k2p M d w hS).mono fun e w' h=>I (Nat.zero_le _) h
      ·have R:kdL (btL l)=.bad:=by rw[kdL,if_neg A,if_neg H,if_neg D,if_neg J,if_neg E,if_neg Q]
       rw[R];exact(k8k l R M d w hS).mono fun e w' h=>I (Nat.zero_le _) h
theorem k1u(a:Addr)(w:World):CallsD prog 25 #[.pointer (some a)] .returning w fun e u' w'=>e=.returned (.tuple #[])/\u'=.returning/\Below w w w':=by
 have A:∀W:World,(Instr.typeAssert .nilIface 20 66 true).run prog W=.ok (.tuple #[.agg #[.string ⟨#[]⟩],.bool false]) W:=fun W=>by kernel_rfl
 refine callsD_of_wpS func25 rfl fun c₀ cs hu=>?_
 apply wpS_seq;apply wpS_region;simp[wpOpsS,go_sem,recoverD,hu,ntmps25,Exit.thenS];refine wpS_of_wp ?_;change Code.wp _ _ _ {tmps:=#[.pointer (some a),.nilIface,undef,undef,.nilIface,undef,undef,undef,undef,undef,undef,undef,undef,undef,undef,undef],defers:=[]} _;go_wp2;refine⟨rfl,.returning,?_,_,results_none rfl _ _ _,rfl,rfl,q1c w _⟩;cases c₀;simp_all
theorem k1v(ba:Nat)(A:ByteArray)(w:World)(va:Value)(ha:w.cell? ⟨ba,0,none⟩=some va)(fa:w.frozen? ⟨ba,0,none⟩=false)(la:ba<w.heap.size):
  CallsD prog 25 #[.pointer (some ⟨ba,0,none⟩)] (.panicking [{v:=.iface 66 (.agg #[.string A]),recovered:=false}]) w fun e u' w'=>e=.returned (.tuple #[])/\u'=.panicking [{v:=.iface 66 (.agg #[.string A]),recovered:=true}]/\w'.cell? ⟨ba,0,none⟩=some (.string A)/\Ex (fun k=>k=ba) w w':=by
 have C:∀W:World,(Instr.typeAssert (.iface 66 (.agg #[.string A])) 20 66 true).run prog W=.ok (.tuple #[.agg #[.string A],.bool true]) W:=fun W=>by kernel_rfl
 refine callsD_of_wpS func25 rfl fun c₀ cs hu=>?_
 apply wpS_seq;apply wpS_region;simp[wpOpsS,go_sem,recoverD,hu,ntmps25,Exit.thenS];refine wpS_of_wp ?_;change Code.wp _ _ _ {tmps:=#[.pointer (some ⟨ba,0,none⟩),.iface 66 (.agg #[.string A]),undef,undef,.iface 66 (.agg #[.string A]),undef,undef,undef,undef,undef,undef,undef,undef,undef,undef,undef],defers:=[]} _;go_wp2;have D:Ex (fun k=>k=ba) w (w.setCell ⟨ba,0,none⟩ (.string A)):=Ex.at (S:=fun k=>k=ba) (p:=⟨ba,0,none⟩) (show ba=ba from rfl) _;have B:=q1c (w.setCell ⟨ba,0,none⟩ (.string A)) (.cells #[.string A] 66);refine⟨rfl,_,rfl,_,results_none rfl _ _ _,rfl,rfl,((q0t B).1 _ _ (by rw[World.size_setCell];exact la)).trans (css ha),D.trans (Ex.of B)⟩
theorem k3u(D:v7u){σ:Ss}(l:ByteArray)(hl:l.size<=3000)(B M d:Nat)(hM:B<=M)(hd:B<=d)(w:World)(hS:SeM w M d σ)(V:σ.tx.length<=999999)(P:RtB B w):
  Calls prog 11 #[.pointer (some ⟨M,0,none⟩),.string l] w fun e w'=>∃ans τ,e=.returned (.string (wbS ans))/\LnR σ (kdL (btL l)) ans τ/\SeM w' M d τ/\ans.length<=100000000/\τ.tx.length<=σ.tx.length+l.size/\Ex (q9x M d) w w':=by
 have t:∀(fn:Fn)(first cap:Array Value)(w:World),(Instr.makeFunc fn first cap).run prog w=.ok (.func fn first cap) w:=fun _ _ _ _=>rfl
 have H:=q1c w (.cells #[.string ⟨#[]⟩] 9);have m:Hid (Calls prog 26 #[.pointer (some ⟨M,0,none⟩),.string l] (w.alloc (.cells #[.string ⟨#[]⟩] 9)) fun e w'=>z1b M d σ (kdL (btL l)) l.size (w.alloc (.cells #[.string ⟨#[]⟩] 9)) e w'):=k3v D l hl B M d hM hd _ (hS.W H) V (P.to (H.mono (by have:=hS.lt;omega)));have q:=hS.lt;have r:=hS.sh.lt;clear hS P D H;go_enter_defers func11,ntmps11;go_wp2_with fail;refine m.o.mono ?_;intro e A g;have E:=heap_alloc_new w (.cells #[.string ⟨#[]⟩] 9)
 have J:Ex (q9x M d) w A/\Ex (q9x M d) (w.alloc (.cells #[.string ⟨#[]⟩] 9)) A:=by
  cases g with
  | ok _ _ _ _ h5=>exact⟨(Ex.of (q1c w _)).trans h5,h5⟩
  | bad _ _ _ _ h5=>exact⟨(Ex.of (q1c w _)).trans h5,h5⟩
 have I:A.heap[w.heap.size]?=some (.cells #[.string ⟨#[]⟩] 9 (0,0)):=(J.2.block _ (by simp) (by rintro(e|e)<;>omega)).trans E;have j:A.cell? ⟨w,0,none⟩=some (.string ⟨#[]⟩):=by rw[Lib.cell_of_heap I];rfl
 have n:A.frozen? ⟨w,0,none⟩=false:=Lib.frozen_of_heap I 0;have a:Hid (Ex (q9x M d) w A):=J.1
 have Z:Hid (∀k,k=w.heap.size->NoD A k):=by
  rintro k rfl;refine⟨fun o z s c1 _=>?_,fun cs f _ o s c1=>?_,fun es c e=>?_⟩
  ·rw[Lib.cell_of_heap I]at c1;rcases o with _|o<;>simp at c1
  ·rw[Lib.cell_of_heap I]at c1;rcases o with _|o<;>simp at c1
   rw[<-c1];rfl
  ·rw[I]at e;cases e
 have O:w.heap.size<A.heap.size:=(Array.getElem?_eq_some_iff.1 I).1;clear J E I;cases g with
 | @ok ans τ _ h1 h2 h3 h4 _=>
  have G:Hid (LnR σ (kdL (btL l)) ans τ/\ans.length<=100000000/\τ.tx.length<=σ.tx.length+l.size):=⟨h1,h3,h4⟩;have C:Ex (fun k=>k=w.heap.size) A (A.setCell ⟨w,0,none⟩ (.string (wbS ans))):=Ex.at (S:=fun k=>k=w.heap.size) (p:=⟨w,0,none⟩) (show w.heap.size=w.heap.size from rfl) _;have L:Hid (SeM (A.setCell ⟨w,0,none⟩ (.string (wbS ans))) M d τ):=h2.ex C Z.o (by omega) (by omega);have N:Hid (Ex (q9x M d) w (A.setCell ⟨w,0,none⟩ (.string (wbS ans)))):=a.o.fresh C (by rintro i rfl;exact Nat.le_refl _);have K:Hid ((A.setCell ⟨w,0,none⟩ (.string (wbS ans))).cell? ⟨w,0,none⟩=some (.string (wbS ans))):=css j;have b:Hid (w.heap.size<(A.setCell ⟨w,0,none⟩ (.string (wbS ans))).heap.size):=(show _<_ by rw[World.size_setCell];exact O);clear h1 h2 h3 h4 C;go_wp2;generalize u:A.setCell ⟨w,0,none⟩ (.string (wbS ans))=W at L N K b⊢;refine leaves_cons (f:=25) (args:=#[.pointer (some ⟨w,0,none⟩)]) (by simp) (by simp[go_sem]) ?_;refine(k1u ⟨w,0,none⟩ W).mono ?_;rintro e Y w'⟨rfl,rfl,U⟩;have X:w'.cell? ⟨w,0,none⟩=some (.string (wbS ans)):=((q0t U).1 _ _ b.o).trans K.o;simp[Leaves,settle,results,Tryz.results11,go_sem,X];exact⟨ans,rfl,τ,G.o.1,L.o.W U,G.o.2.1,G.o.2.2,N.o.trans (Ex.of U)⟩
 | @bad ans τ _ h1 h2 h3 h4 _=>
  have G:Hid (LnR σ (kdL (btL l)) ans τ/\ans.length<=100000000/\τ.tx.length<=σ.tx.length+l.size):=⟨h1,h3,h4⟩;have R:Hid (SeM A M d τ):=h2;have Q:Hid (CallsD prog 25 #[.pointer (some ⟨w,0,none⟩)] (.panicking [{v:=.iface 66 (.agg #[.string (wbS ans)]),recovered:=false}]) A fun e Y w'=>e=.returned (.tuple #[])/\Y=.panicking [{v:=.iface 66 (.agg #[.string (wbS ans)]),recovered:=true}]/\w'.cell? ⟨w,0,none⟩=some (.string (wbS ans))/\Ex (fun k=>k=w.heap.size) A w'):=k1v w.heap.size (wbS ans) A _ j n O;clear h1 h2 h3 h4;go_wp2;refine leaves_cons (f:=25) (args:=#[.pointer (some ⟨w,0,none⟩)]) (by simp) (by simp[go_sem]) ?_;refine Q.o.mono ?_;rintro e Y w'⟨rfl,rfl,X,h⟩;simp[Leaves,settle,results,Tryz.results11,go_sem,X];exact⟨ans,rfl,τ,G.o.1,R.o.ex h Z.o (by omega) (by omega),G.o.2.1,G.o.2.2,a.o.fresh h (by rintro i rfl;exact Nat.le_refl _)⟩
end Go.Proofs.YtelcnplcpboonaaGreatDoor
namespace Go.Proofs.YtelcnplcpboonaaGreatDoor
open Go Go.RowKit Go.Shelf
attribute [local go_sem] Oper.semAt_some
set_option maxRecDepth 100000
set_option maxHeartbeats 4000000
theorem k9i(w:World):Calls prog 8 #[] w fun e w'=>∃M d,e=.returned (.pointer (some ⟨M,0,none⟩))/\SeM w' M d ⟨[],[],40⟩/\w.heap.size<=M/\w.heap.size<=d/\Below w w w':=by
 have G:Hid (Calls prog 21 #[.int .i64 ((40:Nat):Int)] w fun e w'=>e=.returned (.tuple #[.pointer (some ⟨w,0,none⟩),.nilIface])/\q4l 93 w' w.heap.size [] 40/\Below w w w'):=v9f (by decide) (by decide) w;go_in;go_wp2_with fail;refine G.o.mono ?_;rintro e A⟨rfl,B,C⟩;have H:Hid (q4l 93 A w.heap.size [] 40):=B;have E:Hid (Below w w A):=C;have I:=B.lt;clear B C;go_wp2;go_ret;have D:=q1c A (.cells #[.pointer (some ⟨w,0,none⟩),.string ⟨#[]⟩] 62);exact⟨A.heap.size,w.heap.size,rfl,⟨heap_alloc_new A _,H.o.W D,by omega⟩,by omega,Nat.le_refl _,q0g E.o Zl D⟩
structure j0w(w:World)(sb M d:Nat)(pre:List LnT)(ans:List UInt8)(σ:Ss)(W:World):Prop where
 r:RnR ⟨[],[],40⟩ (pcL pre) ans σ
 se:SeM W M d σ
 tx:σ.tx.length<=(lnF (pcL pre)).length
 al:ans.length<=pre.length*100000000
 u:IsU (sb+1) (sb+1) ans W
 sb:W.heap[sb]?=some (.cells #[.pointer (some ⟨M,0,none⟩)] 33 (0,0))
 bl:Below w w W
section
variable {w W W':World} {sb M d:Nat} {pre:List LnT} {ans:List UInt8} {σ:Ss}
theorem j0w.apart(h:j0w w sb M d pre ans σ W):¬Bd W (sb+1) M/\¬Bd W (sb+1) d/\¬Bd W (sb+1) sb/\sb≠M/\sb≠d:=by
 obtain⟨D,C,B,_⟩:=h.se.sh;refine⟨h.u.not h.se.se (by decide) (by decide),h.u.not B (by decide) (by decide),h.u.not h.sb (by decide) (by decide),?_,?_⟩
 ·rintro rfl;have A:=h.sb;rw[h.se.se]at A;cases A
 ·rintro rfl;have A:=h.sb;rw[B]at A;cases A
theorem j0w.turn{S:Nat->Prop}(h:j0w w sb M d pre ans σ W)(hx:Ex S W W')(hb:∀k,S k->j9v W k)(hw:∀k,S k->w.heap.size<=k):j0w w sb M d pre ans σ W':=by
 have B:∀{k C T f},W.heap[k]?=some (.cells C T f)->¬S k:=by
  intro k C T f A E;rcases hb k E _ A with⟨_,e⟩|⟨_,e⟩<;>cases e
 obtain⟨H,G,D,_⟩:=h.se.sh;exact⟨h.r,h.se.ex hx (fun k A=>.bare (hb k A)) (B h.se.se) (B D),h.tx,h.al,h.u.ex hx (fun k h2 h3=>h.u.notBare (hb k h3) h2),(hx.block sb (Array.getElem?_eq_some_iff.1 h.sb).1 (B h.sb)).trans h.sb,h.bl.trans (hx.W hw h.bl.size)⟩
theorem j0w.step{x:LnT}{a:List UInt8}{τ:Ss}{W5:World}(h:j0w w sb M d pre ans σ W)(hM:w.heap.size<=M)(hd:w.heap.size<=d)(hs:w.heap.size<=sb)(h1:LnR σ (kdL (btL x.1)) a τ)(h2:SeM W5 M d τ)(h3:a.length<=100000000)(h4:τ.tx.length<=σ.tx.length+x.1.size)(hx:Ex (q9x M d) W W5):
  IsU (sb+1) (sb+1) ans W5/\(∀k,j9v W k->k<W.heap.size->W5.heap[k]?=W.heap[k]?)/\
  ∀W6,IsU (sb+1) (sb+1) (ans++btL (wbS a)) W6->Ex (Bd W5 (sb+1)) W5 W6->j0w w sb M d (pre++[x]) (ans++a) τ W6/\∀k,j9v W k->k<W.heap.size->W6.heap[k]?=W.heap[k]?:=by
 obtain⟨L,N,R,O,P⟩:=h.apart
 have D:IsU (sb+1) (sb+1) ans W5:=h.u.ex hx fun k B C=>by
  rcases C with rfl|rfl
  ·exact L B
  ·exact N B
 have G:∀k,j9v W k->k<W.heap.size->W5.heap[k]?=W.heap[k]?:=by
  intro k B C;refine hx.block k C ?_;rintro(rfl|rfl)
  ·rcases B _ h.se.se with⟨_,e⟩|⟨_,e⟩<;>cases e
  ·obtain⟨Q,K,hd,_⟩:=h.se.sh;rcases B _ hd with⟨_,e⟩|⟨_,e⟩<;>cases e
 refine⟨D,G,fun W6 hu6 hx6=>?_⟩;have A:W5.heap[sb]?=some (.cells #[.pointer (some ⟨M,0,none⟩)] 33 (0,0)):=(hx.block sb (Array.getElem?_eq_some_iff.1 h.sb).1 (by rintro(e|e);exact O e;exact P e)).trans h.sb;have E:Below w w W5:=h.bl.trans (hx.W (by rintro k (rfl|rfl)<;>assumption) h.bl.size);obtain⟨Q,K,H,_⟩:=h2.sh;refine⟨⟨?_,h2.ex hx6 D.noD (D.not h2.se (by decide) (by decide)) (D.not H (by decide) (by decide)),?_,?_,hu6,(hx6.block sb (Array.getElem?_eq_some_iff.1 A).1 (D.not A (by decide) (by decide))).trans A,E.trans (hx6.W (fun k C=>?_) E.size)⟩,fun k B C=>?_⟩
 ·rw[q9d];exact k6v h.r h1
 ·have:=h.tx
  rw[q9d,z7f,List.length_append,List.length_append,q0b,List.length_singleton];omega
 ·have:=h.al
  rw[List.length_append,List.length_append,List.length_singleton,Nat.add_mul];omega
 ·have:=D.ge Zl k C
  omega
 ·have I:=G k B C;refine(hx6.block k (by have:=hx.size;omega) fun h6=>D.notBare (k:=k) ?_ h6).trans I;intro o J;rw[I]at J;exact B o J
end
theorem y2m(P:v7u)(n:Nat)(hn:6<=n)(s:ByteArray)(hs:s.size<=3000)(w:World)(ht:Rtb w):
  CallsIn Fence.wide n prog 6 #[.string s] w fun e w'=>∃ans,e=.returned (.string (wbS ans))/\j0x s ans/\ans.length<=1000000000000/\Below w w w':=by
 have h1:1<=n:=by omega
 have g1:¬(3000:Int)<(s.size:Int):=by omega
 obtain⟨F,H⟩:∃F,F=Fence.wide:=⟨_,rfl⟩;rw[<-H];have hF:∀f,F.fn f:=fun f=>by rw[H];trivial
 have j:F.round=none:=by rw[H];rfl
 have G:Hid (F=Fence.wide):=H;have HC:Hid v7u:=P;have HT:Hid (RtB w.heap.size w):=fun w' g=>ht.W g
 clear H P ht;refine callsIn_of_wp_marks func6 rfl (hF 6) ?_ j;simp only[ntmps6,List.size_toArray,List.length_cons,List.length_nil,Nat.reduceAdd,Nat.reduceSub,Array.replicate_succ,Array.replicate_zero,List.push_toArray,List.append_toArray,List.nil_append,List.cons_append]
 gi_wp2_with (first
  | (gi_at_call 8;rw[G.o];refine(callsIn_wide.2 (k9i w)).mono ?_;rintro e B⟨M,d,rfl,hS,hM,hd,v⟩)
  | (gi_at_call 9;rw[G.o];refine(callsIn_wide.2 (z5w _ _)).mono ?_;rintro e w'⟨rfl,rfl⟩))
 rename_i Q0 K0 hK0;have y:=q1c B (.cells #[.pointer (some ⟨M,0,none⟩)] 33);have p:=q1c (B.alloc (.cells #[.pointer (some ⟨M,0,none⟩)] 33)) (.cells #[.pointer none,.slice none 0 0] 38);have Y:=q1c ((B.alloc (.cells #[.pointer (some ⟨M,0,none⟩)] 33)).alloc (.cells #[.pointer none,.slice none 0 0] 38)) (.cells #[.string s] 9);have u1:=IsU.fresh (B.alloc (.cells #[.pointer (some ⟨M,0,none⟩)] 33));have k1:=heap_alloc_new B (.cells #[.pointer (some ⟨M,0,none⟩)] 33);have k3:=heap_alloc_new ((B.alloc (.cells #[.pointer (some ⟨M,0,none⟩)] 33)).alloc (.cells #[.pointer none,.slice none 0 0] 38)) (.cells #[.string s] 9);have z1:(B.alloc (.cells #[.pointer (some ⟨M,0,none⟩)] 33)).heap.size=B.heap.size+1:=World.size_alloc ..;have z2:((B.alloc (.cells #[.pointer (some ⟨M,0,none⟩)] 33)).alloc (.cells #[.pointer none,.slice none 0 0] 38)).heap.size=B.heap.size+1+1:=by rw[World.size_alloc,z1]
 have z3:(((B.alloc (.cells #[.pointer (some ⟨M,0,none⟩)] 33)).alloc (.cells #[.pointer none,.slice none 0 0] 38)).alloc (.cells #[.string s] 9)).heap.size=B.heap.size+1+1+1:=by rw[World.size_alloc,z2]
 have O:=v.size
 have S:j0w w B.heap.size M d [] [] ⟨[],[],40⟩ (((B.alloc (.cells #[.pointer (some ⟨M,0,none⟩)] 33)).alloc (.cells #[.pointer none,.slice none 0 0] 38)).alloc (.cells #[.string s] 9)):=by
  refine⟨.nil _,((hS.W y).W p).W Y,Nat.zero_le _,Nat.zero_le _,?_,?_,((v.trans (y.mono O)).trans (p.mono (by omega))).trans (Y.mono (by omega))⟩
  ·rw[z1]at u1;exact u1.W Y
  ·exact(Y.block _ (by omega)).trans ((p.block _ (by omega)).trans k1)
 have E:=z5x n (by omega) (B.heap.size+1+1) s (by omega) (((B.alloc (.cells #[.pointer (some ⟨M,0,none⟩)] 33)).alloc (.cells #[.pointer none,.slice none 0 0] 38)).alloc (.cells #[.string s] 9)) (by omega) (by rw[z2]at k3;rw[Lib.cell_of_heap k3];rfl);rw[<-G.o]at E;clear y p Y u1 k1 k3 hS v
 generalize((B.alloc (.cells #[.pointer (some ⟨M,0,none⟩)] 33)).alloc (.cells #[.pointer none,.slice none 0 0] 38)).alloc (.cells #[.string s] 9)=w3 at S E z3⊢
 have R:Hid (w.heap.size<=B.heap.size):=O;have L:Hid (w.heap.size<=M/\w.heap.size<=d):=⟨hM,hd⟩;have Q:Hid (s.size<=3000):=hs;clear O hM hd z1 z2 hs
 refine z5y j h1 (gf:=22) (lb:=#[.pointer (some ⟨B.heap.size+1+1,0,none⟩)]) rfl (hF 22) (enters_of func22 (by kernel_rfl) rfl) (enc:=z4o) (T:=Pcs s) (N:=NxP s)
  E (fun _=>rfl) (fun J W=>∃ans σ,j0w w B.heap.size M d J ans σ W) ⟨_,_,S⟩ ?stable
  (fun x=>{tmps:=#[.string s,undef,.string ⟨#[]⟩,.pointer (some ⟨B,0,none⟩),.pointer (some ⟨B.heap.size+1,0,none⟩),.string x.1,.string s,.int .i64 s.size,.bool false,.pointer (some ⟨M,0,none⟩),.string s,.func (.func 22) #[] #[.pointer (some ⟨B.heap.size+1+1,0,none⟩)],.string x.1,undef,undef,undef,undef,undef],defers:=[]}) ?assign ?body ?done
 case stable=>
  rintro J A A'⟨ans,σ,C⟩hx g
  have:=R.o
  refine⟨ans,σ,C.turn hx g fun k hk=>?_⟩;rcases hk with rfl|rfl<;>omega
 case assign=>
  intro l x W K b
  gi_wp2
  exact b
 case body=>
  rintro l J x W⟨ans,σ,C⟩hN Ab I;obtain⟨l1,l2⟩:=hN.len;have Ae:=Q.o;have HA:Hid (Calls prog 11 #[.pointer (some ⟨M,0,none⟩),.string x.1] W fun e w'=>∃a τ,e=.returned (.string (wbS a))/\LnR σ (kdL (btL x.1)) a τ/\SeM w' M d τ/\a.length<=100000000/\τ.tx.length<=σ.tx.length+x.1.size/\Ex (q9x M d) W w'):=k3u HC.o x.1 (by omega) w.heap.size M d L.o.1 L.o.2 W C.se (by have:=C.tx;omega) (HT.o.to C.bl);have HI:Hid (j0w w B.heap.size M d J ans σ W):=C;have c0:W.cell? ⟨B,0,none⟩=some (.pointer (some ⟨M,0,none⟩)):=by rw[Lib.cell_of_heap C.sb];rfl
  have Ad:ans.length<=300000000000:=by
   have:=C.al
   have h9:=Nat.mul_le_mul_right 100000000 (show J.length<=3000 by omega);omega
  have HB:Hid (B.heap.size+1<W.heap.size):=C.u.lt;have HK:Hid (∀k,Two w3.heap.size k->j9v W k/\k<W.heap.size):=fun k hk=>⟨I k hk,by rcases hk with rfl|rfl<;>omega⟩
  have h2:1<=n-1-1:=by omega
  clear C hN Ab I l1 l2 S E
  gi_wp2_with (first
   | (gi_at_call 11;rw[G.o];refine(CallsIn.inRound l (callsIn_wide.2 HA.o)).mono ?_;rintro e U⟨a,τ,rfl,q1,q2,q3,q4,q5⟩;have q:Hid (Ex (q9x M d) W U):=q5;obtain⟨u5,k5,Z⟩:=HI.o.step L.o.1 L.o.2 R.o q1 q2 q3 q4 q5;have t:Hid (IsU (B.heap.size+1) (B.heap.size+1) ans U):=u5;have V:=(show Hid (_)from Z);clear q1 q2 q4 q5 u5 k5 Z)
   | (gi_at_call 10;rw[G.o];refine(CallsIn.inRound l (callsIn_wide.2 (z4a (wbS a) t.o (by rw[q4w];omega) (by have:=q.o.size;have:=HB.o;omega)))).mono ?_;rintro e w6⟨rfl,u6,x6⟩))
  obtain⟨z,k6⟩:=V.o w6 u6 x6;refine⟨fun k hk=>?_,_,_,z⟩;have i:Two w3.heap.size k:=by rw[z3];exact hk
  exact k6 k (HK.o k i).1 (HK.o k i).2
 case done=>
  rintro D ys W hD Ac⟨ans,σ,C⟩b;have X:Hid (pcL ys=rl (btL s)):=Ac;apply hK0
  gi_wp2_with (gi_at_call 12;rw[G.o];refine(callsIn_wide.2 (k7g C.u)).mono ?_;rintro e U⟨rfl,m⟩)
  have c:U.heap[D]?=some (.deferred (some [])):=(m.block D (Array.getElem?_eq_some_iff.1 b).1 fun g=>C.u.notBare (k:=D) (by intro o ho;rw[b]at ho;cases ho;exact .inr ⟨_,rfl⟩) g).trans b;refine⟨by simp,.inl ⟨_,_,rfl,run_takeDeferred c,?_⟩⟩;have O:=R.o;have Aa:Below w w U:=C.bl.trans (m.W (fun k hk=>by have:=C.u.ge Zl k hk;omega) C.bl.size);refine⟨_,results_tmp rfl _ _ _,ans,rfl,⟨fun h=>absurd h (by have:=Q.o;omega),fun _=>⟨σ,?_⟩⟩,?_,Aa.trans (belowK_b (w:=w) Zl U D _ _ (by omega) c rfl rfl)⟩
  ·rw[<-X.o];exact C.r
  ·have h8:=C.al
   have h7:ys.length<=3001:=by
    have h6:=j5i (btL s);rw[<-X.o,q0b]at h6
    have h5:∀A:List (List UInt8),A.length<=(lnF A).length:=by
     intro A
     induction A with
     | nil=>exact Nat.le_refl _
     | cons l A ih=>rw[q3z,List.length_append,List.length_cons,List.length_cons];omega
    have h4:=h5 (pcL ys);rw[pcL,List.length_map]at h4
    have:=Q.o
    unfold pcL at h6;omega
   have h9:=Nat.mul_le_mul_right 100000000 h7;omega
theorem v3w(A:v7u):y8i:=by
 intro s w B;by_cases D:3000<s.size
 ·have E:(3000:Int)<(s.size:Int):=by omega
  have C:Hid (j0x s y9k):=⟨fun _=>rfl,fun h=>absurd h (by omega)⟩;clear D B;go_in;go_wp2;go_ret;exact⟨y9k,rfl,C.o,by decide,Below.refl _ _⟩
 ·exact callsIn_wide.1 (y2m A 6 Zl s (by omega) w B)
end Go.Proofs.YtelcnplcpboonaaGreatDoor
namespace Go.Proofs.YtelcnplcpboonaaGreatDoor
open Go Go.RowKit
theorem v3x:y8i:=v3w (k3a v9l)
end Go.Proofs.YtelcnplcpboonaaGreatDoor
