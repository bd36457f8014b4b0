import Derived.Test.YtelcnplcpboonaaGreatDoorPb33
import Derived.Test.YtelcnplcpboonaaGreatDoorPb28
import Derived.StringKeys
open Go.Proofs.Tryz
namespace Go.Proofs.YtelcnplcpboonaaGreatDoor
open Go Go.RowKit
set_option maxRecDepth 100000
set_option maxHeartbeats 2000000
theorem j1b(a b:Wd):(z4k a b).length<=a.length+b.length+1:=by
 unfold z4k
 split
 ·simp only[List.length_append,List.length_cons,List.length_nil];omega
 ·simp only[List.length_append];omega
theorem k5i:∀(ws:List Wd)(t:Wd),(ws.foldl z4k t).length<=t.length+szW ws
 | [],t=>by simp[szW]
 | x::r,t=>by
  have h1:=k5i r (z4k t x);have h2:=j1b t x;rw[List.foldl_cons,q1o];omega
theorem v7n:∀s:Wd,szW (q4y s)=s.length+1
 | []=>rfl
 | c::r=>by
  have ih:=v7n r;by_cases hc:c=32
  ·subst hc;rw[q5i,q1o,ih];simp;omega
  ·cases hs:q4y r with
   | nil=>exact absurd hs (q6s r)
   | cons x y=>
    rw[q5j hc hs,q1o];rw[hs,q1o]at ih;simp only[List.length_cons];omega
theorem j6c{x:Wd}(h:x≠[]):(z3j x).length<=x.length:=by
 unfold z3j ntx;have A:=k5i (q0i (x.drop 1)) []
 have B:szW (q0i (x.drop 1))<=(x.drop 1).length+1:=by
  unfold q0i
  split
  ·exact Nat.zero_le _
  ·rw[v7n];exact Nat.le_refl _
 rw[List.length_drop]at B;have C:0<x.length:=List.length_pos_iff.2 h;simp only[List.length_nil]at A;omega
theorem j7w{u ts:List Wd}(h:u <:+ ts):szW u<=szW ts:=by
 obtain⟨t,rfl⟩:=h;rw[k3y];omega
theorem j8q(x:Wd):(wbS x).size=x.length:=by rw[<-q0b];rfl
theorem y1e{x:Wd}(h:nmW x=true):(wbS x).size<=8:=by
 simp only[nmW,q1f,Bool.and_eq_true,decide_eq_true_eq]at h;exact h.1.1.2
theorem j4o{A:List (List Td)}{N:Nat}(h:∀t∈A,∀x∈t,x.tx.size<=N):(z5m A).length<=N:=by
 unfold z5m
 split
 ·rename_i x r hx;have B:(x::r)∈A:=List.mem_of_getLast? hx
  have:=h _ B x (by simp)
  rw[q0b];exact this
 ·exact Nat.zero_le _
theorem y9e{pv:Bool}{C:List (List Td)}{ts:List Wd}{r:Rp}(h:PG pv C ts r):∀N,8<=N->(∀t∈C,∀x∈t,x.tx.size<=N)->∀qs,r=.ok qs->∀t∈qs,∀x∈t,x.tx.size<=N+szW ts:=by
 induction h with
 | done=>
  intro N _ D qs e t A x B;cases e
  have:=D t A x B
  omega
 | @note pv C wd ts r h0 _ ih=>
  intro N E D qs e t A x B;have H:wd≠[]:=fun e=>by rw[e]at h0;simp at h0
  have I:=j6c H
  have:=ih (N+(wd.length+1)) (by omega) (fun t A x B=>by
   unfold v8a at A
   split at A
   ·rcases List.mem_append.1 A with A|A
    ·have:=D t ((List.dropLast_sublist C).subset A) x B
     omega
    ·rw[List.mem_singleton]at A;subst A;rw[List.mem_singleton]at B;subst B
     show(wbS _).size<=_
     rw[j8q];have J:=j1b (z5m C) (z3j wd);have K:=j4o D;omega
   ·rcases List.mem_append.1 A with A|A
    ·have:=D t A x B
     omega
    ·rw[List.mem_singleton]at A;subst A;rw[List.mem_singleton]at B;subst B
     show(wbS _).size<=_
     rw[j8q]
     omega) qs e t A x B
  rw[q1o];omega
 | letN=>intro N _ _ qs e;cases e
 | letE=>intro N _ _ qs e;cases e
 | letB=>intro N _ _ qs e;cases e
 | letX=>intro N _ _ qs e;cases e
 | @letO pv C nm ts m ns u r hn hpr _ ih=>
  intro N E D qs e t A x B;have G:=j7w (q9f hpr).1;simp only[Rs.rest]at G;rw[q1o]at G
  have:=ih N E (fun t A x B=>by
   rcases List.mem_append.1 A with A|A
   ·exact D t A x B
   ·rw[List.mem_singleton]at A;subst A;rcases List.mem_cons.1 B with rfl|B
    ·exact Nat.le_trans (y1e hn) E
    ·exact Nat.le_trans (y6i hpr (fun x B=>by cases B) _ _ _ rfl x B) E) qs e t A x B
  rw[q1o,q1o,q1o];omega
 | doB=>intro N _ _ qs e;cases e
 | doX=>intro N _ _ qs e;cases e
 | @doO pv C wd ts m ns u r h0 I hpr _ ih=>
  intro N E D qs e t A x B;have G:=j7w (q9f hpr).1;simp only[Rs.rest]at G;rw[q1o]at G
  have:=ih N E (fun t A x B=>by
   rcases List.mem_append.1 A with A|A
   ·exact D t A x B
   ·rw[List.mem_singleton]at A;subst A;rcases List.mem_cons.1 B with rfl|B
    ·exact Nat.zero_le _
    ·exact Nat.le_trans (y6i hpr (fun x B=>by cases B) _ _ _ rfl x B) E) qs e t A x B
  omega
theorem y2s(ws:List Wd):szW ws=(ws.map List.length).sum+ws.length:=by
 induction ws with
 | nil=>rfl
 | cons x r ih=>rw[q1o,ih,List.map_cons,List.sum_cons,List.length_cons];omega
theorem z1h(s:ByteArray)(w:World)(ht:q7n w):Calls prog 63 #[.string s] w fun e w'=>z2h s w e w':=by
 have f:Hid (Calls prog 85 #[.string s] w fun e w'=>z6j s w e w'/\Below w w w'):=j9d s w;by_cases J:q6h (btL s)=0
 ·have y:=z3d J;have S:=y0g J;have d:=j8u (btL s);have Y:Hid (∀x∈q2x (btL s),q3q x):=y3c (btL s);have o:Hid (q7n w):=ht;have r:s.size<=60000:=by rw[<-q0b];exact y.1
  have V:Hid (∀A P I M C,q1n w (.slice A (q2x (btL s)).length I) ((q2x (btL s)).map wbS) C->z2g w.heap.size (.slice P (q2x (btL s)).length M) (z5t (btL s)) C->Below w w C->Calls prog 86 #[.slice A (q2x (btL s)).length I,.slice P (q2x (btL s)).length M,.int .i64 (s.size:Int)] C fun e w'=>z8o (q2x (btL s)) (plE (z5t (btL s)) s.size) w.heap.size C e w'):=fun A P I M C a l B=>j9r Y.o (by omega) S (k7i _).symm B.size a l (fun w' hb'=>o.o.W (B.trans hb'))
  have D:Hid (Calls prog 85 #[.string s] w fun e w'=>∃A P I M,e=.returned (.tuple #[.slice A (q2x (btL s)).length I,.slice P (q2x (btL s)).length M,.int .i64 0,.nilIface])/\(q1n w (.slice A (q2x (btL s)).length I) ((q2x (btL s)).map wbS) w'/\z2g w.heap.size (.slice P (q2x (btL s)).length M) (z5t (btL s)) w'/\Below w w w')):=by
   refine f.o.mono ?_;rintro e w'⟨n,B⟩;rcases n with⟨m,_⟩|⟨_,A,P,I,M,rfl,a,l⟩
   ·exact absurd J m
   ·exact⟨A,P,I,M,rfl,a,l,B⟩
  have k:Hid (∀qs,PG false [] (q2x (btL s)) (.ok qs)->∀t∈qs,z4i t):=fun qs hpg t ht x hx=>by
   have a:=y9e hpg 8 Zl (fun t ht=>by cases ht) qs rfl t ht x hx;rw[y2s]at a;omega
  have h:Hid (∀u C w',Below w w C->PG false [] (q2x (btL s)) (.bad u)->Below w C w'->z2h s w (.returned (.tuple #[.slice none 0 0,.int .i64 (plE (z5t (btL s)) s.size ((q2x (btL s)).length-u.length):Int),.iface 50 (.int .i64 5)])) w'):=fun u C w' hb1 hpg B=>⟨[],_,5,none,0,rfl,q6l.bad J hpg,Prg.nil _ _,Nat.le_refl _,hb1.trans B⟩
  have j:Hid (∀qs A c w',PG false [] (q2x (btL s)) (.ok qs)->(q0o qs).2=0->Prg w' A qs->qs.length<=c->Below w w w'->z2h s w (.returned (.tuple #[.slice A qs.length c,.int .i64 0,.nilIface])) w'):=fun qs A c w' hpg L hP hc B=>⟨qs,0,0,A,c,rfl,q6l.ok J hpg L,hP,hc,B⟩
  have i:Hid (∀qs w',PG false [] (q2x (btL s)) (.ok qs)->(q0o qs).2≠0->Below w w w'->z2h s w (.returned (.tuple #[.slice none 0 0,.int .i64 0,.iface 50 (.int .i64 (q0o qs).2)])) w'):=fun qs w' hpg L B=>⟨[],0,(q0o qs).2,none,0,by rw[q0h L];rfl,q6l.full J hpg L,Prg.nil _ _,Nat.le_refl _,B⟩
  clear f y d S ht J Y o
  generalize(q2x (btL s)).length=nl at V D
  go_in;go_wp2_with fail;refine D.o.mono ?_;rintro e C⟨A,P,I,M,rfl,b⟩;have p:=hid b;have O:Hid (Calls prog 86 #[.slice A nl I,.slice P nl M,.int .i64 (s.size:Int)] C fun e w'=>z8o (q2x (btL s)) (plE (z5t (btL s)) s.size) w.heap.size C e w'):=V.o A P I M C b.1 b.2.1 b.2.2;clear b D V;go_wp2_with fail;refine O.o.mono ?_;intro e N z;cases z with
  | @bad u _ pg B=>
   have H:=hid (h.o u C N p.o.2.2 pg B);clear pg B O;generalize plE (z5t (btL s)) s.size ((q2x (btL s)).length-u.length)=pp at H⊢;go_wp2;refine bodyPost_ret (v:=.tuple #[.slice none 0 0,.int .i64 (pp:Int),.iface 50 (.int .i64 5)]) (by simp[results,Tryz.results63,go_sem]) rfl ?_;exact H.o
  | @ok qs A2 c2 _ pg hp hc B=>
   have Q:Below w w N:=p.o.2.2.trans B;have R:Hid (Calls prog 87 #[.slice A2 qs.length c2] N fun e w'=>e=.returned (.tuple #[.int .i64 ((q0o qs).1:Int),q0s (q0o qs).2])/\Below N N w'):=k1c qs A2 c2 N hc hp (k.o qs pg);by_cases L:(q0o qs).2=0
   ·have H:Hid (∀G,Below N N G->z2h s w (.returned (.tuple #[.slice A2 qs.length c2,.int .i64 0,.nilIface])) G):=fun G hb3=>j.o qs A2 c2 G pg L (hp.W hb3) hc (q0g Q Zl hb3)
    rw[L]at R
    generalize(q0o qs).1=K at R
    clear pg hp hc B Q L O;generalize qs.length=ql at R H⊢;go_wp2_with fail;refine R.o.mono ?_;rintro e G⟨rfl,Z⟩;have U:=hid (H.o G Z);clear Z;rw[q0q];go_wp2;refine bodyPost_ret (v:=.tuple #[.slice A2 ql c2,.int .i64 0,.nilIface]) (by simp[results,Tryz.results63,go_sem]) rfl ?_;exact U.o
   ·have H:Hid (∀G,Below N N G->z2h s w (.returned (.tuple #[.slice none 0 0,.int .i64 0,.iface 50 (.int .i64 (q0o qs).2)])) G):=fun G hb3=>i.o qs G pg L (q0g Q Zl hb3)
    have X:Hid (q0s (q0o qs).2=.iface 50 (.int .i64 (q0o qs).2)):=q0h L
    generalize(q0o qs).2=E at R X H
    generalize(q0o qs).1=K at R
    clear pg hp hc B Q L O;generalize qs.length=ql at R⊢;go_wp2_with fail;refine R.o.mono ?_;rintro e G⟨rfl,Z⟩;have U:=hid (H.o G Z);clear Z;rw[X.o];go_wp2;refine bodyPost_ret (v:=.tuple #[.slice none 0 0,.int .i64 0,.iface 50 (.int .i64 E)]) (by simp[results,Tryz.results63,go_sem]) rfl ?_;exact U.o
 ·have D:Hid (Calls prog 85 #[.string s] w fun e w'=>e=.returned (.tuple #[.slice none 0 0,.slice none 0 0,.int .i64 ((z7d (btL s):Nat):Int),q0s (q6h (btL s))])/\Below w w w'):=by
   refine f.o.mono ?_;rintro e w'⟨n,B⟩;rcases n with⟨_,rfl⟩|⟨m,_⟩
   ·exact⟨rfl,B⟩
   ·exact absurd m J
  have X:Hid (q0s (q6h (btL s))=.iface 50 (.int .i64 (q6h (btL s)))):=q0h J;have H:Hid (∀w',Below w w w'->z2h s w (.returned (.tuple #[.slice none 0 0,.int .i64 ((z7d (btL s):Nat):Int),.iface 50 (.int .i64 (q6h (btL s)))])) w'):=fun w' B=>⟨[],_,_,none,0,by rw[X.o];rfl,q6l.lex J,Prg.nil _ _,Nat.le_refl _,B⟩
  generalize q6h (btL s)=E at D X H
  generalize((z7d (btL s):Nat):Int)=LK at D H
  clear f J ht;go_in;go_wp2_with fail;refine D.o.mono ?_;rintro e C⟨rfl,q⟩;have g:=hid (H.o C q);clear q;rw[X.o];go_wp2;refine bodyPost_ret (v:=.tuple #[.slice none 0 0,.int .i64 LK,.iface 50 (.int .i64 E)]) (by simp[results,Tryz.results63,go_sem]) rfl ?_;exact g.o
end Go.Proofs.YtelcnplcpboonaaGreatDoor
namespace Go.Proofs.YtelcnplcpboonaaGreatDoor
open Go Go.RowKit Go.Maps
def kyB(t:List Td):ByteArray:=wbS (q2a [t])
theorem k2w{t u:List Td}(ht:q0c t=0)(hu:q0c u=0)(h:kyB t=kyB u):t=u:=by
 have e:∀v:List Td,btL (kyB v)=q2n v++[10]:=fun v=>(show q2a [v]=_ by simp[q2a])
 have A:btL (kyB t)=btL (kyB u):=by rw[h]
 rw[e,e]at A;exact k6z ht hu (List.append_cancel_right A)
theorem k2x{t:List Td}(h:q0c t=0):(kyB t).size<=2001:=by
 rw[kyB,q4w]
 have:=k7a h
 simp[q2a];omega
theorem k5a{a b:ByteArray}(h:a.data.toList=b.data.toList):a=b:=by
 cases a;cases b
 congr 1
 exact Array.toList_inj.1 h
theorem v9c:Keyed prog 9:=string_keyed Tryz.underlying9
theorem y7v{s:ByteArray}(h:s.size<=1000000):keyOf prog 9 (.string s)=some (.string s.data.toList):=WideMaps.keyOf_string_mk Tryz.underlying9 (by unfold maxLen;omega)
abbrev enV(A:Option Addr)(l c:Nat)(s:ByteArray):Value:=.agg #[.slice A l c,.string s]
abbrev zEn:Value:=enV none 0 0 ⟨#[]⟩
theorem v1j(w:World):(zeroValue 137).run prog w=.ok zEn w:=by kernel_rfl
structure Blk(w:World)(x:Nat):Prop where
 cs:∃c T f,w.heap[x]?=some (.cells c T f)
 str:∀o s,w.cell? ⟨x,o,none⟩≠some (.string s)
section
variable {w w':World} {x:Nat}
theorem Tds.apart{a:Option Addr}{ds:List Td}(h:Tds w a ds)(hx:q0j w x w w')(hn:Blk w x):Tds w' a ds:=by
 intro i G;obtain⟨b,o,e,A,D,C,E⟩:=h i G
 have B:b≠x:=by
  rintro rfl;exact hn.str _ _ C
 have:=hx.size
 exact⟨b,o,e,by omega,(hx.cell (p:=⟨b,_,none⟩) A B).trans D,(hx.cell (p:=⟨b,_,none⟩) A B).trans C,(hx.cell (p:=⟨b,_,none⟩) A B).trans E⟩
theorem Wds.apart{a:Option Addr}{ws:List ByteArray}(h:Wds w a ws)(hx:q0j w x w w')(hn:Blk w x):Wds w' a ws:=by
 intro i D;obtain⟨b,o,e,A,B⟩:=h i D
 have C:b≠x:=by
  rintro rfl;exact hn.str _ _ B
 have:=hx.size
 exact⟨b,o,e,by omega,(hx.cell (p:=⟨b,_,none⟩) A C).trans B⟩
end
def KnM(w0 w:World)(b:Nat)(qs:List (List Td))(n:Nat):Prop:=
 ∃D m,w.ownsMap prog 9 cvR b m D/\m<=qs.length/\
  (∀t∈qs,∃A c,has D (.string (kyB t).data.toList)=true/\D.atKey (.string (kyB t).data.toList) (.held zEn)=.held (enV A t.length c (wbS (q5g n t)))/\t.length<=c/\Tds w0 A t)/\
  ∀k:ByteArray,(∀t∈qs,kyB t≠k)->has D (.string k.data.toList)=false/\D.atKey (.string k.data.toList) (.held zEn)=.held zEn
section
variable {w0 w w':World} {b n:Nat} {qs:List (List Td)} {t:List Td}
theorem KnM.lt(h:KnM w0 w b qs n):b<w.heap.size:=by
 obtain⟨D,m,h,_⟩:=h;exact h.lt
theorem KnM.isMap(h:KnM w0 w b qs n):∃es cl,w.heap[b]?=some (.map es cl):=by
 obtain⟨D,m,⟨es,cl,A,_⟩,_⟩:=h;exact⟨es,cl,A⟩
theorem KnM.kept(h:KnM w0 w b qs n)(hb:w'.heap[b]?=w.heap[b]?):KnM w0 w' b qs n:=by
 obtain⟨D,m,⟨B,A,C,E⟩,G⟩:=h;exact⟨D,m,⟨B,A,hb.trans C,E⟩,G⟩
theorem KnM.up{w1:World}(h:KnM w0 w b qs n)(hT:∀A t,Tds w0 A t->Tds w1 A t):KnM w1 w b qs n:=by
 obtain⟨D,m,B,C,E,G⟩:=h;refine⟨D,m,B,C,fun t ht=>?_,G⟩;obtain⟨A,c,H,I,J,K⟩:=E t ht;exact⟨A,c,H,I,J,hT A t K⟩
theorem KnM.W(h:KnM w w b qs n)(hb:Below w w w'):KnM w' w' b qs n:=(h.kept (hb.block b h.lt)).up fun _ _ q=>q.W hb
theorem KnM.apart{x:Nat}(h:KnM w w b qs n)(hx:q0j w x w w')(hn:Blk w x):KnM w' w' b qs n:=by
 refine(h.kept (hx.block b h.lt ?_)).up fun _ _ q=>q.apart hx hn
 rintro rfl;obtain⟨D,C,B⟩:=h.isMap;obtain⟨c,T,f,A⟩:=hn.cs;rw[B]at A;cases A
theorem KnM.made(w0 w:World)(n:Nat):KnM w0 (w.alloc (.map #[] 0)) w.heap.size [] n:=
 ⟨.map [],0,World.ownsMap_made _ _ _ _,Nat.zero_le _,fun t ht=>by simp at ht,fun _ _=>⟨rfl,rfl⟩⟩
theorem KnM.look(h:KnM w0 w b qs n)(ht:t∈qs)(h0:q0c t=0):∃A c,(Instr.lookup 89 (.map (some b)) (.string (kyB t)) false).run prog w=.ok (enV A t.length c (wbS (q5g n t))) w/\
  (Instr.lookup 89 (.map (some b)) (.string (kyB t)) true).run prog w=.ok (.tuple #[enV A t.length c (wbS (q5g n t)),.bool true]) w/\t.length<=c/\Tds w0 A t:=by
 obtain⟨D,m,h,_,H,_⟩:=h;obtain⟨A,c,J,G,K,L⟩:=H t ht;have E:=y7v (s:=kyB t) (by have:=k2x h0;omega);refine⟨A,c,?_,?_,K,L⟩
 ·obtain⟨v,I,B,C⟩:=h.lookup v9c Tryz.underlying89 (v1j w) (zd:=.held zEn) (zp:=[]) rfl E;rw[G]at C;simp only[cvR,Option.some.injEq,Prod.mk.injEq,DataW.held.injEq]at C;rw[B,C.1]
 ·obtain⟨v,I,B,C⟩:=h.look_ok v9c Tryz.underlying89 (v1j w) (zd:=.held zEn) (zp:=[]) rfl E;rw[G]at C;simp only[cvR,Option.some.injEq,Prod.mk.injEq,DataW.held.injEq]at C;rw[B,C.1,J]
theorem KnM.miss(h:KnM w0 w b qs n){k:ByteArray}(hl:k.size<=1000000)(B:∀t∈qs,kyB t≠k):
  (Instr.lookup 89 (.map (some b)) (.string k) true).run prog w=.ok (.tuple #[zEn,.bool false]) w:=by
 obtain⟨D,m,h,_,_,E⟩:=h;obtain⟨G,H⟩:=E k B;obtain⟨v,I,A,C⟩:=h.look_ok v9c Tryz.underlying89 (v1j w) (zd:=.held zEn) (zp:=[]) rfl (y7v hl);rw[H]at C;simp only[cvR,Option.some.injEq,Prod.mk.injEq,DataW.held.injEq]at C;rw[A,C.1,G]
theorem v3b(w:World){k:ByteArray}(hl:k.size<=1000000):
  (Instr.lookup 89 (.map none) (.string k) true).run prog w=.ok (.tuple #[zEn,.bool false]) w:=by
 rw[Maps.look_nil true v9c Tryz.underlying89 (v1j w) (y7v hl)];rfl
theorem KnM.again(h:KnM w0 w b qs n)(ht:t∈qs):KnM w0 w b (qs++[t]) n:=by
 obtain⟨D,m,h,C,A,B⟩:=h;refine⟨D,m,h,by rw[List.length_append];omega,fun u hu=>?_,fun k hk=>B k fun u hu=>hk u (by simp[hu])⟩;rcases List.mem_append.1 hu with e|e
 ·exact A u e
 ·simp at e;exact A u (e ▸ ht)
theorem KnM.put(h:KnM w0 w b qs n)(I:∀u∈qs,q0c u=0)(hl:qs.length<=20)(h0:q0c t=0)(O:t∉qs){A:Option Addr}{c:Nat}(hc:t.length<=c)(hT:Tds w0 A t):
  ∃w',(Instr.mapUpdate 89 (.map (some b)) (.string (kyB t)) (enV A t.length c (wbS (q5g n t)))).run prog w=.ok () w'/\KnM w0 w' b (qs++[t]) n/\w.grownBy w' (some b):=by
 obtain⟨D,m,h,V,L,M⟩:=h;have H:=y7v (s:=kyB t) (by have:=k2x h0;omega);obtain⟨U,E,C,N⟩:=h.update v9c Tryz.underlying89 (by unfold maxLen;omega) H (d:=.held (enV A t.length c (wbS (q5g n t)))) (ps:=[]) (val:=enV A t.length c (wbS (q5g n t))) rfl;refine⟨U,E,⟨_,_,C,by rw[List.length_append,List.length_singleton];omega,fun u hu=>?_,fun k hkn=>?_⟩,N⟩
 ·by_cases e:u=t
  ·subst e;exact⟨A,c,has_put_same h.isMap (v9c.key H) _,atKey_put_same h.isMap (v9c.key H) _ _,hc,hT⟩
  ·have G:u∈qs:=by
    rcases List.mem_append.1 hu with B|B
    ·exact B
    ·simp at B;exact absurd B e
   obtain⟨J,K,P,Q,R,S⟩:=L u G
   have ne:(Lit.string (kyB u).data.toList)≠.string (kyB t).data.toList:=by
    intro B;simp only[Lit.string.injEq]at B;exact e (k2w (I u G) h0 (k5a B))
   refine⟨J,K,?_,?_,R,S⟩
   ·rw[has_put_other ne];exact P
   ·rw[atKey_put_other ne];exact Q
 ·have ne:(Lit.string k.data.toList)≠.string (kyB t).data.toList:=by
   intro B;simp only[Lit.string.injEq]at B;exact hkn t (by simp) (k5a B).symm
  rw[has_put_other ne,atKey_put_other ne];exact M k fun u hu=>hkn u (by simp[hu])
end
structure ShM(w:World)(ov mv:Value)(qs:List (List Td))(n:Nat):Prop where
 ok:∀t∈qs,q0c t=0
 pg:∀t∈qs,pgE t=0
 ni:∀t∈qs,z4i t
 len:qs.length<=20
 w1:10<=n
 w2:n<=100
 ord:∃A c,ov=.slice A qs.length c/\Wds w A (qs.map kyB)
 kn:(mv=.map none/\qs=[])\/∃b,mv=.map (some b)/\KnM w w b qs n
 ty:∀b o l c,ov=.slice (some ⟨b,o,none⟩) l c->0<l->∃cs f,w.heap[b]?=some (.cells cs 9 f)
section
variable {w w':World} {ov mv:Value} {n:Nat} {qs:List (List Td)}
theorem ShM.W(h:ShM w ov mv qs n)(hb:Below w w w'):ShM w' ov mv qs n:=by
 refine⟨h.ok,h.pg,h.ni,h.len,h.w1,h.w2,?_,?_,fun b o l c e h0=>?_⟩
 ·obtain⟨A,c,e,q⟩:=h.ord;exact⟨A,c,e,q.W hb⟩
 ·rcases h.kn with e|⟨b,e,q⟩
  ·exact .inl e
  ·exact .inr ⟨b,e,q.W hb⟩
 ·obtain⟨B,f,q⟩:=h.ty b o l c e h0;exact⟨B,f,(hb.block b (Array.getElem?_eq_some_iff.1 q).1).trans q⟩
theorem ShM.apart{x:Nat}(h:ShM w ov mv qs n)(hx:q0j w x w w')(hn:Blk w x):ShM w' ov mv qs n:=by
 refine⟨h.ok,h.pg,h.ni,h.len,h.w1,h.w2,?_,?_,fun b o l c e h0=>?_⟩
 ·obtain⟨A,c,e,q⟩:=h.ord;exact⟨A,c,e,q.apart hx hn⟩
 ·rcases h.kn with e|⟨b,e,q⟩
  ·exact .inl e
  ·exact .inr ⟨b,e,q.apart hx hn⟩
 ·obtain⟨D,f,q⟩:=h.ty b o l c e h0;refine⟨D,f,(hx.block b (Array.getElem?_eq_some_iff.1 q).1 ?_).trans q⟩;rintro rfl;obtain⟨A,I,B,E⟩:=h.ord;rw[e]at B;simp only[Value.slice.injEq]at B;obtain⟨rfl,rfl,rfl⟩:=B;obtain⟨H,J,C,_,G⟩:=E 0 (by simpa using h0);simp only[Option.some.injEq,Addr.mk.injEq,and_true]at C;obtain⟨rfl,rfl⟩:=C;exact hn.str _ _ G
end
def q4l(T:TypeId)(w:World)(d:Nat)(qs:List (List Td))(n:Nat):Prop:=∃ov mv,w.heap[d]?=some (.cells #[.int .i64 (n:Int),ov,mv] T (0,0))/\ShM w ov mv qs n
section
variable {T:TypeId} {w w':World} {d n:Nat} {qs:List (List Td)}
theorem q4l.lt(h:q4l T w d qs n):d<w.heap.size:=by
 obtain⟨C,B,A,_⟩:=h;exact(Array.getElem?_eq_some_iff.1 A).1
theorem q4l.W(h:q4l T w d qs n)(hb:Below w w w'):q4l T w' d qs n:=by
 have C:=h.lt;obtain⟨E,D,A,B⟩:=h;exact⟨E,D,(hb.block d C).trans A,B.W hb⟩
theorem q4l.cell(h:q4l T w d qs n):∃A c m,w.cell? ⟨d,0,none⟩=some (.int .i64 (n:Int))/\w.cell? ⟨d,1,none⟩=some (.slice A qs.length c)/\w.cell? ⟨d,2,none⟩=some (.map m)/\(∀o,w.frozen? ⟨d,o,none⟩=false)/\Wds w A (qs.map kyB)/\((m=none/\qs=[])\/∃b,m=some b/\KnM w w b qs n):=by
 obtain⟨G,E,B,C⟩:=h;obtain⟨A,c,rfl,D⟩:=C.ord;rcases C.kn with⟨rfl,e⟩|⟨b,rfl,q⟩
 ·exact⟨A,c,none,by simp[World.cell?,B],by simp[World.cell?,B],by simp[World.cell?,B],fun o=>by simp[World.frozen?,B],D,.inl ⟨rfl,e⟩⟩
 ·exact⟨A,c,some b,by simp[World.cell?,B],by simp[World.cell?,B],by simp[World.cell?,B],fun o=>by simp[World.frozen?,B],D,.inr ⟨b,rfl,q⟩⟩
theorem k9z{a b c:Value}{o:Nat}{v:Value}{f:Nat × Nat}(h:w.heap[d]?=some (.cells #[a,b,c] T f))(hv:w.cell? ⟨d,o,none⟩=some v):v=a\/v=b\/v=c:=by
 simp only[World.cell?,h]at hv;rcases o with _|_|_|o<;>simp at hv
 ·exact .inl hv.symm
 ·exact .inr (.inl hv.symm)
 ·exact .inr (.inr hv.symm)
theorem q4l.blk(h:q4l T w d qs n):Blk w d:=by
 obtain⟨G,E,B,C⟩:=h;obtain⟨A,c,rfl,D⟩:=C.ord;refine⟨⟨_,_,_,B⟩,fun o s hs=>?_⟩;rcases k9z B hs with e|e|e
 ·cases e
 ·cases e
 ·rcases C.kn with⟨rfl,_⟩|⟨b,rfl,_⟩<;>cases e
theorem q4l.put{ps:List (List Td)}{m:Nat}{ov mv:Value}(h:q4l T w d qs n)(hs:ShM w ov mv ps m):
  q4l T (((w.setCell ⟨d,0,none⟩ (.int .i64 (m:Int))).setCell ⟨d,1,none⟩ ov).setCell ⟨d,2,none⟩ mv) d ps m/\q0j w d w (((w.setCell ⟨d,0,none⟩ (.int .i64 (m:Int))).setCell ⟨d,1,none⟩ ov).setCell ⟨d,2,none⟩ mv):=by
 have A:q0j w d w (((w.setCell ⟨d,0,none⟩ (.int .i64 (m:Int))).setCell ⟨d,1,none⟩ ov).setCell ⟨d,2,none⟩ mv):=(((q0j.refl _ _ w).setCell (p:=⟨d,0,none⟩) (.inl rfl) _).setCell (p:=⟨d,1,none⟩) (.inl rfl) _).setCell (p:=⟨d,2,none⟩) (.inl rfl) _;refine⟨?_,A⟩;have C:=h.blk;obtain⟨E,D,B,_⟩:=h;exact⟨ov,mv,by simp[World.setCell,Array.getElem?_modify,B],hs.apart A C⟩
end
theorem z6w:∀ps:List (List Td),(∀t∈ps,pgE t=0)->fmE ps=0
 | [],_=>rfl
 | t::r,h=>by rw[q5p (h t (by simp))];exact z6w r fun u hu=>h u (by simp[hu])
end Go.Proofs.YtelcnplcpboonaaGreatDoor
namespace Go.Proofs.YtelcnplcpboonaaGreatDoor
open Go Go.RowKit
structure NoD(w:World)(k:Nat):Prop where
 tre:∀o z s,w.cell? ⟨k,o,none⟩=some (.int .i64 z)->w.cell? ⟨k,o+1,none⟩=some (.string s)->False
 str:∀cs f,w.heap[k]?=some (.cells cs 9 f)->∀o s,w.cell? ⟨k,o,none⟩=some (.string s)->s.size=0
 map:∀es c,w.heap[k]?≠some (.map es c)
theorem NoD.bare{w:World}{k:Nat}(h:j9v w k):NoD w k:=by
 have B:∀o v,w.cell? ⟨k,o,none⟩=some v->False:=by
  intro o v C;obtain⟨x,D,A⟩:=cells_of_cell C;rcases h x D with⟨y,rfl⟩|⟨y,rfl⟩<;>cases A
 refine⟨fun o z s h1 _=>B o _ h1,fun cs f _ o s h2=>(B o _ h2).elim,fun es c h1=>?_⟩;rcases h _ h1 with⟨y,e⟩|⟨y,e⟩<;>cases e
section
variable {S:Nat→Prop} {w w':World} {T:TypeId} {d n:Nat} {qs:List (List Td)}
theorem Tds.ex{a:Option Addr}{ds:List Td}(h:Tds w a ds)(hx:Ex S w w')(hn:∀k,S k->NoD w k):Tds w' a ds:=by
 intro i E;obtain⟨b,o,e,G,B,C,D⟩:=h i E;have A:¬S b:=fun hs=>(hn b hs).tre _ _ _ B C
 have:=hx.size
 exact⟨b,o,e,by omega,hx.cell (p:=⟨b,_,none⟩) B A,hx.cell (p:=⟨b,_,none⟩) C A,hx.cell (p:=⟨b,_,none⟩) D A⟩
theorem ShM.ex{ov mv:Value}(h:ShM w ov mv qs n)(hx:Ex S w w')(hn:∀k,S k->NoD w k):ShM w' ov mv qs n:=by
 have L:=hx.size
 have G:∀b o l c,ov=.slice (some ⟨b,o,none⟩) l c->0<l->¬S b:=fun b o l c e h0 C=>by
  obtain⟨D,f,q⟩:=h.ty b o l c e h0;obtain⟨A,P,B,M⟩:=h.ord;rw[e]at B;simp only[Value.slice.injEq]at B;obtain⟨rfl,rfl,rfl⟩:=B;obtain⟨O,U,E,_,N⟩:=M 0 (by simpa using h0);simp only[Option.some.injEq,Addr.mk.injEq,and_true]at E;obtain⟨rfl,rfl⟩:=E;have H:=(hn b C).str _ _ q _ _ N;rw[List.getElem_map,kyB,q4w]at H;simp[q2a]at H
 refine⟨h.ok,h.pg,h.ni,h.len,h.w1,h.w2,?_,?_,fun b o l c e h0=>?_⟩
 ·obtain⟨A,c,e,q⟩:=h.ord;refine⟨A,c,e,fun i hi=>?_⟩;obtain⟨b,o,rfl,K,I⟩:=q i hi;exact⟨b,o,rfl,by omega,hx.cell (p:=⟨b,_,none⟩) I (G b o _ c e (by rw[List.length_map]at hi;omega))⟩
 ·rcases h.kn with e|⟨b,e,q⟩
  ·exact .inl e
  ·refine .inr ⟨b,e,(q.kept (hx.block b q.lt ?_)).up fun _ _ q=>q.ex hx hn⟩;intro C;obtain⟨R,Q,J⟩:=q.isMap;exact(hn b C).map _ _ J
 ·obtain⟨D,f,q⟩:=h.ty b o l c e h0;exact⟨D,f,(hx.block b (Array.getElem?_eq_some_iff.1 q).1 (G b o l c e h0)).trans q⟩
theorem q4l.ex(h:q4l T w d qs n)(hx:Ex S w w')(hn:∀k,S k->NoD w k)(hd:¬S d):q4l T w' d qs n:=by
 have C:=h.lt;obtain⟨E,D,A,B⟩:=h;exact⟨E,D,(hx.block d C hd).trans A,B.ex hx hn⟩
end
structure SeM(w:World)(M d:Nat)(σ:Ss):Prop where
 se:w.heap[M]?=some (.cells #[.pointer (some ⟨d,0,none⟩),.string (wbS σ.tx)] 62 (0,0))
 sh:q4l 93 w d σ.ps σ.wd
 ne:M≠d
section
variable {S:Nat→Prop} {w w':World} {M d:Nat} {σ:Ss}
theorem SeM.lt(h:SeM w M d σ):M<w.heap.size:=(Array.getElem?_eq_some_iff.1 h.se).1
theorem SeM.cell0(h:SeM w M d σ):w.cell? ⟨M,0,none⟩=some (.pointer (some ⟨d,0,none⟩)):=by rw[Lib.cell_of_heap h.se];rfl
theorem SeM.cell1(h:SeM w M d σ):w.cell? ⟨M,1,none⟩=some (.string (wbS σ.tx)):=by rw[Lib.cell_of_heap h.se];rfl
theorem SeM.frozen(h:SeM w M d σ)(o:Nat):w.frozen? ⟨M,o,none⟩=false:=Lib.frozen_of_heap h.se o
theorem SeM.noD(h:SeM w M d σ):NoD w M:=by
 refine⟨fun o z s h1 _=>?_,fun cs f h1 _ _ _=>?_,fun es c h1=>?_⟩
 ·rw[Lib.cell_of_heap h.se]at h1;rcases o with _|_|o<;>simp at h1
 ·rw[h.se]at h1;cases h1
 ·rw[h.se]at h1;cases h1
theorem SeM.ex(h:SeM w M d σ)(hx:Ex S w w')(hn:∀k,S k->NoD w k)(hM:¬S M)(hd:¬S d):SeM w' M d σ:=⟨(hx.block M h.lt hM).trans h.se,h.sh.ex hx hn hd,h.ne⟩
theorem SeM.W(h:SeM w M d σ)(hb:Below w w w'):SeM w' M d σ:=h.ex (S:=fun _=>False) (.of hb) (fun _ h=>h.elim) id id
theorem SeM.desk(h:SeM w M d σ)(hx:q0j w d w w'){ps:List (List Td)}{n:Nat}(hS:q4l 93 w' d ps n):SeM w' M d ⟨σ.tx,ps,n⟩:=⟨(hx.block M h.lt h.ne).trans h.se,hS,h.ne⟩
theorem SeM.text(h:SeM w M d σ)(t:List UInt8):SeM (w.setCell ⟨M,1,none⟩ (.string (wbS t))) M d ⟨t,σ.ps,σ.wd⟩:=by
 refine⟨?_,h.sh.ex (S:=fun k=>k=M) (Ex.at (S:=fun k=>k=M) (p:=⟨M,1,none⟩) (show M=M from rfl) (.string (wbS t))) (fun k hk=>hk ▸ h.noD) (fun e=>h.ne e.symm),h.ne⟩
 have:=h.se
 simp[World.setCell,Array.getElem?_modify,this]
end
def q9x(M d k:Nat):Prop:=k=M\/k=d
theorem q0j.ex{d M:Nat}{w w':World}(h:q0j w d w w'):Ex (q9x M d) w w':=⟨h.os,h.tape,h.output,h.size,fun k hk hn=>h.block k hk fun e=>hn (.inr e)⟩
end Go.Proofs.YtelcnplcpboonaaGreatDoor
