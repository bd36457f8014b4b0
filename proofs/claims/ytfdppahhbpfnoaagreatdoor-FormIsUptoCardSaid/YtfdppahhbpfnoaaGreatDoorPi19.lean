import Derived.Test.YtfdppahhbpfnoaaGreatDoorPi16
import Derived.Test.YtfdppahhbpfnoaaGreatDoorPi10
open Go.Proofs.Tryz
namespace Go.Proofs.YtfdppahhbpfnoaaGreatDoor
open Go Go.RowKit
set_option maxRecDepth 100000
set_option maxHeartbeats 8000000
theorem y2e{w:Wd}(h:q3b w)(hn:z0j w=true):(∀b∈w,q1w b=true)/\w.length<=6:=by
 obtain⟨c,r,rfl,_,K,J,_⟩:=h;have E:q1w c=true:=hn;have B:q2b c=false:=k3o E;simp only[q6q,B,E,if_true,Bool.false_eq_true,if_false,Bool.and_eq_true,decide_eq_true_eq]at K;simp only[q1c,B,E,if_true,Bool.false_eq_true,if_false,List.length_cons]at J
 have C:r.takeWhile q1w=r:=by
  have I:=z5d (p:=q1w) r;rw[show(r.takeWhile q1w).length=r.length by omega,List.take_length]at I;exact I.symm
 refine⟨fun b D=>?_,by simp only[List.length_cons];omega⟩;rcases List.mem_cons.1 D with rfl|D
 ·exact E
 ·rw[<-C]at D
  have H:∀(l:List UInt8)x,x∈l.takeWhile q1w->q1w x=true:=by
   intro l
   induction l with
   | nil=>intro x A;cases A
   | cons a l ih=>
    intro x A;rw[List.takeWhile_cons]at A;by_cases G:q1w a=true
    ·rw[if_pos G]at A;rcases List.mem_cons.1 A with rfl|A
     ·exact G
     ·exact ih x A
    ·rw[if_neg G]at A;cases A
  exact H r b D
theorem j1f{w:Wd}{S:ByteArray}(h:wbS w=S)(h0:w≠[]):0<S.size/\∀h1:0<S.size,q1w S[0]=z0j w:=by
 subst h;cases w with
 | nil=>exact absurd rfl h0
 | cons c r=>exact⟨by rw[<-q0c];show 0<(c::r).length;simp,fun _=>rfl⟩
theorem j0s{b:Nat}{A:Option Addr}{c:Nat}{ws:List Wd}{p:Nat}(hp:p<=ws.length)(he:ws.length<=p):v1g b A c ws p:=by
 intro w h;have D:=hid h;obtain⟨I,J,K,B,_,_⟩:=h;have L:w.frozen? ⟨b,2,none⟩=false:=B.frozen;have H:(ws.length:Int)<=(p:Int):=by omega
 have C:Hid (p=ws.length):=(show p=ws.length by omega);clear B he;show Calls _ _ _ _ _;go_in;go_wp2_with fail
 go_quiet (fail)
 go_wp2;go_ret;have G:ws.drop p=[]:=List.drop_eq_nil_of_le (by rw[C.o];exact Nat.le_refl _);refine⟨.bad [],[],none,0,rfl,by rw[G];exact .sinN,q0w.nil _ _,by simp[Rs.rest],(fun _ _ _ e=>by cases e),?_,?_⟩
 ·have E:ws.length-(Rs.bad []).rest.length=p:=by rw[C.o];rfl
  rw[E];exact(D.o.keep (q0f (Below.refl _ w) _)).setBad true
 ·exact(But.of (q0f (Below.refl _ w) _)).setCell (p:=⟨b,2,none⟩) (.inl rfl) _
theorem j8m{b:Nat}{A:Option Addr}{c:Nat}{ws:List Wd}{p:Nat}{w w1 w4 w5:World}{r:Rs}{ns:List Td}{v:Value}(hd:ws.drop p=[40]::ws.drop (p+1))(Q:p<ws.length)(H:b<w.heap.size)(b1:But w b w w1)(hG:Got b A c ws (.level 0) (p+1) w1 r ns v w4)
  (hR:Rd w5 b A c ws (q1n ws (ws.length-r.rest.length) r.isBad [41]) (q0u ws (ws.length-r.rest.length) r.isBad [41])) (b5:But w4 b w4 w5):∃r',Got b A c ws .single p w r' ns v w5:=by
 have K:=q5i hG.pr;have N:=z4u K.1;have L:=hG.n;rw[q0k (by omega)]at L;have G:=b1.size;have R:=hG.bt.size;have J:q0w w v ns w5:=(hG.o.down G).but b5 H;have B:But w b w w5:=(b1.trans (hG.bt.mono G)).trans (b5.mono (by omega));have C:(ws.drop p).length=ws.length-p:=q0k (by omega);cases r with
 | bad u=>
  simp only[Rs.rest,Rs.isBad,q1n,q0u,Bool.not_true,Bool.false_and,Bool.false_eq_true,if_false,Bool.not_false]at *;exact⟨.bad u,by rw[hd];exact .sPB hG.pr,J,by rw[C];simp only[Rs.rest];omega,(fun _ _ _ e=>by cases e),hR,B⟩
 | ok m ms u=>
  have O:=hG.e m ms u rfl;subst O;simp only[Rs.rest,Rs.isBad]at *;have P:ws[ws.length-u.length]?=u.head?:=by rw[<-q5f,N]
  unfold q1n q0u at hR;rw[P]at hR;cases E:(!false&&(u.head?==some ([41]:Wd)))with
  | true=>
   rw[E]at hR;simp only[if_true,Bool.not_true]at hR
   obtain⟨D,rfl⟩:∃D,u=[41]::D:=by
    cases u with
    | nil=>simp at E
    | cons a D=>
     have:a=[41]:=by simpa using E
     exact⟨D,by rw[this]⟩
   simp only[List.length_cons]at L hR;have M:ws.length-(D.length+1)+1=ws.length-D.length:=by omega
   rw[M]at hR;exact⟨.ok 0 ms D,by rw[hd];exact .sPC hG.pr,J,by rw[C];simp only[Rs.rest];omega,(fun _ _ _ e=>by cases e;rfl),hR,B⟩
  | false=>
   rw[E]at hR;simp only[Bool.false_eq_true,if_false,Bool.not_false]at hR
   have I:u.head?≠some [41]:=fun e=>by
    rw[e]at E;exact absurd E (by decide)
   exact⟨.bad u,by rw[hd];exact .sPX hG.pr I,J,by rw[C];simp only[Rs.rest];omega,(fun _ _ _ e=>by cases e),hR,B⟩
theorem k6u{b:Nat}{A:Option Addr}{c:Nat}{ws:List Wd}{p q:Nat}{e:Wd}{w w1 w4 w5:World}{r:Rs}{n:Nat}{ns:List Td}{v v5:Value}{x:Td}(K:p<q)(hq:q<=ws.length)(E:b<w.heap.size)(b1:But w b w w1)(hG:y6i b A c ws e q w1 r n ns v w4)
  (hB:∀u,PR (.args e 0 []) (ws.drop q) (.bad u)->PR .single (ws.drop p) (.bad u)) (hO:∀u,PR (.args e 0 []) (ws.drop q) (.ok n ns u)->PR .single (ws.drop p) (.ok 0 (x::ns) u))
  (b5:Below w w4 w5) (ho:q0w w v5 ([x]++ns) w5):∃r',Got b A c ws .single p w r' (x::ns) v5 w5:=by
 have L:=q5i hG.pr;have J:=hG.nl;rw[q0k hq]at J;have G:=b1.size;have D:=hG.rd.keepB b5 E;have B:But w b w w5:=(b1.trans (hG.bt.mono G)).trans (But.of b5);have C:(ws.drop p).length=ws.length-p:=q0k (by omega);cases r with
 | bad u=>
  simp only[Rs.rest,Rs.isBad]at *;exact⟨.bad u,hB u hG.pr,ho,by rw[C];simp only[Rs.rest,List.length_cons];omega,(fun _ _ _ e=>by cases e),D,B⟩
 | ok m ms u=>
  obtain⟨H,I⟩:=hG.ev m ms u rfl;subst H I;simp only[Rs.rest,Rs.isBad]at *;exact⟨.ok 0 (x::ms) u,hO u hG.pr,ho,by rw[C];simp only[Rs.rest,List.length_cons];omega,(fun _ _ _ e=>by cases e;rfl),D,B⟩
theorem j8z{b:Nat}{A:Option Addr}{c:Nat}{ws:List Wd}{p:Nat}(hl:ws.length<=60000)(H:p<ws.length)(I:ws[p]≠[])(h1:ws[p]≠[40])(h2:ws[p]≠[91])(h3:z0j ws[p]=false)(h4:nmW ws[p]=false):v1g b A c ws p:=by
 intro w h;have Z:=hid h;have f:b<w.heap.size:=h.row.lt;have o:w.frozen? ⟨b,1,none⟩=false:=h.row.frozen;have q:w.frozen? ⟨b,2,none⟩=false:=h.row.frozen;obtain⟨l,m,n,_,R,_⟩:=h;have g:¬(ws.length:Int)<=(p:Int):=by omega
 have Q:(p:Int)<(ws.length:Int):=by omega
 have K:Hid (ws.drop p=ws[p]::ws.drop (p+1)):=List.drop_eq_getElem_cons H;obtain⟨k,r,rfl,d,P⟩:=R p (by rw[List.length_map];exact H);rw[List.getElem_map]at P;have D:Hid (q0o (wbS ws[p])=nmW ws[p]):=(show q0o (wbS ws[p])=nmW ws[p]from rfl);have B:((wbS ws[p]).toList==[40])=(ws[p]==[40]):=by rw[Lib.toList_data];rfl
 have C:((wbS ws[p]).toList==[91])=(ws[p]==[91]):=by rw[Lib.toList_data];rfl
 generalize M:wbS ws[p]=X at P D B C;obtain⟨O,J⟩:=j1f M I;have j:Hid (wbS ws[p]=X):=M;have S:(0:Int)<(X.size:Int):=by omega
 have E:Hid (∀W:World,Calls prog 73 #[.int .u8 (X[0].toNat:Int)] W fun e w'=>e=.returned (.bool (z0j ws[p]))/\W=w'):=fun W=>by
  have:=q2i X[0] W
  rw[J O]at this;exact this
 have G:Hid (∀W:World,Calls prog 23 #[.string X] W fun e w'=>e=.returned (.bool (nmW ws[p]))/\W=w'):=fun W=>by
  have:=q1e X W
  rw[D.o]at this;exact this
 have Y:Hid (∀q',Below w w (w.drewN q')):=fun q'=>q0f (Below.refl _ w) q'
 have U:(ws[p]==[40])=false:=by simpa using h1
 have V:(ws[p]==[91])=false:=by simpa using h2
 rw[U]at B;rw[V]at C;rw[h3]at E;rw[h4]at G
 have L:Hid (PR .single (ws.drop p) (.bad (ws.drop p))):=by
  show PR _ _ _;rw[K.o];exact .sBad h1 h2 h3 h4
 clear h1 h2 h3 h4 U V;clear M J I R D;show Calls _ _ _ _ _;go_in;go_wp2_with fail
 go_quiet (fail)
 go_wp2_with fail
 go_quiet (fail)
 go_wp2_with fail;refine(G.o _).mono ?_;rintro e i⟨rfl,rfl⟩;go_wp2_with fail;refine(E.o _).mono ?_;rintro e i⟨rfl,rfl⟩;go_wp2;go_ret;have N:(ws.drop p).length=ws.length-p:=q0k (by omega);have a:ws.length-(Rs.bad (ws.drop p)).rest.length=p:=by simp only[Rs.rest,N];omega
 refine⟨.bad (ws.drop p),[],none,0,rfl,L.o,q0w.nil _ _,by simp[Rs.rest],(fun _ _ _ e=>by cases e),?_,?_⟩
 ·rw[a];exact(Z.o.keep (q0f (Below.refl _ w) _)).setBad true
 ·exact(But.of (q0f (Below.refl _ w) _)).setCell (p:=⟨b,2,none⟩) (.inl rfl) _
theorem j0v{b:Nat}{A:Option Addr}{c:Nat}{ws:List Wd}{p:Nat}(hl:ws.length<=60000)(E:p<ws.length)(N:ws[p]≠[])(h1:ws[p]=[40])(hL:z9z b A c ws 0 (p+1)):v1g b A c ws p:=by
 intro w h;have x:=hid h;have f:b<w.heap.size:=h.row.lt;have f1:w.frozen? ⟨b,1,none⟩=false:=h.row.frozen;have f2:w.frozen? ⟨b,2,none⟩=false:=h.row.frozen;obtain⟨c0,c1,c2,_,q,_⟩:=h;have Ac:¬(ws.length:Int)<=(p:Int):=by omega
 have o:(p:Int)<(ws.length:Int):=by omega
 have H:Hid (ws.drop p=ws[p]::ws.drop (p+1)):=List.drop_eq_getElem_cons E;obtain⟨a,i,rfl,Ab,j⟩:=q p (by rw[List.length_map];exact E);rw[List.getElem_map]at j;have D:Hid (q0o (wbS ws[p])=nmW ws[p]):=(show q0o (wbS ws[p])=nmW ws[p]from rfl);have C:((wbS ws[p]).toList==[40])=(ws[p]==[40]):=by rw[Lib.toList_data];rfl
 have P:((wbS ws[p]).toList==[91])=(ws[p]==[91]):=by rw[Lib.toList_data];rfl
 generalize d:wbS ws[p]=X at j D C P;obtain⟨g,Q⟩:=j1f d N;have HX:Hid (wbS ws[p]=X):=d;have r:(0:Int)<(X.size:Int):=by omega
 have I:Hid (∀W:World,Calls prog 73 #[.int .u8 (X[0].toNat:Int)] W fun e w'=>e=.returned (.bool (z0j ws[p]))/\W=w'):=fun W=>by
  have:=q2i X[0] W
  rw[Q g]at this;exact this
 have K:Hid (∀W:World,Calls prog 23 #[.string X] W fun e w'=>e=.returned (.bool (nmW ws[p]))/\W=w'):=fun W=>by
  have:=q1e X W
  rw[D.o]at this;exact this
 have u:Hid (∀q',Below w w (w.drewN q')):=fun q'=>q0f (Below.refl _ w) q'
 have s:(ws[p]==[40])=true:=by rw[h1];rfl
 rw[s]at C;have l:z0j ws[p]=false:=by rw[h1];rfl
 have m:nmW ws[p]=false:=by rw[h1];exact k4g
 rw[l]at I;rw[m]at K;rw[h1]at H;have z:=(show Hid (z9z b (some ⟨a,i,none⟩) c ws 0 (p+1))from hL)
 have Y:Hid (∀q',Rd ((w.drewN q').setCell ⟨b,1,none⟩ (.int .i64 ((p:Int)+1))) b (some ⟨a,i,none⟩) c ws (p+1) false):=fun q'=>by
  have k:=(x.o.keep (q0f (Below.refl _ w) q')).setAt (p+1);rw[show((p+1:Nat):Int)=(p:Int)+1 by omega]at k;exact k
 have U:Hid (∀q',But w b w ((w.drewN q').setCell ⟨b,1,none⟩ (.int .i64 ((p:Int)+1)))):=fun q'=>(But.of (q0f (Below.refl _ w) q')).setCell (p:=⟨b,1,none⟩) (.inl rfl) _
 clear h1 l m s hL;clear d Q N q D;show Calls _ _ _ _ _;go_in;go_wp2_with fail
 go_quiet (fail)
 go_wp2_with fail
 go_quiet (fail)
 go_wp2_with fail;refine(K.o _).mono ?_;rintro e w1⟨rfl,rfl⟩;go_wp2_with fail;refine(I.o _).mono ?_;rintro e w1⟨rfl,rfl⟩;go_wp2_with fail;refine(z.o _ (Y.o _)).mono ?_;rintro e S⟨R,G,t,c4,rfl,B⟩;have J:=hid B;have Aa:b<S.heap.size:=B.rd.row.lt;have Z:Hid (Calls prog 35 #[.pointer (some ⟨b,0,none⟩),.string ⟨#[41]⟩] S fun e w'=>(∃v,e=.returned v)/\Rd w' b (some ⟨a,i,none⟩) c ws (q1n ws (ws.length-R.rest.length) R.isBad [41]) (q0u ws (ws.length-R.rest.length) R.isBad [41])/\But S b S w'):=q8e B.rd hl (by omega) [41];generalize O:G.length=n4;have V:Hid (G.length=n4):=O;clear B O;go_wp2_with fail;refine Z.o.mono ?_;rintro e w5⟨⟨vv,rfl⟩,L,M⟩;obtain⟨r',n⟩:=j8m H.o E f (U.o _) J.o L M;have y:=hid n;clear L M n J;go_wp2;go_ret;exact⟨r',G,t,c4,by rw[V.o];rfl,y.o⟩
theorem j0t{b:Nat}{A:Option Addr}{c:Nat}{ws:List Wd}{p:Nat}(hl:ws.length<=60000)(d:p<ws.length)(g:ws[p]≠[])(h1:ws[p]=[91])(hL:y6j b A c ws [93] (p+1)):v1g b A c ws p:=by
 intro w h;have HD:=hid h;have Ab:b<w.heap.size:=h.row.lt;have f1:w.frozen? ⟨b,1,none⟩=false:=h.row.frozen;have f2:w.frozen? ⟨b,2,none⟩=false:=h.row.frozen;obtain⟨c0,c1,c2,_,hw,_⟩:=h;have Ak:¬(ws.length:Int)<=(p:Int):=by omega
 have Af:(p:Int)<(ws.length:Int):=by omega
 have J:Hid (ws.drop p=ws[p]::ws.drop (p+1)):=List.drop_eq_getElem_cons d;obtain⟨ba,oa,rfl,Ai,d0⟩:=hw p (by rw[List.length_map];exact d);rw[List.getElem_map]at d0;have K:Hid (q0o (wbS ws[p])=nmW ws[p]):=(show q0o (wbS ws[p])=nmW ws[p]from rfl);have G:((wbS ws[p]).toList==[40])=(ws[p]==[40]):=by rw[Lib.toList_data];rfl
 have H:((wbS ws[p]).toList==[91])=(ws[p]==[91]):=by rw[Lib.toList_data];rfl
 generalize hX:wbS ws[p]=X at d0 K G H;obtain⟨Ae,i⟩:=j1f hX g;have HX:Hid (wbS ws[p]=X):=hX;have Ag:(0:Int)<(X.size:Int):=by omega
 have Q:Hid (∀W:World,Calls prog 73 #[.int .u8 (X[0].toNat:Int)] W fun e M=>e=.returned (.bool (z0j ws[p]))/\W=M):=fun W=>by
  have:=q2i X[0] W
  rw[i Ae]at this;exact this
 have S:Hid (∀W:World,Calls prog 23 #[.string X] W fun e M=>e=.returned (.bool (nmW ws[p]))/\W=M):=fun W=>by
  have:=q1e X W
  rw[K.o]at this;exact this
 have Ah:Hid (∀q',Below w w (w.drewN q')):=fun q'=>q0f (Below.refl _ w) q'
 have k1:(ws[p]==[40])=false:=by rw[h1];rfl
 have k2:(ws[p]==[91])=true:=by rw[h1];rfl
 rw[k1]at G;rw[k2]at H;have Y:z0j ws[p]=false:=by rw[h1];rfl
 have h4:nmW ws[p]=false:=by rw[h1];exact k4h
 rw[Y]at Q;rw[h4]at S;rw[h1]at J
 have U:Hid (∀q',Rd ((w.drewN q').setCell ⟨b,1,none⟩ (.int .i64 ((p:Int)+1))) b (some ⟨ba,oa,none⟩) c ws (p+1) false):=fun q'=>by
  have s:=(HD.o.keep (q0f (Below.refl _ w) q')).setAt (p+1);rw[show((p+1:Nat):Int)=(p:Int)+1 by omega]at s;exact s
 have O:Hid (∀q',But w b w ((w.drewN q').setCell ⟨b,1,none⟩ (.int .i64 ((p:Int)+1)))):=fun q'=>(But.of (q0f (Below.refl _ w) q')).setCell (p:=⟨b,1,none⟩) (.inl rfl) _
 have HL:Hid (∀q',Calls prog 116 #[.pointer (some ⟨b,0,none⟩),.string ⟨#[93]⟩] ((w.drewN q').setCell ⟨b,1,none⟩ (.int .i64 ((p:Int)+1))) fun ev M=>∃k r n j l m,ev=.returned (.tuple #[.int .i64 ((n:Nat):Int),.slice l j.length m])/\But w b w k/\y6i b (some ⟨ba,oa,none⟩) c ws [93] (p+1) k r n j (.slice l j.length m) M):=fun q'=>by
  refine(hL _ (U.o q')).mono ?_;rintro e M⟨r,n,j,l,m,h1,s⟩;exact⟨_,r,n,j,l,m,h1,O.o q',s⟩
 clear h1 Y h4 k1 k2 hL U O;clear hX i g hw K;show Calls _ _ _ _ _;go_in;go_wp2_with fail
 go_quiet (fail)
 go_wp2_with fail
 go_quiet (fail)
 go_wp2_with fail;refine(S.o _).mono ?_;rintro e k⟨rfl,rfl⟩;go_wp2_with fail;refine(Q.o _).mono ?_;rintro e k⟨rfl,rfl⟩;go_wp2_with fail;refine(HL.o _).mono ?_;rintro e N⟨k,r4,n,D,t,c4,rfl,Z,B⟩;have y:=hid B;have f:=B.nl;rw[q0k (by omega)]at f;have Aj:=B.le;have Ac:=Z.size;have Ad:=B.bt.size;have Aa:Hid (Tds N t D):=B.o.tds;generalize L:D.length=n4 at f;have R:Hid (D.length=n4):=L
 have z:Hid (t=none->n4=0/\c4=0):=by
  have Y:=B.o.none;rw[L]at Y;exact Y.2
 have I:w.heap.size<=N.heap.size:=by omega
 have V:Hid (q0w w (.slice (some ⟨N,0,none⟩) 1 1) [lsT n] (N.alloc (.cells #[.int .i64 4,.string ⟨#[]⟩,.int .i64 (n:Int)] 47))):=(q0w.one N (lsT n)).down I;have v:=hid Z;clear B L Ac Ad;go_wp2_with(at_builtin;refine q4k rfl _ _ rfl w.heap.size _ [lsT n] rfl V.o t n4 D R.o c4 rfl (Aa.o.alloc _) z.o (1+n4) rfl (by omega) (by rw[World.size_alloc];omega) ?_);intro A5 c5 w5 E C;have a:Below w N w5:=(Zb.alloc I _).grown C (by rw[World.size_alloc];omega) (fun k' hk=>(World.ownsRow.lt V.o k' hk).1);obtain⟨r',hG⟩:=k6u (ws:=ws) (p:=p) (q:=p+1) (x:=lsT n) (by omega) (by omega) Ab v.o y.o (fun u hu=>by rw[J.o];exact .sLB hu) (fun u hu=>by rw[J.o];exact .sLO hu) a E;have HG:=hid hG
 have P:Hid ((lsT n::D).length=1+n4):=by
  show _=_;rw[List.length_cons,R.o];omega
 clear E C a hG;go_wp2;go_ret;exact⟨r',lsT n::D,A5,c5,by rw[P.o];rfl,by rw[P.o];exact HG.o⟩
theorem j7x{w:Wd}{S:ByteArray}(h:wbS w=S)(hf:∀b∈w,q1w b=true)(hl:w.length<=6):∃N:Nat->Nat,N 0=0/\N S.size=z8x w/\∀k(h:k<S.size),N (k+1)=N k*10+(S[k].toNat-48)/\48<=S[k].toNat/\S[k].toNat<=57/\N k<=1000000:=by
 subst h;have H:(wbS w).size=w.length:=rfl
 have B:∀k(h:k<w.length),z8x (w.take (k+1))=z8x (w.take k)*10+(w[k].toNat-48):=by
  intro k h;rw[List.take_succ_eq_append_getElem h];unfold z8x;rw[List.foldl_append];rfl
 have A:∀k(h:k<w.length),48<=w[k].toNat/\w[k].toNat<=57:=by
  intro k h;have D:=hf w[k] (List.getElem_mem h);unfold q1w at D;simpa using D
 have G:∀k,k<=w.length->z8x (w.take k)+1<=10 ^ k:=by
  intro k
  induction k with
  | zero=>intro _;simp[z8x]
  | succ k ih=>
   intro E;have D:=ih (by omega);have I:=A k (by omega);rw[B k (by omega),Nat.pow_succ];omega
 refine⟨fun k=>z8x (w.take k),by simp[z8x],by show z8x (w.take w.length)=_;rw[List.take_length],fun k E=>?_⟩;have C:k<w.length:=E;have J:=G k (by omega);have K:10 ^ k<=10 ^ 6:=Nat.pow_le_pow_right (by omega) (by omega);exact⟨B k C,(A k C).1,(A k C).2,by show z8x (w.take k)<=1000000;omega⟩
theorem j6m{w:Wd}(h:nmW w=true):w≠[40]/\w≠[91]/\z0j w=false:=by
 refine⟨fun e=>?_,fun e=>?_,?_⟩
 ·rw[e,k4g]at h;cases h
 ·rw[e,k4h]at h;cases h
 ·cases A:z0j w with
  | false=>rfl
  | true=>rw[q3g A]at h;cases h
theorem y4n{w:Wd}(h:z0j w=true):w≠[40]/\w≠[91]/\nmW w=false:=by
 refine⟨fun e=>?_,fun e=>?_,q3g h⟩
 ·rw[e,v7w]at h;cases h
 ·rw[e,v7x]at h;cases h
theorem j8e{b:Nat}{A:Option Addr}{c:Nat}{ws:List Wd}{p:Nat}{w w1:World}{x:Td}(H:p<ws.length)(C:b<w.heap.size)(hR:Rd w1 b A c ws (p+1) false)(hB:But w b w w1)(hp:PR .single (ws.drop p) (.ok 0 [x] (ws.drop (p+1)))):
  Got b A c ws .single p w (.ok 0 [x] (ws.drop (p+1))) [x] (.slice (some ⟨w1,0,none⟩) 1 1) (w1.alloc (.cells #[.int .i64 x.op,.string x.tx,.int .i64 x.n] 47)):=by
 have E:=hB.size;have D:(ws.drop p).length=ws.length-p:=q0k (by omega);have B:(ws.drop (p+1)).length=ws.length-(p+1):=q0k (by omega);have G:ws.length-(Rs.ok 0 [x] (ws.drop (p+1))).rest.length=p+1:=by simp only[Rs.rest,B];omega
 refine⟨hp,(q0w.one w1 x).down E,by rw[D];simp only[Rs.rest,B,List.length_cons,List.length_nil];omega,(fun _ _ _ e=>by cases e;rfl),?_,?_⟩
 ·rw[G];exact hR.keepB (Zb.alloc E _) C
 ·exact hB.alloc E _
theorem j0u{b:Nat}{A:Option Addr}{c:Nat}{ws:List Wd}{p:Nat}(hl:ws.length<=60000)(H:p<ws.length)(Q:ws[p]≠[])(hn:z0j ws[p]=true)(ht:q3b ws[p]):v1g b A c ws p:=by
 intro w h;have HD:=hid h;have g:b<w.heap.size:=h.row.lt;have f1:w.frozen? ⟨b,1,none⟩=false:=h.row.frozen;have f2:w.frozen? ⟨b,2,none⟩=false:=h.row.frozen;obtain⟨c0,c1,c2,_,v,_⟩:=h;have Ad:¬(ws.length:Int)<=(p:Int):=by omega
 have u:(p:Int)<(ws.length:Int):=by omega
 have U:Hid (ws.drop p=ws[p]::ws.drop (p+1)):=List.drop_eq_getElem_cons H;obtain⟨ba,oa,rfl,Ac,q⟩:=v p (by rw[List.length_map];exact H);rw[List.getElem_map]at q;have G:Hid (q0o (wbS ws[p])=nmW ws[p]):=(show q0o (wbS ws[p])=nmW ws[p]from rfl);have D:((wbS ws[p]).toList==[40])=(ws[p]==[40]):=by rw[Lib.toList_data];rfl
 have E:((wbS ws[p]).toList==[91])=(ws[p]==[91]):=by rw[Lib.toList_data];rfl
 generalize P:wbS ws[p]=X at q G D E;obtain⟨o,R⟩:=j1f P Q;have HX:Hid (wbS ws[p]=X):=P;have x:(0:Int)<(X.size:Int):=by omega
 have J:Hid (∀W:World,Calls prog 73 #[.int .u8 (X[0].toNat:Int)] W fun e w'=>e=.returned (.bool (z0j ws[p]))/\W=w'):=fun W=>by
  have:=q2i X[0] W
  rw[R o]at this;exact this
 have K:Hid (∀W:World,Calls prog 23 #[.string X] W fun e w'=>e=.returned (.bool (nmW ws[p]))/\W=w'):=fun W=>by
  have:=q1e X W
  rw[G.o]at this;exact this
 have Aa:Hid (∀B,Below w w (w.drewN B)):=fun B=>q0f (Below.refl _ w) B
 obtain⟨s,L,t⟩:=y4n hn;have y:(ws[p]==[40])=false:=by simpa using s
 have z:(ws[p]==[91])=false:=by simpa using L
 rw[y]at D;rw[z]at E;rw[hn]at J;rw[t]at K;have C:=y2e ht hn;obtain⟨N,f,O,M⟩:=j7x P C.1 C.2;have Y:Hid (N X.size=z8x ws[p]):=O;have V:Hid (∀k(h:k<X.size),N (k+1)=N k*10+(X[k].toNat-48)/\48<=X[k].toNat/\X[k].toNat<=57/\N k<=1000000):=M
 have Z:Hid (PR .single (ws.drop p) (.ok 0 [y4f ws[p]] (ws.drop (p+1)))):=by
  show PR _ _ _;rw[U.o];exact .sNum hn
 have Ab:X.size<=6:=by rw[<-P];exact C.2
 have a:Hid (∀B,Rd ((w.drewN B).setCell ⟨b,1,none⟩ (.int .i64 ((p:Int)+1))) b (some ⟨ba,oa,none⟩) c ws (p+1) false):=fun B=>by
  have L:=(HD.o.keep (q0f (Below.refl _ w) B)).setAt (p+1);rw[show((p+1:Nat):Int)=(p:Int)+1 by omega]at L;exact L
 have S:Hid (∀B,But w b w ((w.drewN B).setCell ⟨b,1,none⟩ (.int .i64 ((p:Int)+1)))):=fun B=>(But.of (q0f (Below.refl _ w) B)).setCell (p:=⟨b,1,none⟩) (.inl rfl) _
 clear s L t y z hn ht C O M;clear P R Q v G;show Calls _ _ _ _ _;go_in;go_wp2_with fail
 go_quiet (fail)
 go_wp2_with fail
 go_quiet (fail)
 go_wp2_with fail;refine(K.o _).mono ?_;rintro e w1⟨rfl,rfl⟩;go_wp2_with fail;refine(J.o _).mono ?_;rintro e w1⟨rfl,rfl⟩;go_wp2_with fail
 go_loopw [10,11] (fun n i wr=>∃k:Nat,k<=X.size/\i=.int .i64 (k:Int)/\n=.int .i64 (N k:Int)/\∃B,wr=(w.drewN B).setCell ⟨b,1,none⟩ (.int .i64 ((p:Int)+1))) (fun _ i _=>X.size-(intOf i).toNat)
 case atStart=>exact⟨0,Nat.zero_le _,rfl,by rw[f];rfl,_,rfl⟩
 case round=>
  obtain⟨k,hk,rfl,rfl,B,rfl⟩:=hrel;by_cases m:k<X.size
  ·have l:(k:Int)<(X.size:Int):=by omega
   obtain⟨r,e2,e3,e4⟩:=V.o k m;have I:Hid (N (k+1)=N k*10+(X[k].toNat-48)):=r;generalize Ae:X[k].toNat=xk at e2 e3 I;clear r;go_wp2
   go_roundw
   case rel=>
    refine⟨k+1,by omega,by go_num,?_,B,rfl⟩;rw[I.o]
    congr 1
    omega
   case measure=>simp[intOf];omega
  ·have l:¬(k:Int)<(X.size:Int):=by omega
   have j:k=X.size:=by omega
   subst j;rw[Y.o];have d:=j8e H g (a.o B) (S.o B) Z.o;rw[World.size_setCell]at d;have HG:=hid d;clear d;go_wp2;go_ret;exact⟨_,[y4f ws[p]],_,_,rfl,HG.o⟩
theorem k5c{b:Nat}{A:Option Addr}{c:Nat}{ws:List Wd}{p:Nat}(hl:ws.length<=60000)(G:p<ws.length)(P:ws[p]≠[])(hn:nmW ws[p]=true)(h5:(ws[p+1]?==some [40])=false):v1g b A c ws p:=by
 intro w h;have s:=hid h;have Y:b<w.heap.size:=h.row.lt;have f1:w.frozen? ⟨b,1,none⟩=false:=h.row.frozen;have f2:w.frozen? ⟨b,2,none⟩=false:=h.row.frozen;obtain⟨c0,c1,c2,_,k,_⟩:=h;have x:¬(ws.length:Int)<=(p:Int):=by omega
 have j:(p:Int)<(ws.length:Int):=by omega
 have R:Hid (ws.drop p=ws[p]::ws.drop (p+1)):=List.drop_eq_getElem_cons G;obtain⟨a,o,rfl,v,d⟩:=k p (by rw[List.length_map];exact G);rw[List.getElem_map]at d;have D:Hid (q0o (wbS ws[p])=nmW ws[p]):=(show q0o (wbS ws[p])=nmW ws[p]from rfl);have B:((wbS ws[p]).toList==[40])=(ws[p]==[40]):=by rw[Lib.toList_data];rfl
 have C:((wbS ws[p]).toList==[91])=(ws[p]==[91]):=by rw[Lib.toList_data];rfl
 generalize V:wbS ws[p]=X at d D B C;obtain⟨Z,Q⟩:=j1f V P;have u:Hid (wbS ws[p]=X):=V;have l:(0:Int)<(X.size:Int):=by omega
 have K:Hid (∀W:World,Calls prog 73 #[.int .u8 (X[0].toNat:Int)] W fun e H=>e=.returned (.bool (z0j ws[p]))/\W=H):=fun W=>by
  have:=q2i X[0] W
  rw[Q Z]at this;exact this
 have L:Hid (∀W:World,Calls prog 23 #[.string X] W fun e H=>e=.returned (.bool (nmW ws[p]))/\W=H):=fun W=>by
  have:=q1e X W
  rw[D.o]at this;exact this
 have r:Hid (∀q',Below w w (w.drewN q')):=fun q'=>q0f (Below.refl _ w) q'
 obtain⟨f,M,g⟩:=j6m hn;have m:(ws[p]==[40])=false:=by simpa using f
 have n:(ws[p]==[91])=false:=by simpa using M
 rw[m]at B;rw[n]at C;rw[g]at K;rw[hn]at L
 have U:Hid (PR .single (ws.drop p) (.ok 0 [nmT ws[p]] (ws.drop (p+1)))):=by
  show PR _ _ _;rw[R.o];refine .sName hn ?_;rw[q5f];intro e;rw[e]at h5;exact absurd h5 (by decide)
 have E:Hid (∀q',Rd ((w.drewN q').setCell ⟨b,1,none⟩ (.int .i64 ((p:Int)+1))) b (some ⟨a,o,none⟩) c ws (p+1) false):=fun q'=>by
  have M:=(s.o.keep (q0f (Below.refl _ w) q')).setAt (p+1);rw[show((p+1:Nat):Int)=(p:Int)+1 by omega]at M;exact M
 have J:Hid (∀q',But w b w ((w.drewN q').setCell ⟨b,1,none⟩ (.int .i64 ((p:Int)+1)))):=fun q'=>(But.of (q0f (Below.refl _ w) q')).setCell (p:=⟨b,1,none⟩) (.inl rfl) _
 have S:Hid (∀q',Calls prog 34 #[.pointer (some ⟨b,0,none⟩),.string ⟨#[40]⟩] ((w.drewN q').setCell ⟨b,1,none⟩ (.int .i64 ((p:Int)+1))) fun e H=>e=.returned (.bool false)/\Rd H b (some ⟨a,o,none⟩) c ws (p+1) false/\But w b w H):=fun q'=>by
  have I:=z2f (E.o q') [40];rw[show(!false&&(ws[p+1]?==some [40]))=false from h5]at I;refine I.mono ?_;rintro e H⟨rfl,q,rfl⟩;exact⟨rfl,(E.o q').keep (q0f Zb q),(J.o q').trans (But.of (q0f Zb q))⟩
 clear f M g m n hn h5 E J;clear V Q P k D;show Calls _ _ _ _ _;go_in;go_wp2_with fail
 go_quiet (fail)
 go_wp2_with fail
 go_quiet (fail)
 go_wp2_with fail;refine(L.o _).mono ?_;rintro e y⟨rfl,rfl⟩;go_wp2_with fail;refine(K.o _).mono ?_;rintro e y⟨rfl,rfl⟩;go_wp2_with fail;refine(S.o _).mono ?_;rintro e z⟨rfl,O,N⟩;have i:=j8e G Y O N U.o;have t:=hid i;clear i O N;go_wp2;go_ret;refine⟨.ok 0 [nmT ws[p]] (ws.drop (p+1)),[nmT ws[p]],some ⟨z,0,none⟩,1,rfl,?_⟩;have I:=t.o;unfold nmT at I⊢;simp only[u.o]at I⊢;exact I
theorem k5b{b:Nat}{A:Option Addr}{c:Nat}{ws:List Wd}{p:Nat}(hl:ws.length<=60000)(k:p<ws.length)(m:ws[p]≠[])(hn:nmW ws[p]=true)(h5:(ws[p+1]?==some [40])=true)(hL:y6j b A c ws [41] (p+2)):v1g b A c ws p:=by
 intro w h;have HD:=hid h;have Ag:b<w.heap.size:=h.row.lt;have f1:w.frozen? ⟨b,1,none⟩=false:=h.row.frozen;have f2:w.frozen? ⟨b,2,none⟩=false:=h.row.frozen;obtain⟨c0,c1,c2,_,hw,_⟩:=h;have As:¬(ws.length:Int)<=(p:Int):=by omega
 have Al:(p:Int)<(ws.length:Int):=by omega
 have Ab:Hid (ws.drop p=ws[p]::ws.drop (p+1)):=List.drop_eq_getElem_cons k;obtain⟨z,oa,rfl,Aq,d0⟩:=hw p (by rw[List.length_map];exact k);rw[List.getElem_map]at d0;have N:Hid (q0o (wbS ws[p])=nmW ws[p]):=(show q0o (wbS ws[p])=nmW ws[p]from rfl);have K:((wbS ws[p]).toList==[40])=(ws[p]==[40]):=by rw[Lib.toList_data];rfl
 have L:((wbS ws[p]).toList==[91])=(ws[p]==[91]):=by rw[Lib.toList_data];rfl
 generalize hX:wbS ws[p]=X at d0 N K L;obtain⟨Ak,s⟩:=j1f hX m;have HX:Hid (wbS ws[p]=X):=hX;have Am:(0:Int)<(X.size:Int):=by omega
 have V:Hid (∀W:World,Calls prog 73 #[.int .u8 (X[0].toNat:Int)] W fun e G=>e=.returned (.bool (z0j ws[p]))/\W=G):=fun W=>by
  have:=q2i X[0] W
  rw[s Ak]at this;exact this
 have a:Hid (∀W:World,Calls prog 23 #[.string X] W fun e G=>e=.returned (.bool (nmW ws[p]))/\W=G):=fun W=>by
  have:=q1e X W
  rw[N.o]at this;exact this
 have An:Hid (∀q',Below w w (w.drewN q')):=fun q'=>q0f (Below.refl _ w) q'
 obtain⟨h1,P,f⟩:=j6m hn;have k1:(ws[p]==[40])=false:=by simpa using h1
 have k2:(ws[p]==[91])=false:=by simpa using P
 rw[k1]at K;rw[k2]at L;rw[f]at V;rw[hn]at a;have h6:ws[p+1]?=some [40]:=by simpa using h5
 obtain⟨Ah,h7⟩:=List.getElem?_eq_some_iff.1 h6
 have I:Hid (ws.drop p=ws[p]::[40]::ws.drop (p+2)):=by
  show _=_;rw[Ab.o,List.drop_eq_getElem_cons Ah,h7]
 have J:Hid (nmW ws[p]=true):=hn
 have O:Hid (∀q',Rd ((w.drewN q').setCell ⟨b,1,none⟩ (.int .i64 ((p:Int)+1))) b (some ⟨z,oa,none⟩) c ws (p+1) false):=fun q'=>by
  have P:=(HD.o.keep (q0f (Below.refl _ w) q')).setAt (p+1);rw[show((p+1:Nat):Int)=(p:Int)+1 by omega]at P;exact P
 have S:Hid (∀q',But w b w ((w.drewN q').setCell ⟨b,1,none⟩ (.int .i64 ((p:Int)+1)))):=fun q'=>(But.of (q0f (Below.refl _ w) q')).setCell (p:=⟨b,1,none⟩) (.inl rfl) _
 have Ad:Hid (∀q',Calls prog 34 #[.pointer (some ⟨b,0,none⟩),.string ⟨#[40]⟩] ((w.drewN q').setCell ⟨b,1,none⟩ (.int .i64 ((p:Int)+1))) fun e G=>e=.returned (.bool true)/\Rd G b (some ⟨z,oa,none⟩) c ws (p+1) false/\But w b w G):=fun q'=>by
  have h9:=z2f (O.o q') [40];rw[show(!false&&(ws[p+1]?==some [40]))=true from h5]at h9;refine h9.mono ?_;rintro e G⟨rfl,q2,rfl⟩;exact⟨rfl,(O.o q').keep (q0f Zb q2),(S.o q').trans (But.of (q0f Zb q2))⟩
 have Y:=(show Hid (y6j b (some ⟨z,oa,none⟩) c ws [41] (p+2))from hL);clear h1 P f k1 k2 hn h5 h6 h7 O S hL;clear hX s m hw N;show Calls _ _ _ _ _;go_in;go_wp2_with fail
 go_quiet (fail)
 go_wp2_with fail
 go_quiet (fail)
 go_wp2_with fail;refine(a.o _).mono ?_;rintro e v⟨rfl,rfl⟩;go_wp2_with fail;refine(V.o _).mono ?_;rintro e v⟨rfl,rfl⟩;go_wp2_with fail;refine(Ad.o _).mono ?_;rintro e w2⟨rfl,H,i⟩;have Ao:=H.c1;have Ap:w2.frozen? ⟨b,1,none⟩=false:=H.row.frozen
 have HL:Hid (Calls prog 116 #[.pointer (some ⟨b,0,none⟩),.string ⟨#[41]⟩] (w2.setCell ⟨b,1,none⟩ (.int .i64 (((p+1:Nat):Int)+1))) fun ev G=>∃v r n t y c',ev=.returned (.tuple #[.int .i64 ((n:Nat):Int),.slice y t.length c'])/\But w b w v/\y6i b (some ⟨z,oa,none⟩) c ws [41] (p+2) v r n t (.slice y t.length c') G):=by
  have h8:=H.setAt (p+2);rw[show((p+2:Nat):Int)=((p+1:Nat):Int)+1 by omega]at h8;refine(Y.o _ h8).mono ?_;rintro e G⟨r,n,t,y,c',h1,P⟩;exact⟨_,r,n,t,y,c',h1,i.setCell (p:=⟨b,1,none⟩) (.inl rfl) _,P⟩
 clear H i Y;go_wp2_with fail;refine HL.o.mono ?_;rintro e R⟨v,r4,n,D,A4,c4,rfl,g,B⟩;have Ac:=hid B;have l:=B.nl;rw[q0k (by omega)]at l;have Ar:=B.le;have Ai:=g.size;have Aj:=B.bt.size;have Af:Hid (Tds R A4 D):=B.o.tds;generalize Q:D.length=n4 at l;have Z:Hid (D.length=n4):=Q
 have Ae:Hid (A4=none->n4=0/\c4=0):=by
  have f:=B.o.none;rw[Q]at f;exact f.2
 have M:w.heap.size<=R.heap.size:=by omega
 have d:Hid (q0w w (.slice (some ⟨R,0,none⟩) 1 1) [(⟨3,X,(n:Nat)⟩:Td)] (R.alloc (.cells #[.int .i64 3,.string X,.int .i64 (n:Int)] 47))):=(q0w.one R ((⟨3,X,(n:Nat)⟩:Td))).down M;have Aa:=hid g;clear B Q Ai Aj;go_wp2_with(at_builtin;refine q4k rfl _ _ rfl w.heap.size _ [(⟨3,X,(n:Nat)⟩:Td)] rfl d.o A4 n4 D Z.o c4 rfl (Af.o.alloc _) Ae.o (1+n4) rfl (by omega) (by rw[World.size_alloc];omega) ?_);intro A5 c5 w5 E C;have j:Below w R w5:=(Zb.alloc M _).grown C (by rw[World.size_alloc];omega) (fun k' hk=>(World.ownsRow.lt d.o k' hk).1);obtain⟨r',hG⟩:=k6u (ws:=ws) (p:=p) (q:=p+2) (x:=(⟨3,X,(n:Nat)⟩:Td)) (by omega) (by omega) Ag Aa.o Ac.o (fun u hu=>by rw[I.o];exact .sCB J.o hu) (fun u hu=>by rw[I.o,<-HX.o];exact .sCO J.o hu) j E;have HG:=hid hG
 have U:Hid (((⟨3,X,(n:Nat)⟩:Td)::D).length=1+n4):=by
  show _=_;rw[List.length_cons,Z.o];omega
 clear E C j hG;go_wp2;go_ret;exact⟨r',(⟨3,X,(n:Nat)⟩:Td)::D,A5,c5,by rw[U.o];rfl,by rw[U.o];exact HG.o⟩
theorem y0p(bp be bf s o n cap i j:Nat)(x2:Int)(f1:Bool)(w:World)(hn:n<=400)(hi:(i:Int)<n)(A:(i:Int)+1<n)(hj:(j:Int)<n)(B:i+1<j)(h1:bp≠be)(h2:bp≠bf)(h3:be≠bf)(h4:s≠be)(h5:s≠bf)
  (c0:w.cell? ⟨bp,0,none⟩=some (.slice (some ⟨s,o,none⟩) n cap)) (c1:w.cell? ⟨bp,1,none⟩=some (.slice (some ⟨be,0,none⟩) n n)) (c2:w.cell? ⟨bp,2,none⟩=some (.slice (some ⟨bf,0,none⟩) n n))
  (d1:w.cell? ⟨s,o+i*3,none⟩=some (.int .i64 9))
  (e1:w.cell? ⟨be,i+1,none⟩=some (.int .i64 (j:Int)))
  (e2:w.cell? ⟨be,j,none⟩=some (.int .i64 x2))
  (e3:w.cell? ⟨bf,i+1,none⟩=some (.bool f1))
  (y1 y2:Value) (e5:w.cell? ⟨be,i,none⟩=some y1) (e6:w.cell? ⟨bf,i,none⟩=some y2) (z1:w.frozen? ⟨be,i,none⟩=false) (z2:w.frozen? ⟨bf,i,none⟩=false):
  Calls prog 90 #[.pointer (some ⟨bp,0,none⟩),.int .i64 i] w fun e w'=>e=.returned (.tuple #[])/\z2t be bf i (.int .i64 x2) (.bool f1) w w':=by
 have H:=j1h hn hi;have D:(0:Int)<=(i:Int)+1:=by omega
 have C:(0:Int)<=(i:Int):=by omega
 have G:((i:Int)+1).toNat=i+1:=by omega
 have E:(0:Int)<=(j:Int):=by omega
 go_in;go_wp2_with fail
 go_region_held3 (fun w'=>w'.cell? ⟨bp,0,none⟩=some (.slice (some ⟨s,o,none⟩) n cap)/\w'.cell? ⟨bp,1,none⟩=some (.slice (some ⟨be,0,none⟩) n n)/\w'.cell? ⟨bp,2,none⟩=some (.slice (some ⟨bf,0,none⟩) n n)/\w'.cell? ⟨s,o+i*3,none⟩=some (.int .i64 9)/\w'.cell? ⟨be,i+1,none⟩=some (.int .i64 (j:Int))/\w'.cell? ⟨be,j,none⟩=some (.int .i64 x2)/\w'.cell? ⟨bf,i+1,none⟩=some (.bool f1))
  (first|exact⟨c0,c1,c2,d1,e1,e2,e3⟩|exact⟨(cso (by omega)).trans c0,(cso (by omega)).trans c1,(cso (by omega)).trans c2,(cso (by omega)).trans d1,(cso (by omega)).trans e1,(cso (by omega)).trans e2,(cso (by omega)).trans e3⟩|exact⟨(cso (by omega)).trans ((cso (by omega)).trans c0),(cso (by omega)).trans ((cso (by omega)).trans c1),(cso (by omega)).trans ((cso (by omega)).trans c2),(cso (by omega)).trans ((cso (by omega)).trans d1),(cso (by omega)).trans ((cso (by omega)).trans e1),(cso (by omega)).trans ((cso (by omega)).trans e2),(cso (by omega)).trans ((cso (by omega)).trans e3)⟩) (fail)
 all_goals
  go_wp2
  go_end0
  exact⟨rfl,rfl,rfl,rfl,rfl⟩
theorem z6y{b:Nat}{A:Option Addr}{c:Nat}{ws:List Wd}{p:Nat}(hl:ws.length<=60000)(ht:∀x∈ws,q3b x)(hp:p<=ws.length)(hL:∀q,p<q->q<=ws.length->z9z b A c ws 0 q):v1g b A c ws p:=by
 by_cases B:p<ws.length
 ·have E:=ht ws[p] (List.getElem_mem B)
  have C:ws[p]≠[]:=by
   obtain⟨x,r,e,_⟩:=E;rw[e];simp
  by_cases I:ws[p]=[40]
  ·exact j0v hl B C I (hL _ (by omega) (by omega))
  ·by_cases J:ws[p]=[91]
   ·exact j0t hl B C J (k1l (by decide) hl (by omega) fun q G D=>hL q (by omega) D)
   ·cases G:z0j ws[p]with
    | true=>exact j0u hl B C G E
    | false=>
     cases D:nmW ws[p]with
     | false=>exact j8z hl B C I J G D
     | true=>
      cases H:(ws[p+1]?==some ([40]:Wd))with
      | false=>exact k5c hl B C D H
      | true=>
       have K:ws[p+1]?=some [40]:=by simpa using H
       obtain⟨L,_⟩:=List.getElem?_eq_some_iff.1 K;exact k5b hl B C D H (k1l (by decide) hl (by omega) fun q G D=>hL q (by omega) D)
 ·exact j0s hp (by omega)
theorem v4q{b:Nat}{A:Option Addr}{c:Nat}{ws:List Wd}(hl:ws.length<=60000)(ht:∀x∈ws,q3b x):∀n p,p<=ws.length->ws.length-p<=n->z9z b A c ws 2 p/\z9z b A c ws 1 p/\z9z b A c ws 0 p:=by
 intro n
 induction n with
 | zero=>
  intro p D G;have E:p=ws.length:=by omega
  subst E;have B:z9z b A c ws 2 ws.length:=k1e (z6y hl ht D fun q C B=>by omega)
  have C:z9z b A c ws 1 ws.length:=z3e 1 (.inr rfl) hl D fun q h3 h4=>by
   have:q=ws.length:=by omega
   subst this;exact B
  refine⟨B,C,z3e 0 (.inl rfl) hl D fun q h3 h4=>?_⟩
  have:q=ws.length:=by omega
  subst this;exact C
 | succ n ih=>
  intro p D G;have B:z9z b A c ws 2 p:=k1e (z6y hl ht D fun q C B=>(ih q B (by omega)).2.2)
  have C:z9z b A c ws 1 p:=z3e 1 (.inr rfl) hl D fun q h3 h4=>by
   by_cases e:q=p
   ·subst e;exact B
   ·exact(ih q h4 (by omega)).1
  refine⟨B,C,z3e 0 (.inl rfl) hl D fun q h3 h4=>?_⟩;by_cases e:q=p
  ·subst e;exact C
  ·exact(ih q h4 (by omega)).2.1
theorem k1d{b:Nat}{A:Option Addr}{c:Nat}{ws:List Wd}{p:Nat}(hl:ws.length<=60000)(ht:∀x∈ws,q3b x)(hp:p<=ws.length):z9z b A c ws 0 p:=(v4q hl ht _ p hp Zl).2.2
end Go.Proofs.YtfdppahhbpfnoaaGreatDoor
