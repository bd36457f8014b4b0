/- Texts as one: RdS, RdN, RdR. -/
import Derived.Test.YthjapabokcajhaaGreatDoorPj38
open Go.Proofs.Tryz
namespace Go.Proofs.YthjapabokcajhaaGreatDoor
open Go Go.RowKit
set_option maxRecDepth 100000
set_option maxHeartbeats 8000000
theorem y2e{w:Wd}(h:q3k w)(hn:z0k w=true):(∀b∈w,q1z b=true)/\w.length<=6:=by
 obtain⟨c,r,rfl,_,ho,hl,_⟩:=h;have hf:q1z c=true:=hn;have hlow:q2j c=false:=k3p hf;simp only[q6m,hlow,hf,if_true,Bool.false_eq_true,if_false,Bool.and_eq_true,decide_eq_true_eq]at ho;simp only[q1e,hlow,hf,if_true,Bool.false_eq_true,if_false,List.length_cons]at hl
 have hall:r.takeWhile q1z=r:=by
  have h1:=z5e (p:=q1z) r;rw[show(r.takeWhile q1z).length=r.length by omega,List.take_length]at h1;exact h1.symm
 refine⟨fun b hb=>?_,by simp only[List.length_cons];omega⟩;rcases List.mem_cons.1 hb with rfl|hb
 ·exact hf
 ·rw[<-hall]at hb
  have hta:∀(l:List UInt8)x,x∈l.takeWhile q1z->q1z x=true:=by
   intro l
   induction l with
   | nil=>intro x hx;cases hx
   | cons a l ih=>
    intro x hx;rw[List.takeWhile_cons]at hx;by_cases ha:q1z a=true
    ·rw[if_pos ha]at hx;rcases List.mem_cons.1 hx with rfl|hx
     ·exact ha
     ·exact ih x hx
    ·rw[if_neg ha]at hx;cases hx
  exact hta r b hb
theorem j0r{w:Wd}{S:ByteArray}(h:wbS w=S)(h0:w≠[]):0<S.size/\∀h1:0<S.size,q1z S[0]=z0k w:=by
 subst h;cases w with
 | nil=>exact absurd rfl h0
 | cons c r=>exact⟨by rw[<-q0c];show 0<(c::r).length;simp,fun _=>rfl⟩
theorem j0e{b:Nat}{A:Option Addr}{c:Nat}{ws:List Wd}{p:Nat}(hp:p<=ws.length)(he:ws.length<=p):v0t b A c ws p:=by
 intro w h;have HD:=(show Hid (_)from h);obtain⟨c0,c1,c2,hrow,_,_⟩:=h;have f2:w.frozen? (b,2)=false:=hrow.frozen;have hpi:(ws.length:Int)<=(p:Int):=by omega
 have HPE:Hid (p=ws.length):=(show p=ws.length by omega);clear hrow he;show Calls _ _ _ _ _;go_in;go_wp2_with fail
 go_quiet (fail)
 go_wp2;go_ret;have hn:ws.drop p=[]:=List.drop_eq_nil_of_le (by rw[HPE.o];exact Nat.le_refl _);refine⟨.bad [],[],none,0,rfl,by rw[hn];exact .sinN,q0x.nil _ _,by simp[Rs.rest],(fun _ _ _ e=>by cases e),?_,?_⟩
 ·have e1:ws.length-(Rs.bad []).rest.length=p:=by rw[HPE.o];rfl
  rw[e1];exact(HD.o.keep (q0f (Below.refl _ w) _)).setBad true
 ·exact(But.of (q0f (Below.refl _ w) _)).setCell (p:=(b,2)) (.inl rfl) _
theorem j7x{b:Nat}{A:Option Addr}{c:Nat}{ws:List Wd}{p:Nat}{w w1 w4 w5:World}{r:Rs}{ns:List Td}{v:Value}(hd:ws.drop p=[40]::ws.drop (p+1))(hlt:p<ws.length)(hbw:b<w.heap.size)(b1:But w b w w1)(hG:Got b A c ws (.level 0) (p+1) w1 r ns v w4)
  (hR:Rd w5 b A c ws (q1k ws (ws.length-r.rest.length) r.isBad [41]) (q0s ws (ws.length-r.rest.length) r.isBad [41])) (b5:But w4 b w4 w5):∃r',Got b A c ws .single p w r' ns v w5:=by
 have hsf:=q5e hG.pr;have h1:=z4u hsf.1;have hn:=hG.n;rw[q0j (by omega)]at hn;have hs1:=b1.size;have hs4:=hG.bt.size;have ho:=(hG.o.down hs1).but b5 hbw;have hbt:=(b1.trans (hG.bt.mono hs1)).trans (b5.mono (by omega));have hdl:(ws.drop p).length=ws.length-p:=q0j (by omega);cases r with
 | bad u=>
  simp only[Rs.rest,Rs.isBad,q1k,q0s,Bool.not_true,Bool.false_and,Bool.false_eq_true,if_false,Bool.not_false]at *;exact⟨.bad u,by rw[hd];exact .sPB hG.pr,ho,by rw[hdl];simp only[Rs.rest];omega,(fun _ _ _ e=>by cases e),hR,hbt⟩
 | ok m ms u=>
  have he:=hG.e m ms u rfl;subst he;simp only[Rs.rest,Rs.isBad]at *;have hh:ws[ws.length-u.length]?=u.head?:=by rw[<-q4d,h1]
  unfold q1k q0s at hR;rw[hh]at hR;cases hc:(!false&&(u.head?==some ([41]:Wd)))with
  | true=>
   rw[hc]at hR;simp only[if_true,Bool.not_true]at hR
   obtain⟨u',rfl⟩:∃u',u=[41]::u':=by
    cases u with
    | nil=>simp at hc
    | cons a u'=>
     have:a=[41]:=by simpa using hc
     exact⟨u',by rw[this]⟩
   simp only[List.length_cons]at hn hR;have e1:ws.length-(u'.length+1)+1=ws.length-u'.length:=by omega
   rw[e1]at hR;exact⟨.ok 0 ms u',by rw[hd];exact .sPC hG.pr,ho,by rw[hdl];simp only[Rs.rest];omega,(fun _ _ _ e=>by cases e;rfl),hR,hbt⟩
  | false=>
   rw[hc]at hR;simp only[Bool.false_eq_true,if_false,Bool.not_false]at hR
   have hne:u.head?≠some [41]:=fun e=>by
    rw[e]at hc;exact absurd hc (by decide)
   exact⟨.bad u,by rw[hd];exact .sPX hG.pr hne,ho,by rw[hdl];simp only[Rs.rest];omega,(fun _ _ _ e=>by cases e),hR,hbt⟩
theorem k6m{b:Nat}{A:Option Addr}{c:Nat}{ws:List Wd}{p q:Nat}{e:Wd}{w w1 w4 w5:World}{r:Rs}{n:Nat}{ns:List Td}{v v5:Value}{x:Td}(hpq:p<q)(hq:q<=ws.length)(hbw:b<w.heap.size)(b1:But w b w w1)(hG:y6p b A c ws e q w1 r n ns v w4)
  (hB:∀u,PR (.args e 0 []) (ws.drop q) (.bad u)->PR .single (ws.drop p) (.bad u)) (hO:∀u,PR (.args e 0 []) (ws.drop q) (.ok n ns u)->PR .single (ws.drop p) (.ok 0 (x::ns) u))
  (b5:Below w w4 w5) (ho:q0x w v5 ([x]++ns) w5):∃r',Got b A c ws .single p w r' (x::ns) v5 w5:=by
 have hsf:=q5e hG.pr;have hn:=hG.nl;rw[q0j hq]at hn;have hs1:=b1.size;have hrd:=hG.rd.keepB b5 hbw;have hbt:But w b w w5:=(b1.trans (hG.bt.mono hs1)).trans (But.of b5);have hdl:(ws.drop p).length=ws.length-p:=q0j (by omega);cases r with
 | bad u=>
  simp only[Rs.rest,Rs.isBad]at *;exact⟨.bad u,hB u hG.pr,ho,by rw[hdl];simp only[Rs.rest,List.length_cons];omega,(fun _ _ _ e=>by cases e),hrd,hbt⟩
 | ok m ms u=>
  obtain⟨he,hm⟩:=hG.ev m ms u rfl;subst he hm;simp only[Rs.rest,Rs.isBad]at *;exact⟨.ok 0 (x::ms) u,hO u hG.pr,ho,by rw[hdl];simp only[Rs.rest,List.length_cons];omega,(fun _ _ _ e=>by cases e;rfl),hrd,hbt⟩
theorem j8k{b:Nat}{A:Option Addr}{c:Nat}{ws:List Wd}{p:Nat}(hl:ws.length<=60000)(hlt:p<ws.length)(hne:ws[p]≠[])(h1:ws[p]≠[40])(h2:ws[p]≠[91])(h3:z0k ws[p]=false)(h4:nmW ws[p]=false):v0t b A c ws p:=by
 intro w h;have HD:=(show Hid (_)from h);have hbw:b<w.heap.size:=h.row.lt;have f1:w.frozen? (b,1)=false:=h.row.frozen;have f2:w.frozen? (b,2)=false:=h.row.frozen;obtain⟨c0,c1,c2,_,hw,_⟩:=h;have hpi:¬(ws.length:Int)<=(p:Int):=by omega
 have hpi2:(p:Int)<(ws.length:Int):=by omega
 have HDR:Hid (ws.drop p=ws[p]::ws.drop (p+1)):=List.drop_eq_getElem_cons hlt;obtain⟨ba,oa,rfl,hba,d0⟩:=hw p (by rw[List.length_map];exact hlt);rw[List.getElem_map]at d0;have HNW:Hid (q0o (wbS ws[p])=nmW ws[p]):=(show q0o (wbS ws[p])=nmW ws[p]from rfl);have hq40:((wbS ws[p]).toList==[40])=(ws[p]==[40]):=by rw[Lib.toList_data];rfl
 have hq91:((wbS ws[p]).toList==[91])=(ws[p]==[91]):=by rw[Lib.toList_data];rfl
 generalize hX:wbS ws[p]=X at d0 HNW hq40 hq91;obtain⟨hx0,hx1⟩:=j0r hX hne;have HX:Hid (wbS ws[p]=X):=hX;have hx0i:(0:Int)<(X.size:Int):=by omega
 have HFI:Hid (∀W:World,Calls prog 73 #[.int .u8 (X[0].toNat:Int)] W fun e w'=>e=.returned (.bool (z0k ws[p]))/\W=w'):=fun W=>by
  have:=q2c X[0] W
  rw[hx1 hx0]at this;exact this
 have HNM:Hid (∀W:World,Calls prog 23 #[.string X] W fun e w'=>e=.returned (.bool (nmW ws[p]))/\W=w'):=fun W=>by
  have:=q1f X W
  rw[HNW.o]at this;exact this
 have HBN:Hid (∀q',Below w w (w.drewN q')):=fun q'=>q0f (Below.refl _ w) q'
 have k1:(ws[p]==[40])=false:=by simpa using h1
 have k2:(ws[p]==[91])=false:=by simpa using h2
 rw[k1]at hq40;rw[k2]at hq91;rw[h3]at HFI;rw[h4]at HNM
 have HPR:Hid (PR .single (ws.drop p) (.bad (ws.drop p))):=by
  show PR _ _ _;rw[HDR.o];exact .sBad h1 h2 h3 h4
 clear h1 h2 h3 h4 k1 k2;clear hX hx1 hne hw HNW;show Calls _ _ _ _ _;go_in;go_wp2_with fail
 go_quiet (fail)
 go_wp2_with fail
 go_quiet (fail)
 go_wp2_with fail;refine(HNM.o _).mono ?_;rintro e w1⟨rfl,rfl⟩;go_wp2_with fail;refine(HFI.o _).mono ?_;rintro e w1⟨rfl,rfl⟩;go_wp2;go_ret;have hdl:(ws.drop p).length=ws.length-p:=q0j (by omega);have e1:ws.length-(Rs.bad (ws.drop p)).rest.length=p:=by simp only[Rs.rest,hdl];omega
 refine⟨.bad (ws.drop p),[],none,0,rfl,HPR.o,q0x.nil _ _,by simp[Rs.rest],(fun _ _ _ e=>by cases e),?_,?_⟩
 ·rw[e1];exact(HD.o.keep (q0f (Below.refl _ w) _)).setBad true
 ·exact(But.of (q0f (Below.refl _ w) _)).setCell (p:=(b,2)) (.inl rfl) _
theorem j0h{b:Nat}{A:Option Addr}{c:Nat}{ws:List Wd}{p:Nat}(hl:ws.length<=60000)(hlt:p<ws.length)(hne:ws[p]≠[])(h1:ws[p]=[40])(hL:z9z b A c ws 0 (p+1)):v0t b A c ws p:=by
 intro w h;have HD:=(show Hid (_)from h);have hbw:b<w.heap.size:=h.row.lt;have f1:w.frozen? (b,1)=false:=h.row.frozen;have f2:w.frozen? (b,2)=false:=h.row.frozen;obtain⟨c0,c1,c2,_,hw,_⟩:=h;have hpi:¬(ws.length:Int)<=(p:Int):=by omega
 have hpi2:(p:Int)<(ws.length:Int):=by omega
 have HDR:Hid (ws.drop p=ws[p]::ws.drop (p+1)):=List.drop_eq_getElem_cons hlt;obtain⟨ba,oa,rfl,hba,d0⟩:=hw p (by rw[List.length_map];exact hlt);rw[List.getElem_map]at d0;have HNW:Hid (q0o (wbS ws[p])=nmW ws[p]):=(show q0o (wbS ws[p])=nmW ws[p]from rfl);have hq40:((wbS ws[p]).toList==[40])=(ws[p]==[40]):=by rw[Lib.toList_data];rfl
 have hq91:((wbS ws[p]).toList==[91])=(ws[p]==[91]):=by rw[Lib.toList_data];rfl
 generalize hX:wbS ws[p]=X at d0 HNW hq40 hq91;obtain⟨hx0,hx1⟩:=j0r hX hne;have HX:Hid (wbS ws[p]=X):=hX;have hx0i:(0:Int)<(X.size:Int):=by omega
 have HFI:Hid (∀W:World,Calls prog 73 #[.int .u8 (X[0].toNat:Int)] W fun e w'=>e=.returned (.bool (z0k ws[p]))/\W=w'):=fun W=>by
  have:=q2c X[0] W
  rw[hx1 hx0]at this;exact this
 have HNM:Hid (∀W:World,Calls prog 23 #[.string X] W fun e w'=>e=.returned (.bool (nmW ws[p]))/\W=w'):=fun W=>by
  have:=q1f X W
  rw[HNW.o]at this;exact this
 have HBN:Hid (∀q',Below w w (w.drewN q')):=fun q'=>q0f (Below.refl _ w) q'
 have k1:(ws[p]==[40])=true:=by rw[h1];rfl
 rw[k1]at hq40;have h3:z0k ws[p]=false:=by rw[h1];rfl
 have h4:nmW ws[p]=false:=by rw[h1];exact k4a
 rw[h3]at HFI;rw[h4]at HNM;rw[h1]at HDR;have HL:=(show Hid (z9z b (some ↑(ba,oa)) c ws 0 (p+1))from hL)
 have HR1:Hid (∀q',Rd ((w.drewN q').setCell ↑(b,1) ↑((p:Int)+1)) b (some ↑(ba,oa)) c ws (p+1) false):=fun q'=>by
  have h2:=(HD.o.keep (q0f (Below.refl _ w) q')).setAt (p+1);rw[show((p+1:Nat):Int)=(p:Int)+1 by omega]at h2;exact h2
 have HB1:Hid (∀q',But w b w ((w.drewN q').setCell ↑(b,1) ↑((p:Int)+1))):=fun q'=>(But.of (q0f (Below.refl _ w) q')).setCell (p:=↑(b,1)) (.inl rfl) _
 clear h1 h3 h4 k1 hL;clear hX hx1 hne hw HNW;show Calls _ _ _ _ _;go_in;go_wp2_with fail
 go_quiet (fail)
 go_wp2_with fail
 go_quiet (fail)
 go_wp2_with fail;refine(HNM.o _).mono ?_;rintro e w1⟨rfl,rfl⟩;go_wp2_with fail;refine(HFI.o _).mono ?_;rintro e w1⟨rfl,rfl⟩;go_wp2_with fail;refine(HL.o _ (HR1.o _)).mono ?_;rintro e w4⟨r4,ns4,A4,c4,rfl,hG4⟩;have HG4:=(show Hid (_)from hG4);have hb4:b<w4.heap.size:=hG4.rd.row.lt;have HWN:Hid (Calls prog 35 #[.pointer b,.string ⟨#[41]⟩] w4 fun e w'=>(∃v,e=.returned v)/\Rd w' b (some ↑(ba,oa)) c ws (q1k ws (ws.length-r4.rest.length) r4.isBad [41]) (q0s ws (ws.length-r4.rest.length) r4.isBad [41])/\But w4 b w4 w'):=q6f hG4.rd hl (by omega) [41];generalize hnl:ns4.length=n4;have HNL:Hid (ns4.length=n4):=hnl;clear hG4 hnl;go_wp2_with fail;refine HWN.o.mono ?_;rintro e w5⟨⟨vv,rfl⟩,hR5,hb5⟩;obtain⟨r',hG⟩:=j7x HDR.o hlt hbw (HB1.o _) HG4.o hR5 hb5;have HG:=(show Hid (_)from hG);clear hR5 hb5 hG HG4;go_wp2;go_ret;exact⟨r',ns4,A4,c4,by rw[HNL.o];rfl,HG.o⟩
theorem j0f{b:Nat}{A:Option Addr}{c:Nat}{ws:List Wd}{p:Nat}(hl:ws.length<=60000)(hlt:p<ws.length)(hne:ws[p]≠[])(h1:ws[p]=[91])(hL:y6r b A c ws [93] (p+1)):v0t b A c ws p:=by
 intro w h;have HD:=(show Hid (_)from h);have hbw:b<w.heap.size:=h.row.lt;have f1:w.frozen? (b,1)=false:=h.row.frozen;have f2:w.frozen? ↑(b,2)=false:=h.row.frozen;obtain⟨c0,c1,c2,_,hw,_⟩:=h;have hpi:¬(ws.length:Int)<=(p:Int):=by omega
 have hpi2:(p:Int)<(ws.length:Int):=by omega
 have HDR:Hid (ws.drop p=ws[p]::ws.drop (p+1)):=List.drop_eq_getElem_cons hlt;obtain⟨ba,oa,rfl,hba,d0⟩:=hw p (by rw[List.length_map];exact hlt);rw[List.getElem_map]at d0;have HNW:Hid (q0o (wbS ws[p])=nmW ws[p]):=(show q0o (wbS ws[p])=nmW ws[p]from rfl);have hq40:((wbS ws[p]).toList==[40])=(ws[p]==[40]):=by rw[Lib.toList_data];rfl
 have hq91:((wbS ws[p]).toList==[91])=(ws[p]==[91]):=by rw[Lib.toList_data];rfl
 generalize hX:wbS ws[p]=X at d0 HNW hq40 hq91;obtain⟨hx0,hx1⟩:=j0r hX hne;have HX:Hid (wbS ws[p]=X):=hX;have hx0i:(0:Int)<(X.size:Int):=by omega
 have HFI:Hid (∀W:World,Calls prog 73 #[.int .u8 (X[0].toNat:Int)] W fun e w'=>e=.returned (.bool (z0k ws[p]))/\W=w'):=fun W=>by
  have:=q2c X[0] W
  rw[hx1 hx0]at this;exact this
 have HNM:Hid (∀W:World,Calls prog 23 #[.string X] W fun e w'=>e=.returned (.bool (nmW ws[p]))/\W=w'):=fun W=>by
  have:=q1f X W
  rw[HNW.o]at this;exact this
 have HBN:Hid (∀q',Below w w (w.drewN q')):=fun q'=>q0f (Below.refl _ w) q'
 have k1:(ws[p]==[40])=false:=by rw[h1];rfl
 have k2:(ws[p]==[91])=true:=by rw[h1];rfl
 rw[k1]at hq40;rw[k2]at hq91;have h3:z0k ws[p]=false:=by rw[h1];rfl
 have h4:nmW ws[p]=false:=by rw[h1];exact k4b
 rw[h3]at HFI;rw[h4]at HNM;rw[h1]at HDR
 have HR1:Hid (∀q',Rd ((w.drewN q').setCell ↑(b,1) ↑((p:Int)+1)) b (some ↑(ba,oa)) c ws (p+1) false):=fun q'=>by
  have h2:=(HD.o.keep (q0f (Below.refl _ w) q')).setAt (p+1);rw[show((p+1:Nat):Int)=(p:Int)+1 by omega]at h2;exact h2
 have HB1:Hid (∀q',But w b w ((w.drewN q').setCell ↑(b,1) ↑((p:Int)+1))):=fun q'=>(But.of (q0f (Below.refl _ w) q')).setCell (p:=↑(b,1)) (.inl rfl) _
 have HL:Hid (∀q',Calls prog 116 #[.pointer ↑b,.string ⟨#[93]⟩] ((w.drewN q').setCell ↑(b,1) ↑((p:Int)+1)) fun ev w'=>∃w1 r n ns A' c',ev=.returned (.tuple #[↑((n:Nat):Int),.slice A' ns.length c'])/\But w b w w1/\y6p b (some ↑(ba,oa)) c ws [93] (p+1) w1 r n ns (.slice A' ns.length c') w'):=fun q'=>by
  refine(hL _ (HR1.o q')).mono ?_;rintro e w'⟨r,n,ns,A',c',h1,h2⟩;exact⟨_,r,n,ns,A',c',h1,HB1.o q',h2⟩
 clear h1 h3 h4 k1 k2 hL HR1 HB1;clear hX hx1 hne hw HNW;show Calls _ _ _ _ _;go_in;go_wp2_with fail
 go_quiet (fail)
 go_wp2_with fail
 go_quiet (fail)
 go_wp2_with fail;refine(HNM.o _).mono ?_;rintro e w1⟨rfl,rfl⟩;go_wp2_with fail;refine(HFI.o _).mono ?_;rintro e w1⟨rfl,rfl⟩;go_wp2_with fail;refine(HL.o _).mono ?_;rintro e w4⟨w1,r4,n,ns4,A4,c4,rfl,hB1,hG4⟩;have HG4:=(show Hid (_)from hG4);have hn4:=hG4.nl;rw[q0j (by omega)]at hn4;have hn6:=hG4.le;have hs1:=hB1.size;have hs4:=hG4.bt.size;have HT4:Hid (Tds w4 A4 ns4):=hG4.o.tds;generalize hnl:ns4.length=n4 at hn4;have HNL:Hid (ns4.length=n4):=hnl
 have HN4:Hid (A4=none->n4=0/\c4=0):=by
  have h3:=hG4.o.none;rw[hnl]at h3;exact h3.2
 have hws4:w.heap.size<=w4.heap.size:=by omega
 have HX1:Hid (q0x w (.slice w4.heap.size 1 1) [lsT n] (w4.alloc (.cells #[.int .i64 4,.string ⟨#[]⟩,(n:Int)] 47))):=(q0x.one w4 (lsT n)).down hws4;have HBB:=(show Hid (_)from hB1);clear hG4 hnl hs1 hs4;go_wp2_with(at_builtin;refine q2y rfl _ _ rfl w.heap.size _ [lsT n] rfl HX1.o A4 n4 ns4 HNL.o c4 rfl (HT4.o.alloc _) HN4.o (1+n4) rfl (by omega) (by rw[World.size_alloc];omega) ?_);intro A5 c5 w5 hown5 hgrow5;have hb5:Below w w4 w5:=(Zb.alloc hws4 _).grown hgrow5 (by rw[World.size_alloc];omega) (fun k' hk=>(World.ownsRow.lt HX1.o k' hk).1);obtain⟨r',hG⟩:=k6m (ws:=ws) (p:=p) (q:=p+1) (x:=lsT n) (by omega) (by omega) hbw HBB.o HG4.o (fun u hu=>by rw[HDR.o];exact .sLB hu) (fun u hu=>by rw[HDR.o];exact .sLO hu) hb5 hown5;have HG:=(show Hid (_)from hG)
 have HE5:Hid ((lsT n::ns4).length=1+n4):=by
  show _=_;rw[List.length_cons,HNL.o];omega
 clear hown5 hgrow5 hb5 hG;go_wp2;go_ret;exact⟨r',lsT n::ns4,A5,c5,by rw[HE5.o];rfl,by rw[HE5.o];exact HG.o⟩
theorem j7i{w:Wd}{S:ByteArray}(h:wbS w=S)(hf:∀b∈w,q1z b=true)(hl:w.length<=6):∃N:Nat->Nat,N 0=0/\N S.size=z9b w/\∀k(h:k<S.size),N (k+1)=N k*10+(S[k].toNat-48)/\48<=S[k].toNat/\S[k].toNat<=57/\N k<=1000000:=by
 subst h;have hsz:(wbS w).size=w.length:=rfl
 have hstep:∀k(h:k<w.length),z9b (w.take (k+1))=z9b (w.take k)*10+(w[k].toNat-48):=by
  intro k h;rw[List.take_succ_eq_append_getElem h];unfold z9b;rw[List.foldl_append];rfl
 have hfig:∀k(h:k<w.length),48<=w[k].toNat/\w[k].toNat<=57:=by
  intro k h;have h1:=hf w[k] (List.getElem_mem h);unfold q1z at h1;simpa using h1
 have hb:∀k,k<=w.length->z9b (w.take k)+1<=10 ^ k:=by
  intro k
  induction k with
  | zero=>intro _;simp[z9b]
  | succ k ih=>
   intro hk;have h1:=ih (by omega);have h2:=hfig k (by omega);rw[hstep k (by omega),Nat.pow_succ];omega
 refine⟨fun k=>z9b (w.take k),by simp[z9b],by show z9b (w.take w.length)=_;rw[List.take_length],fun k hk=>?_⟩;have hk':=hk;have h3:=hb k (by omega);have h4:10 ^ k<=10 ^ 6:=Nat.pow_le_pow_right (by omega) (by omega);exact⟨hstep k hk',(hfig k hk').1,(hfig k hk').2,by show z9b (w.take k)<=1000000;omega⟩
theorem j5x{w:Wd}(h:nmW w=true):w≠[40]/\w≠[91]/\z0k w=false:=by
 refine⟨fun e=>?_,fun e=>?_,?_⟩
 ·rw[e,k4a]at h;cases h
 ·rw[e,k4b]at h;cases h
 ·cases hn:z0k w with
  | false=>rfl
  | true=>rw[q3d hn]at h;cases h
theorem y4u{w:Wd}(h:z0k w=true):w≠[40]/\w≠[91]/\nmW w=false:=by
 refine⟨fun e=>?_,fun e=>?_,q3d h⟩
 ·rw[e,v7n]at h;cases h
 ·rw[e,v7o]at h;cases h
theorem j7p{b:Nat}{A:Option Addr}{c:Nat}{ws:List Wd}{p:Nat}{w w1:World}{x:Td}(hlt:p<ws.length)(hbw:b<w.heap.size)(hR:Rd w1 b A c ws (p+1) false)(hB:But w b w w1)(hp:PR .single (ws.drop p) (.ok 0 [x] (ws.drop (p+1)))):
  Got b A c ws .single p w (.ok 0 [x] (ws.drop (p+1))) [x] (.slice w1.heap.size 1 1) (w1.alloc (.cells #[x.op,.string x.tx,x.n] 47)):=by
 have hs:=hB.size;have hdl:(ws.drop p).length=ws.length-p:=q0j (by omega);have hdl1:(ws.drop (p+1)).length=ws.length-(p+1):=q0j (by omega);have e1:ws.length-(Rs.ok 0 [x] (ws.drop (p+1))).rest.length=p+1:=by simp only[Rs.rest,hdl1];omega
 refine⟨hp,(q0x.one w1 x).down hs,by rw[hdl];simp only[Rs.rest,hdl1,List.length_cons,List.length_nil];omega,(fun _ _ _ e=>by cases e;rfl),?_,?_⟩
 ·rw[e1];exact hR.keepB (Zb.alloc hs _) hbw
 ·exact hB.alloc hs _
theorem j0g{b:Nat}{A:Option Addr}{c:Nat}{ws:List Wd}{p:Nat}(hl:ws.length<=60000)(hlt:p<ws.length)(hne:ws[p]≠[])(hn:z0k ws[p]=true)(ht:q3k ws[p]):v0t b A c ws p:=by
 intro w h;have HD:=(show Hid (_)from h);have hbw:b<w.heap.size:=h.row.lt;have f1:w.frozen? (b,1)=false:=h.row.frozen;have f2:w.frozen? ↑(b,2)=false:=h.row.frozen;obtain⟨c0,c1,c2,_,hw,_⟩:=h;have hpi:¬(ws.length:Int)<=(p:Int):=by omega
 have hpi2:(p:Int)<(ws.length:Int):=by omega
 have HDR:Hid (ws.drop p=ws[p]::ws.drop (p+1)):=List.drop_eq_getElem_cons hlt;obtain⟨ba,oa,rfl,hba,d0⟩:=hw p (by rw[List.length_map];exact hlt);rw[List.getElem_map]at d0;have HNW:Hid (q0o (wbS ws[p])=nmW ws[p]):=(show q0o (wbS ws[p])=nmW ws[p]from rfl);have hq40:((wbS ws[p]).toList==[40])=(ws[p]==[40]):=by rw[Lib.toList_data];rfl
 have hq91:((wbS ws[p]).toList==[91])=(ws[p]==[91]):=by rw[Lib.toList_data];rfl
 generalize hX:wbS ws[p]=X at d0 HNW hq40 hq91;obtain⟨hx0,hx1⟩:=j0r hX hne;have HX:Hid (wbS ws[p]=X):=hX;have hx0i:(0:Int)<(X.size:Int):=by omega
 have HFI:Hid (∀W:World,Calls prog 73 #[.int .u8 (X[0].toNat:Int)] W fun e w'=>e=.returned (.bool (z0k ws[p]))/\W=w'):=fun W=>by
  have:=q2c X[0] W
  rw[hx1 hx0]at this;exact this
 have HNM:Hid (∀W:World,Calls prog 23 #[.string X] W fun e w'=>e=.returned (.bool (nmW ws[p]))/\W=w'):=fun W=>by
  have:=q1f X W
  rw[HNW.o]at this;exact this
 have HBN:Hid (∀q',Below w w (w.drewN q')):=fun q'=>q0f (Below.refl _ w) q'
 obtain⟨h1,h2,h4⟩:=y4u hn;have k1:(ws[p]==[40])=false:=by simpa using h1
 have k2:(ws[p]==[91])=false:=by simpa using h2
 rw[k1]at hq40;rw[k2]at hq91;rw[hn]at HFI;rw[h4]at HNM;have hfg:=y2e ht hn;obtain⟨N,hN0,hNv,hNS⟩:=j7i hX hfg.1 hfg.2;have HNV:Hid (N X.size=z9b ws[p]):=hNv;have HNS:Hid (∀k(h:k<X.size),N (k+1)=N k*10+(X[k].toNat-48)/\48<=X[k].toNat/\X[k].toNat<=57/\N k<=1000000):=hNS
 have HPR:Hid (PR .single (ws.drop p) (.ok 0 [y4j ws[p]] (ws.drop (p+1)))):=by
  show PR _ _ _;rw[HDR.o];exact .sNum hn
 have hX6:X.size<=6:=by rw[<-hX];exact hfg.2
 have HR1:Hid (∀q',Rd ((w.drewN q').setCell ↑(b,1) ↑((p:Int)+1)) b (some ↑(ba,oa)) c ws (p+1) false):=fun q'=>by
  have h2:=(HD.o.keep (q0f (Below.refl _ w) q')).setAt (p+1);rw[show((p+1:Nat):Int)=(p:Int)+1 by omega]at h2;exact h2
 have HB1:Hid (∀q',But w b w ((w.drewN q').setCell ↑(b,1) ↑((p:Int)+1))):=fun q'=>(But.of (q0f (Below.refl _ w) q')).setCell (p:=↑(b,1)) (.inl rfl) _
 clear h1 h2 h4 k1 k2 hn ht hfg hNv hNS;clear hX hx1 hne hw HNW;show Calls _ _ _ _ _;go_in;go_wp2_with fail
 go_quiet (fail)
 go_wp2_with fail
 go_quiet (fail)
 go_wp2_with fail;refine(HNM.o _).mono ?_;rintro e w1⟨rfl,rfl⟩;go_wp2_with fail;refine(HFI.o _).mono ?_;rintro e w1⟨rfl,rfl⟩;go_wp2_with fail
 go_loopw [10,11] (fun n i wr=>∃k:Nat,k<=X.size/\i=↑(k:Int)/\n=↑(N k:Int)/\∃q',wr=(w.drewN q').setCell ↑(b,1) ↑((p:Int)+1)) (fun _ i _=>X.size-(intOf i).toNat)
 case atStart=>exact⟨0,Nat.zero_le _,rfl,by rw[hN0];rfl,_,rfl⟩
 case round=>
  obtain⟨k,hk,rfl,rfl,q',rfl⟩:=hrel;by_cases hkx:k<X.size
  ·have hki:(k:Int)<(X.size:Int):=by omega
   obtain⟨e1,e2,e3,e4⟩:=HNS.o k hkx;have HE1:Hid (N (k+1)=N k*10+(X[k].toNat-48)):=e1;generalize hxk:X[k].toNat=xk at e2 e3 HE1;clear e1;go_wp2
   go_roundw
   case rel=>
    refine⟨k+1,by omega,by go_num,?_,q',rfl⟩;rw[HE1.o]
    congr 1
    omega
   case measure=>simp[intOf];omega
  ·have hki:¬(k:Int)<(X.size:Int):=by omega
   have hke:k=X.size:=by omega
   subst hke;rw[HNV.o];have hG:=j7p hlt hbw (HR1.o q') (HB1.o q') HPR.o;rw[World.size_setCell]at hG;have HG:=(show Hid (_)from hG);clear hG;go_wp2;go_ret;exact⟨_,[y4j ws[p]],_,_,rfl,HG.o⟩
theorem k4w{b:Nat}{A:Option Addr}{c:Nat}{ws:List Wd}{p:Nat}(hl:ws.length<=60000)(hlt:p<ws.length)(hne:ws[p]≠[])(hn:nmW ws[p]=true)(h5:(ws[p+1]?==some [40])=false):v0t b A c ws p:=by
 intro w h;have HD:=(show Hid (_)from h);have hbw:b<w.heap.size:=h.row.lt;have f1:w.frozen? ↑(b,1)=false:=h.row.frozen;have f2:w.frozen? ↑(b,2)=false:=h.row.frozen;obtain⟨c0,c1,c2,_,hw,_⟩:=h;have hpi:¬(ws.length:Int)<=(p:Int):=by omega
 have hpi2:(p:Int)<(ws.length:Int):=by omega
 have HDR:Hid (ws.drop p=ws[p]::ws.drop (p+1)):=List.drop_eq_getElem_cons hlt;obtain⟨ba,oa,rfl,hba,d0⟩:=hw p (by rw[List.length_map];exact hlt);rw[List.getElem_map]at d0;have HNW:Hid (q0o (wbS ws[p])=nmW ws[p]):=(show q0o (wbS ws[p])=nmW ws[p]from rfl);have hq40:((wbS ws[p]).toList==[40])=(ws[p]==[40]):=by rw[Lib.toList_data];rfl
 have hq91:((wbS ws[p]).toList==[91])=(ws[p]==[91]):=by rw[Lib.toList_data];rfl
 generalize hX:wbS ws[p]=X at d0 HNW hq40 hq91;obtain⟨hx0,hx1⟩:=j0r hX hne;have HX:Hid (wbS ws[p]=X):=hX;have hx0i:(0:Int)<(X.size:Int):=by omega
 have HFI:Hid (∀W:World,Calls prog 73 #[.int .u8 (X[0].toNat:Int)] W fun e w'=>e=.returned (.bool (z0k ws[p]))/\W=w'):=fun W=>by
  have:=q2c X[0] W
  rw[hx1 hx0]at this;exact this
 have HNM:Hid (∀W:World,Calls prog 23 #[.string X] W fun e w'=>e=.returned (.bool (nmW ws[p]))/\W=w'):=fun W=>by
  have:=q1f X W
  rw[HNW.o]at this;exact this
 have HBN:Hid (∀q',Below w w (w.drewN q')):=fun q'=>q0f (Below.refl _ w) q'
 obtain⟨h1,h2,h3⟩:=j5x hn;have k1:(ws[p]==[40])=false:=by simpa using h1
 have k2:(ws[p]==[91])=false:=by simpa using h2
 rw[k1]at hq40;rw[k2]at hq91;rw[h3]at HFI;rw[hn]at HNM
 have HPR:Hid (PR .single (ws.drop p) (.ok 0 [nmT ws[p]] (ws.drop (p+1)))):=by
  show PR _ _ _;rw[HDR.o];refine .sName hn ?_;rw[q4d];intro e;rw[e]at h5;exact absurd h5 (by decide)
 have HR1:Hid (∀q',Rd ((w.drewN q').setCell ↑(b,1) ↑((p:Int)+1)) b (some ↑(ba,oa)) c ws (p+1) false):=fun q'=>by
  have h2:=(HD.o.keep (q0f (Below.refl _ w) q')).setAt (p+1);rw[show((p+1:Nat):Int)=(p:Int)+1 by omega]at h2;exact h2
 have HB1:Hid (∀q',But w b w ((w.drewN q').setCell ↑(b,1) ↑((p:Int)+1))):=fun q'=>(But.of (q0f (Below.refl _ w) q')).setCell (p:=↑(b,1)) (.inl rfl) _
 have HIS:Hid (∀q',Calls prog 34 #[.pointer ↑b,.string ⟨#[40]⟩] ((w.drewN q').setCell ↑(b,1) ↑((p:Int)+1)) fun e w'=>e=.returned (.bool false)/\Rd w' b (some ↑(ba,oa)) c ws (p+1) false/\But w b w w'):=fun q'=>by
  have h9:=q9p (HR1.o q') [40];rw[show(!false&&(ws[p+1]?==some [40]))=false from h5]at h9;refine h9.mono ?_;rintro e w'⟨rfl,q2,rfl⟩;exact⟨rfl,(HR1.o q').keep (q0f Zb q2),(HB1.o q').trans (But.of (q0f Zb q2))⟩
 clear h1 h2 h3 k1 k2 hn h5 HR1 HB1;clear hX hx1 hne hw HNW;show Calls _ _ _ _ _;go_in;go_wp2_with fail
 go_quiet (fail)
 go_wp2_with fail
 go_quiet (fail)
 go_wp2_with fail;refine(HNM.o _).mono ?_;rintro e w1⟨rfl,rfl⟩;go_wp2_with fail;refine(HFI.o _).mono ?_;rintro e w1⟨rfl,rfl⟩;go_wp2_with fail;refine(HIS.o _).mono ?_;rintro e w2⟨rfl,hR2,hB2⟩;have hG:=j7p hlt hbw hR2 hB2 HPR.o;have HG:=(show Hid (_)from hG);clear hG hR2 hB2;go_wp2;go_ret;refine⟨.ok 0 [nmT ws[p]] (ws.drop (p+1)),[nmT ws[p]],some ↑w2.heap.size,1,rfl,?_⟩;have h9:=HG.o;unfold nmT at h9⊢;simp only[HX.o]at h9⊢;exact h9
theorem k4v{b:Nat}{A:Option Addr}{c:Nat}{ws:List Wd}{p:Nat}(hl:ws.length<=60000)(hlt:p<ws.length)(hne:ws[p]≠[])(hn:nmW ws[p]=true)(h5:(ws[p+1]?==some [40])=true)(hL:y6r b A c ws [41] (p+2)):v0t b A c ws p:=by
 intro w h;have HD:=(show Hid (_)from h);have hbw:b<w.heap.size:=h.row.lt;have f1:w.frozen? ↑(b,1)=false:=h.row.frozen;have f2:w.frozen? ↑(b,2)=false:=h.row.frozen;obtain⟨c0,c1,c2,_,hw,_⟩:=h;have hpi:¬(ws.length:Int)<=(p:Int):=by omega
 have hpi2:(p:Int)<(ws.length:Int):=by omega
 have HDR:Hid (ws.drop p=ws[p]::ws.drop (p+1)):=List.drop_eq_getElem_cons hlt;obtain⟨ba,oa,rfl,hba,d0⟩:=hw p (by rw[List.length_map];exact hlt);rw[List.getElem_map]at d0;have HNW:Hid (q0o (wbS ws[p])=nmW ws[p]):=(show q0o (wbS ws[p])=nmW ws[p]from rfl);have hq40:((wbS ws[p]).toList==[40])=(ws[p]==[40]):=by rw[Lib.toList_data];rfl
 have hq91:((wbS ws[p]).toList==[91])=(ws[p]==[91]):=by rw[Lib.toList_data];rfl
 generalize hX:wbS ws[p]=X at d0 HNW hq40 hq91;obtain⟨hx0,hx1⟩:=j0r hX hne;have HX:Hid (wbS ws[p]=X):=hX;have hx0i:(0:Int)<(X.size:Int):=by omega
 have HFI:Hid (∀W:World,Calls prog 73 #[.int .u8 (X[0].toNat:Int)] W fun e w'=>e=.returned (.bool (z0k ws[p]))/\W=w'):=fun W=>by
  have:=q2c X[0] W
  rw[hx1 hx0]at this;exact this
 have HNM:Hid (∀W:World,Calls prog 23 #[.string X] W fun e w'=>e=.returned (.bool (nmW ws[p]))/\W=w'):=fun W=>by
  have:=q1f X W
  rw[HNW.o]at this;exact this
 have HBN:Hid (∀q',Below w w (w.drewN q')):=fun q'=>q0f (Below.refl _ w) q'
 obtain⟨h1,h2,h3⟩:=j5x hn;have k1:(ws[p]==[40])=false:=by simpa using h1
 have k2:(ws[p]==[91])=false:=by simpa using h2
 rw[k1]at hq40;rw[k2]at hq91;rw[h3]at HFI;rw[hn]at HNM;have h6:ws[p+1]?=some [40]:=by simpa using h5
 obtain⟨hp1,h7⟩:=List.getElem?_eq_some_iff.1 h6
 have HDR2:Hid (ws.drop p=ws[p]::[40]::ws.drop (p+2)):=by
  show _=_;rw[HDR.o,List.drop_eq_getElem_cons hp1,h7]
 have HNMW:Hid (nmW ws[p]=true):=hn
 have HR1:Hid (∀q',Rd ((w.drewN q').setCell ↑(b,1) ↑((p:Int)+1)) b (some ↑(ba,oa)) c ws (p+1) false):=fun q'=>by
  have h2:=(HD.o.keep (q0f (Below.refl _ w) q')).setAt (p+1);rw[show((p+1:Nat):Int)=(p:Int)+1 by omega]at h2;exact h2
 have HB1:Hid (∀q',But w b w ((w.drewN q').setCell ↑(b,1) ↑((p:Int)+1))):=fun q'=>(But.of (q0f (Below.refl _ w) q')).setCell (p:=↑(b,1)) (.inl rfl) _
 have HIS:Hid (∀q',Calls prog 34 #[.pointer ↑b,.string ⟨#[40]⟩] ((w.drewN q').setCell ↑(b,1) ↑((p:Int)+1)) fun e w'=>e=.returned (.bool true)/\Rd w' b (some ↑(ba,oa)) c ws (p+1) false/\But w b w w'):=fun q'=>by
  have h9:=q9p (HR1.o q') [40];rw[show(!false&&(ws[p+1]?==some [40]))=true from h5]at h9;refine h9.mono ?_;rintro e w'⟨rfl,q2,rfl⟩;exact⟨rfl,(HR1.o q').keep (q0f Zb q2),(HB1.o q').trans (But.of (q0f Zb q2))⟩
 have HLL:=(show Hid (y6r b (some ↑(ba,oa)) c ws [41] (p+2))from hL);clear h1 h2 h3 k1 k2 hn h5 h6 h7 HR1 HB1 hL;clear hX hx1 hne hw HNW;show Calls _ _ _ _ _;go_in;go_wp2_with fail
 go_quiet (fail)
 go_wp2_with fail
 go_quiet (fail)
 go_wp2_with fail;refine(HNM.o _).mono ?_;rintro e w1⟨rfl,rfl⟩;go_wp2_with fail;refine(HFI.o _).mono ?_;rintro e w1⟨rfl,rfl⟩;go_wp2_with fail;refine(HIS.o _).mono ?_;rintro e w2⟨rfl,hR2,hB2⟩;have c12:=hR2.c1;have f12:w2.frozen? ↑(b,1)=false:=hR2.row.frozen
 have HL:Hid (Calls prog 116 #[.pointer ↑b,.string ⟨#[41]⟩] (w2.setCell ↑(b,1) ↑(((p+1:Nat):Int)+1)) fun ev w'=>∃w1 r n ns A' c',ev=.returned (.tuple #[↑((n:Nat):Int),.slice A' ns.length c'])/\But w b w w1/\y6p b (some ↑(ba,oa)) c ws [41] (p+2) w1 r n ns (.slice A' ns.length c') w'):=by
  have h8:=hR2.setAt (p+2);rw[show((p+2:Nat):Int)=((p+1:Nat):Int)+1 by omega]at h8;refine(HLL.o _ h8).mono ?_;rintro e w'⟨r,n,ns,A',c',h1,h2⟩;exact⟨_,r,n,ns,A',c',h1,hB2.setCell (p:=↑(b,1)) (.inl rfl) _,h2⟩
 clear hR2 hB2 HLL;go_wp2_with fail;refine HL.o.mono ?_;rintro e w4⟨w1,r4,n,ns4,A4,c4,rfl,hB1,hG4⟩;have HG4:=(show Hid (_)from hG4);have hn4:=hG4.nl;rw[q0j (by omega)]at hn4;have hn6:=hG4.le;have hs1:=hB1.size;have hs4:=hG4.bt.size;have HT4:Hid (Tds w4 A4 ns4):=hG4.o.tds;generalize hnl:ns4.length=n4 at hn4;have HNL:Hid (ns4.length=n4):=hnl
 have HN4:Hid (A4=none->n4=0/\c4=0):=by
  have h3:=hG4.o.none;rw[hnl]at h3;exact h3.2
 have hws4:w.heap.size<=w4.heap.size:=by omega
 have HX1:Hid (q0x w (.slice ↑w4.heap.size 1 1) [(⟨3,X,(n:Nat)⟩:Td)] (w4.alloc (.cells #[.int .i64 3,.string X,↑(n:Int)] 47))):=(q0x.one w4 ((⟨3,X,(n:Nat)⟩:Td))).down hws4;have HBB:=(show Hid (_)from hB1);clear hG4 hnl hs1 hs4;go_wp2_with(at_builtin;refine q2y rfl _ _ rfl w.heap.size _ [(⟨3,X,(n:Nat)⟩:Td)] rfl HX1.o A4 n4 ns4 HNL.o c4 rfl (HT4.o.alloc _) HN4.o (1+n4) rfl (by omega) (by rw[World.size_alloc];omega) ?_);intro A5 c5 w5 hown5 hgrow5;have hb5:Below w w4 w5:=(Zb.alloc hws4 _).grown hgrow5 (by rw[World.size_alloc];omega) (fun k' hk=>(World.ownsRow.lt HX1.o k' hk).1);obtain⟨r',hG⟩:=k6m (ws:=ws) (p:=p) (q:=p+2) (x:=(⟨3,X,(n:Nat)⟩:Td)) (by omega) (by omega) hbw HBB.o HG4.o (fun u hu=>by rw[HDR2.o];exact .sCB HNMW.o hu) (fun u hu=>by rw[HDR2.o,<-HX.o];exact .sCO HNMW.o hu) hb5 hown5;have HG:=(show Hid (_)from hG)
 have HE5:Hid (((⟨3,X,(n:Nat)⟩:Td)::ns4).length=1+n4):=by
  show _=_;rw[List.length_cons,HNL.o];omega
 clear hown5 hgrow5 hb5 hG;go_wp2;go_ret;exact⟨r',(⟨3,X,(n:Nat)⟩:Td)::ns4,A5,c5,by rw[HE5.o];rfl,by rw[HE5.o];exact HG.o⟩
theorem z7d{b:Nat}{A:Option Addr}{c:Nat}{ws:List Wd}{p:Nat}(hl:ws.length<=60000)(ht:∀x∈ws,q3k x)(hp:p<=ws.length)(hL:∀q,p<q->q<=ws.length->z9z b A c ws 0 q):v0t b A c ws p:=by
 by_cases hlt:p<ws.length
 ·have htk:=ht ws[p] (List.getElem_mem hlt)
  have hne:ws[p]≠[]:=by
   obtain⟨x,r,e,_⟩:=htk;rw[e];simp
  by_cases h1:ws[p]=[40]
  ·exact j0h hl hlt hne h1 (hL _ (by omega) (by omega))
  ·by_cases h2:ws[p]=[91]
   ·exact j0f hl hlt hne h2 (k1k (by decide) hl (by omega) fun q h3 h4=>hL q (by omega) h4)
   ·cases h3:z0k ws[p]with
    | true=>exact j0g hl hlt hne h3 htk
    | false=>
     cases h4:nmW ws[p]with
     | false=>exact j8k hl hlt hne h1 h2 h3 h4
     | true=>
      cases h5:(ws[p+1]?==some ([40]:Wd))with
      | false=>exact k4w hl hlt hne h4 h5
      | true=>
       have h6:ws[p+1]?=some [40]:=by simpa using h5
       obtain⟨hp1,_⟩:=List.getElem?_eq_some_iff.1 h6;exact k4v hl hlt hne h4 h5 (k1k (by decide) hl (by omega) fun q h3 h4=>hL q (by omega) h4)
 ·exact j0e hp (by omega)
theorem v4e{b:Nat}{A:Option Addr}{c:Nat}{ws:List Wd}(hl:ws.length<=60000)(ht:∀x∈ws,q3k x):∀n p,p<=ws.length->ws.length-p<=n->z9z b A c ws 2 p/\z9z b A c ws 1 p/\z9z b A c ws 0 p:=by
 intro n
 induction n with
 | zero=>
  intro p hp hn;have hpe:p=ws.length:=by omega
  subst hpe;have h2:z9z b A c ws 2 ws.length:=k1d (z7d hl ht hp fun q h1 h2=>by omega)
  have h1:z9z b A c ws 1 ws.length:=k1c hl hp fun q h3 h4=>by
   have:q=ws.length:=by omega
   subst this;exact h2
  refine⟨h2,h1,z6u hl hp fun q h3 h4=>?_⟩
  have:q=ws.length:=by omega
  subst this;exact h1
 | succ n ih=>
  intro p hp hn;have h2:z9z b A c ws 2 p:=k1d (z7d hl ht hp fun q h1 h2=>(ih q h2 (by omega)).2.2)
  have h1:z9z b A c ws 1 p:=k1c hl hp fun q h3 h4=>by
   by_cases e:q=p
   ·subst e;exact h2
   ·exact(ih q h4 (by omega)).1
  refine⟨h2,h1,z6u hl hp fun q h3 h4=>?_⟩;by_cases e:q=p
  ·subst e;exact h1
  ·exact(ih q h4 (by omega)).2.1
theorem k1b{b:Nat}{A:Option Addr}{c:Nat}{ws:List Wd}{p:Nat}(hl:ws.length<=60000)(ht:∀x∈ws,q3k x)(hp:p<=ws.length):z9z b A c ws 0 p:=(v4e hl ht _ p hp Zl).2.2
end Go.Proofs.YthjapabokcajhaaGreatDoor
