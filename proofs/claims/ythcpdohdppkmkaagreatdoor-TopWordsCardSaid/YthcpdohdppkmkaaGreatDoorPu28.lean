import Derived.Test.YthcpdohdppkmkaaGreatDoorPu06
import Derived.BigRegion
import Derived.Laws.Strings2
import Derived.Lib.AppendZerosOnto
import Derived.Lib.SliceRun
open Go.Proofs.Tryz
namespace Go.Proofs.YthcpdohdppkmkaaGreatDoor
open Go Go.RowKit
set_option maxRecDepth 100000
set_option maxHeartbeats 2000000
structure LwK where
 gw:Nat
 cw:Nat
 ga:Nat
 ca:Nat
structure Ry(K:LwK)(ws:List Wd)(pl:Nat->Nat)(b q:Nat)(w:World):Prop where
 le:q<=ws.length
 c0:w.cell? ⟨b,0,none⟩=some (.slice (some ⟨K.gw,q,none⟩) (ws.length+1-q) (K.cw-q))
 c1:w.cell? ⟨b,1,none⟩=some (.slice (some ⟨K.ga,q,none⟩) (ws.length+1-q) (K.ca-q))
 row:k5f w b 2
 wd:∀i,i<=ws.length->w.cell? ⟨K.gw,i,none⟩=some (.string (wbS (ws.getD i [])))
 pt:∀i,i<=ws.length->w.cell? ⟨K.ga,i,none⟩=some (.int .i64 (pl i:Int))
 nw:K.gw≠b
 na:K.ga≠b
 lw:ws.length<K.cw
 la:ws.length<K.ca
 few:ws.length<=60000
section
variable {K:LwK} {ws:List Wd} {pl:Nat→Nat} {b q:Nat} {w w':World}
theorem Ry.gwlt(h:Ry K ws pl b q w):K.gw<w.heap.size:=World.block_lt_of_cell? _ _ (h.wd 0 (Nat.zero_le _))
theorem Ry.galt(h:Ry K ws pl b q w):K.ga<w.heap.size:=World.block_lt_of_cell? _ _ (h.pt 0 (Nat.zero_le _))
theorem Ry.keepB{B:Nat}(h:Ry K ws pl b q w)(hb:Below B w w')(h1:b<B)(h2:K.gw<B)(h3:K.ga<B):Ry K ws pl b q w':=
 ⟨h.le,(hb.cell (p:=⟨b,0,none⟩) h1).trans h.c0,(hb.cell (p:=⟨b,1,none⟩) h1).trans h.c1,h.row.kept (hb.block b h1),fun i hi=>(hb.cell (p:=⟨K.gw,i,none⟩) h2).trans (h.wd i hi),fun i hi=>(hb.cell (p:=⟨K.ga,i,none⟩) h3).trans (h.pt i hi),h.nw,h.na,h.lw,h.la,h.few⟩
theorem Ry.keep(h:Ry K ws pl b q w)(hb:Below w w w'):Ry K ws pl b q w':=h.keepB hb h.row.lt h.gwlt h.galt
theorem Ry.step(h:Ry K ws pl b q w)(hq:q<ws.length){w':World}(hw':w'=(w.setCell ⟨b,0,none⟩ (.slice (some ⟨K.gw,q+1,none⟩) (ws.length-q) (K.cw-q-1))).setCell ⟨b,1,none⟩ (.slice (some ⟨K.ga,q+1,none⟩) (ws.length-q) (K.ca-q-1))):Ry K ws pl b (q+1) w':=by
 subst hw';have e1:ws.length+1-(q+1)=ws.length-q:=by omega
 refine⟨hq,?_,?_,h.row.set.set,fun i hi=>?_,fun i hi=>?_,h.nw,h.na,h.lw,h.la,h.few⟩
 ·rw[e1,Nat.sub_add_eq];exact(cso (.inr (by omega))).trans (css h.c0)
 ·rw[e1,Nat.sub_add_eq];exact css ((cso (.inr (by omega))).trans h.c1)
 ·exact(cso (.inl h.nw.symm)).trans ((cso (.inl h.nw.symm)).trans (h.wd i hi))
 ·exact(cso (.inl h.na.symm)).trans ((cso (.inl h.na.symm)).trans (h.pt i hi))
end
theorem q3u{ws:List Wd}{q:Nat}(h:q<ws.length):ws.getD q []=ws[q]:=by simp[h]
theorem q6q{ws:List Wd}{q:Nat}(h:ws.length<=q):ws.getD q []=[]:=by simp[h]
theorem q6k{K:LwK}{ws:List Wd}{pl:Nat->Nat}{b q:Nat}{w:World}(h:Ry K ws pl b q w):
  Calls prog 93 #[.pointer (some ⟨b,0,none⟩)] w fun e w'=>e=.returned (.string (wbS (ws.getD q [])))/\w'=w:=by
 have c0:=h.c0;have d0:=h.wd q h.le;generalize wbS (ws.getD q [])=S at d0⊢;have hn:0<ws.length+1-q:=by have:=h.le;omega
 generalize ws.length+1-q=n at c0 hn;generalize K.cw-q=c at c0;clear h;go_in;go_wp2;go_ret;exact⟨rfl,rfl⟩
theorem v9r(b o n c:Nat)(hn:1<=n)(hc:1<c)(W:World):
  (Instr.slice 42 (.slice (some ⟨b,o,none⟩) n c) (some (.int .i64 1)) none none).run prog W=.ok (.slice (some ⟨b,o+1,none⟩) (n-1) (c-1)) W:=by
 rw[run_slice_l W 42 _ n c Tryz.underlying42 .i64 1 (by omega) (by omega)];have hz:(sizeOf (prog.elem 42)).run prog W=.ok 1 W:=by kernel_rfl
 rw[hz];have ha:(⟨b,o,none⟩:Addr).add 1=⟨b,o+1,none⟩:=rfl;have e2:¬c=1:=by omega
 simp[Result.andThen,sliced,ha,e2]
theorem v6x(b o n c:Nat)(hn:1<=n)(hc:1<c)(W:World):
  (Instr.slice 43 (.slice (some ⟨b,o,none⟩) n c) (some (.int .i64 1)) none none).run prog W=.ok (.slice (some ⟨b,o+1,none⟩) (n-1) (c-1)) W:=by
 rw[run_slice_l W 43 _ n c Tryz.underlying43 .i64 1 (by omega) (by omega)];have hz:(sizeOf (prog.elem 43)).run prog W=.ok 1 W:=by kernel_rfl
 rw[hz];have ha:(⟨b,o,none⟩:Addr).add 1=⟨b,o+1,none⟩:=rfl;have e2:¬c=1:=by omega
 simp[Result.andThen,sliced,ha,e2]
theorem q8h{K:LwK}{ws:List Wd}{pl:Nat->Nat}{b q:Nat}{w:World}(h:Ry K ws pl b q w)(hq:q<ws.length):
  Calls prog 198 #[.pointer (some ⟨b,0,none⟩)] w fun e w'=>e=.returned (.string (wbS ws[q]))/\Ry K ws pl b (q+1) w'/\But w b w w':=by
 have c0:=h.c0;have c1:=h.c1;have d0:=h.wd q h.le;rw[q3u hq]at d0;have f0:w.frozen? ⟨b,0,none⟩=false:=h.row.frozen;have f1:w.frozen? ⟨b,1,none⟩=false:=h.row.frozen;have H:=(show Hid (_)from h);have lw:=h.lw;have la:=h.la;generalize wbS ws[q]=S at d0⊢;have HN1:Hid (ws.length+1-q-1=ws.length-q):=(show _=_ by omega);have hn:1<=ws.length+1-q:=by omega
 have s0:=v9r K.gw q (ws.length+1-q) (K.cw-q) hn (by omega);have s1:=v6x K.ga q (ws.length+1-q) (K.ca-q) hn (by omega);rw[HN1.o]at s0 s1;generalize ws.length+1-q=n at c0 c1 s0 s1 hn
 have HX:Hid (∀w',w'=(w.setCell ⟨b,0,none⟩ (.slice (some ⟨K.gw,q+1,none⟩) (ws.length-q) (K.cw-q-1))).setCell ⟨b,1,none⟩ (.slice (some ⟨K.ga,q+1,none⟩) (ws.length-q) (K.ca-q-1))->Ry K ws pl b (q+1) w'/\But w b w w'):=fun w' hw=>⟨H.o.step hq hw,by
  subst hw
  exact((But.refl _ _ _).setCell (p:=⟨b,0,none⟩) (.inl rfl) _).setCell (p:=⟨b,1,none⟩) (.inl rfl) _⟩
 generalize ws.length-q=m at s0 s1 HX;generalize K.cw-q=cw at c0 s0 HX;generalize K.ca-q=ca at c1 s1 HX;clear h lw la hq;go_in;go_wp2_with fail
 go_region
 go_wp2;go_ret;obtain⟨h1,h2⟩:=HX.o _ rfl;exact⟨rfl,h1.keep (Below.drew Zb),h2.drew⟩
abbrev q4t(k:Nat):PanicEntry:={v:=.iface 163 (.agg #[.int .i64 (k:Int)]),recovered:=false}
theorem k5c{K:LwK}{ws:List Wd}{pl:Nat->Nat}{b q:Nat}{w:World}(h:Ry K ws pl b q w):
  Calls prog 200 #[.pointer (some ⟨b,0,none⟩)] w fun e w'=>e=.panicked [q4t (pl q)]/\w'=w:=by
 have c1:=h.c1;have d0:=h.pt q h.le;have hn:0<ws.length+1-q:=by have:=h.le;omega
 generalize ws.length+1-q=n at c1 hn;generalize K.ca-q=c at c1;clear h;go_in;go_wp2;exact⟨rfl,rfl,rfl⟩
theorem z6h(s:Wd)(lo hi:Nat)(w:World)(h1:1<=lo):
  Calls prog 233 #[.string (wbS s),.int .u8 (lo:Int),.int .u8 (hi:Int)] w fun e w'=>e=.returned (.bool (decide (lo<=(s.headD 0).toNat)&&decide ((s.headD 0).toNat<=hi)))/\w'=w:=by
 cases s with
 | nil=>
  have h2:(decide (lo<=(([]:Wd).headD 0).toNat)&&decide ((([]:Wd).headD 0).toNat<=hi))=false:=by
   have:¬lo<=(([]:Wd).headD 0).toNat:=by show ¬lo<=0;omega
   simp only[decide_eq_false this,Bool.false_and]
  rw[h2];have e0:wbS []=⟨#[]⟩:=rfl;rw[e0];clear h2;go_in;go_wp2;go_ret;exact⟨rfl,rfl⟩
 | cons c r=>
  have hsz:0<(wbS (c::r)).size:=by rw[<-q0b];show 0<(c::r).length;simp
  have hat:∀h:0<(wbS (c::r)).size,(wbS (c::r))[0]=c:=fun _=>rfl
  have hne:¬(wbS (c::r)).toList=[]:=by rw[Lib.toList_data];show ¬(c::r)=[];simp
  have hne2:((wbS (c::r)).toList==[])=false:=by rw[Lib.toList_data];rfl
  have hnl:(⟨#[]⟩:ByteArray).toList=[]:=by rw[Lib.toList_data]
  show Calls _ _ _ _ fun e w'=>e=.returned (.bool (decide (lo<=c.toNat)&&decide (c.toNat<=hi)))/\w'=w
  have HR:Hid (∀(a b:Bool),a=decide ((lo:Int)<=(c.toNat:Int))->b=decide ((c.toNat:Int)<=(hi:Int))->(decide (lo<=c.toNat)&&decide (c.toNat<=hi))=(a&&b)):=fun a b ha hb=>by
   subst ha hb;have e1:decide ((lo:Int)<=(c.toNat:Int))=decide (lo<=c.toNat):=by congr 1;simp
   have e2:decide ((c.toNat:Int)<=(hi:Int))=decide (c.toNat<=hi):=by congr 1;simp
   rw[e1,e2]
  generalize(decide (lo<=c.toNat)&&decide (c.toNat<=hi))=R at HR⊢
  generalize wbS (c::r)=S at hsz hat hne hne2⊢;have hat0:=hat hsz;clear hat;by_cases g1:(lo:Int)<=(c.toNat:Int)
  ·by_cases g2:(c.toNat:Int)<=(hi:Int)
   ·have hr:=HR.o true true (decide_eq_true g1).symm (decide_eq_true g2).symm;simp only[Bool.and_self]at hr;subst hr;go_in;go_wp2;go_ret;exact⟨rfl,rfl⟩
   ·have hr:=HR.o true false (decide_eq_true g1).symm (decide_eq_false g2).symm;simp only[Bool.and_false]at hr;subst hr;go_in;go_wp2;go_ret;exact⟨rfl,rfl⟩
  ·have hr:=HR.o false (decide ((c.toNat:Int)<=(hi:Int))) (decide_eq_false g1).symm rfl;simp only[Bool.false_and]at hr;subst hr;go_in;go_wp2;go_ret;exact⟨rfl,rfl⟩
theorem j4w(s:Wd)(w:World):Calls prog 253 #[.string (wbS s)] w fun e w'=>e=.returned (.bool (z7w s))/\w'=w:=by
 have HB:Hid (∀W,Calls prog 233 #[.string (wbS s),.int .u8 48,.int .u8 57] W fun e w'=>e=.returned (.bool (z7w s))/\w'=W):=fun W=>z6h s 48 57 W (by omega)
 generalize z7w s=R at HB⊢;go_in;go_wp2_with fail;refine(HB.o _).mono ?_;rintro e w1⟨rfl,rfl⟩;go_wp2;go_ret;exact⟨rfl,rfl⟩
theorem g1o:nmW q9l=false:=by decide
theorem k9a(s:Wd)(hs:s=[]\/q3v s)(w:World):Calls prog 199 #[.string (wbS s)] w fun e w'=>e=.returned (.bool (nmW s))/\w'=w:=by
 by_cases hl:s=q9l
 ·subst hl;rw[g1o];have e0:wbS q9l=⟨#[108,101,116]⟩:=rfl;rw[e0];clear hs;go_in;go_wp2;go_ret;exact⟨rfl,rfl⟩
 ·have hn:nmW s=q3w (s.headD 0):=by
   rcases hs with rfl|hs
   ·decide
   ·rw[y0c hs];simp[hl]
  rw[hn];have HB:Hid (∀W,Calls prog 233 #[.string (wbS s),.int .u8 97,.int .u8 122] W fun e w'=>e=.returned (.bool (q3w (s.headD 0)))/\w'=W):=fun W=>z6h s 97 122 W (by omega)
  have hne2:((wbS s).toList==[108,101,116])=false:=by
   rw[Lib.toList_data]
   show(s==[108,101,116])=false
   simpa using hl
  have hne:¬(wbS s).toList=[108,101,116]:=by
   intro e;rw[e]at hne2;cases hne2
  have hlt:(⟨#[108,101,116]⟩:ByteArray).toList=[108,101,116]:=by rw[Lib.toList_data]
  generalize q3w (s.headD 0)=R at HB⊢;generalize wbS s=S at HB hne hne2⊢;clear hs hn hl;go_in;go_wp2_with fail;refine(HB.o _).mono ?_;rintro e w1⟨rfl,rfl⟩;go_wp2;go_ret;exact⟨rfl,rfl⟩
theorem z6j(s:Wd)(w:World):Calls prog 148 #[.string (wbS s)] w fun e w'=>e=.returned (.bool (decide (s.headD 0=35)))/\w'=w:=by
 have HB:Hid (∀W,Calls prog 183 #[.string (wbS s),.string ⟨#[35]⟩] W fun e w'=>e=.returned (.bool (decide (s.headD 0=35)))/\w'=W):=fun W=>by
  have h:=hasPrefix_sh (wbS s) ⟨#[35]⟩ W
  have e1:Lib.hasPrefix (wbS s).data.toList (⟨#[35]⟩:ByteArray).data.toList=decide (s.headD 0=35):=by
   show Lib.hasPrefix s [35]=_;cases s with
   | nil=>decide
   | cons c r=>
    show([35]:Wd).isPrefixOf (c::r)=decide (c=35)
    simp only[List.isPrefixOf,Bool.and_true];rw[Bool.eq_iff_iff,beq_iff_eq,decide_eq_true_eq];exact⟨Eq.symm,Eq.symm⟩
  rw[e1]at h;exact h
 generalize decide (s.headD 0=35)=R at HB⊢;go_in;go_wp2_with fail;refine(HB.o _).mono ?_;rintro e w1⟨rfl,rfl⟩;go_wp2;go_ret;exact⟨rfl,rfl⟩
section
variable {K:LwK} {ws:List Wd} {pl:Nat→Nat} {b q:Nat} {w:World}
theorem g3i(a c:Wd):((wbS a).toList==(wbS c).toList)=(a==c):=by
 rw[Lib.toList_data,Lib.toList_data];rfl
theorem q7i(h:Ry K ws pl b q w)(s:Wd)(hs:ws[q]?=some s):
  Calls prog 150 #[.pointer (some ⟨b,0,none⟩),.string (wbS s)] w fun e w'=>e=.returned (.bool true)/\Ry K ws pl b (q+1) w'/\But w b w w':=by
 obtain⟨hq,he⟩:=List.getElem?_eq_some_iff.1 hs
 have HW:Hid (Calls prog 93 #[.pointer (some ⟨b,0,none⟩)] w fun e w'=>e=.returned (.string (wbS s))/\w'=w):=by
  have h1:=q6k h;rw[q3u hq,he]at h1;exact h1
 have HN:Hid (Calls prog 198 #[.pointer (some ⟨b,0,none⟩)] w fun e w'=>e=.returned (.string (wbS s))/\Ry K ws pl b (q+1) w'/\But w b w w'):=by
  have h1:=q8h h hq;rw[he]at h1;exact h1
 have hb:((wbS s).toList==(wbS s).toList)=true:=by simp
 generalize wbS s=S at HW HN hb⊢;clear h hs hq he;go_in;go_wp2_with fail;refine HW.o.mono ?_;rintro e w1⟨rfl,rfl⟩;go_wp2_with fail;refine HN.o.mono ?_;rintro e w2⟨rfl,h2,b2⟩;have K2:=(show Hid (_)from And.intro h2 b2);clear h2 b2;go_wp2;go_ret;exact⟨rfl,K2.o⟩
theorem q8g(h:Ry K ws pl b q w)(s:Wd)(h0:s≠[])(hs:ws[q]?≠some s):
  Calls prog 150 #[.pointer (some ⟨b,0,none⟩),.string (wbS s)] w fun e w'=>e=.returned (.bool false)/\w'=w:=by
 have HW:Hid (Calls prog 93 #[.pointer (some ⟨b,0,none⟩)] w fun e w'=>e=.returned (.string (wbS (ws.getD q [])))/\w'=w):=q6k h
 have hb:((wbS (ws.getD q [])).toList==(wbS s).toList)=false:=by
  rw[g3i];by_cases hq:q<ws.length
  ·rw[q3u hq];rw[List.getElem?_eq_getElem hq]at hs;simpa using hs
  ·rw[q6q (by omega)];cases s with
   | nil=>exact absurd rfl h0
   | cons=>rfl
 have hb2:¬(wbS (ws.getD q [])).toList=(wbS s).toList:=by
  intro e;rw[e]at hb;simp at hb
 generalize wbS (ws.getD q [])=X at HW hb hb2;generalize wbS s=S at hb hb2⊢;clear h hs h0;go_in;go_wp2_with fail;refine HW.o.mono ?_;rintro e w1⟨rfl,rfl⟩;go_wp2;go_ret;exact⟨rfl,rfl⟩
theorem q6j(h:Ry K ws pl b q w)(s:Wd)(hs:ws[q]?=some s):
  Calls prog 152 #[.pointer (some ⟨b,0,none⟩),.string (wbS s)] w fun e w'=>e=.returned (.tuple #[])/\Ry K ws pl b (q+1) w'/\But w b w w':=by
 have HH:Hid (Calls prog 150 #[.pointer (some ⟨b,0,none⟩),.string (wbS s)] w fun e w'=>e=.returned (.bool true)/\Ry K ws pl b (q+1) w'/\But w b w w'):=q7i h s hs;generalize wbS s=S at HH⊢;clear h hs;go_in;go_wp2_with fail;refine HH.o.mono ?_;rintro e w2⟨rfl,h2,b2⟩;have K2:=(show Hid (_)from And.intro h2 b2);clear h2 b2;go_wp2
 go_end0
 exact⟨rfl,K2.o⟩
theorem q7j(h:Ry K ws pl b q w)(s:Wd)(h0:s≠[])(hs:ws[q]?≠some s):
  Calls prog 152 #[.pointer (some ⟨b,0,none⟩),.string (wbS s)] w fun e w'=>e=.panicked [q4t (pl q)]/\w'=w:=by
 have HH:Hid (Calls prog 150 #[.pointer (some ⟨b,0,none⟩),.string (wbS s)] w fun e w'=>e=.returned (.bool false)/\w'=w):=q8g h s h0 hs;have HF:Hid (Calls prog 200 #[.pointer (some ⟨b,0,none⟩)] w fun e w'=>e=.panicked [q4t (pl q)]/\w'=w):=k5c h;generalize wbS s=S at HH⊢;clear h hs h0;go_in;go_wp2_with fail;refine HH.o.mono ?_;rintro e w2⟨rfl,rfl⟩;go_wp2_with fail;refine HF.o.mono ?_;rintro e w2⟨rfl,rfl⟩;go_wp2;exact⟨rfl,rfl,rfl⟩
end
def q0v(ds:List Td):List Value:=ds.flatMap fun x=>[.int .i64 x.op,.string x.tx,.int .i64 x.n]
theorem q7d:∀ds:List Td,(q0v ds).length=ds.length*3
 | []=>rfl
 | x::r=>by
  have:=q7d r
  unfold q0v at this⊢;rw[List.flatMap_cons,List.length_append,this,List.length_cons];simp;omega
theorem z5v(a b:List Td):q0v (a++b)=q0v a++q0v b:=by simp[q0v,List.flatMap_append]
theorem z2v:∀(ds:List Td)(i:Nat)(h:i<ds.length),(q0v ds)[i*3]?=some (.int .i64 ds[i].op)/\(q0v ds)[i*3+1]?=some (.string ds[i].tx)/\(q0v ds)[i*3+2]?=some (.int .i64 ds[i].n)
 | x::r,0,_=>by simp[q0v]
 | x::r,i+1,h=>by
  have h1:=z2v r i (by simpa using h);have e:q0v (x::r)=.int .i64 x.op::.string x.tx::.int .i64 x.n::q0v r:=by simp[q0v]
  rw[e,show(i+1)*3=i*3+1+1+1 by omega];exact h1
theorem z5w(ds:List Td):∀u∈q0v ds,u.oneCell'=true:=by
 intro u hu;obtain⟨x,_,hx⟩:=List.mem_flatMap.1 hu;simp at hx;rcases hx with rfl|rfl|rfl<;>rfl
theorem k7n(ds:List Td)(j:Nat)(u:Value)(h:(q0v ds)[j]?=some u):∃i,∃hi:i<ds.length,(j=i*3/\u=.int .i64 ds[i].op)\/(j=i*3+1/\u=.string ds[i].tx)\/(j=i*3+2/\u=.int .i64 ds[i].n):=by
 have hj:j<ds.length*3:=by rw[<-q7d];exact(List.getElem?_eq_some_iff.1 h).1
 have hi:j / 3<ds.length:=by omega
 obtain⟨h0,h1,h2⟩:=z2v ds (j / 3) hi;refine⟨j / 3,hi,?_⟩;have h3:j=j / 3*3\/j=j / 3*3+1\/j=j / 3*3+2:=by omega
 rcases h3 with e|e|e
 ·rw[<-e,h]at h0;exact .inl ⟨e,Option.some.inj h0⟩
 ·rw[<-e,h]at h1;exact .inr (.inl ⟨e,Option.some.inj h1⟩)
 ·rw[<-e,h]at h2;exact .inr (.inr ⟨e,Option.some.inj h2⟩)
theorem v2x:(prog.info? 71).map (fun i=>(i.zero,i.size,i.bytes))=some (some (.agg #[.int .i64 0,.string ⟨#[]⟩,.int .i64 0]),3,32):=by kernel_rfl
theorem k7b{B:Nat}{w:World}{a:Option Addr}{n cap:Nat}{ds:List Td}(h:w.ownsRow B 71 3 (.slice a n cap) ds.length (q0v ds)):n=ds.length/\ds.length<=cap/\Tds w a ds:=by
 rcases h.2 with⟨hv,h0⟩|⟨g,c,cur,hv,_,hg,hnc,_,hsz,htake⟩
 ·simp only[Value.slice.injEq]at hv;obtain⟨rfl,rfl,rfl⟩:=hv;refine⟨h0.symm,by omega,fun i hi=>?_⟩;omega
 ·simp only[Value.slice.injEq]at hv;obtain⟨rfl,rfl,rfl⟩:=hv;refine⟨rfl,hnc,fun i hi=>?_⟩
  have hlt:g<w.heap.size:=by
   rcases Nat.lt_or_ge g w.heap.size with h'|h'
   ·exact h'
   ·simp[Array.getElem?_eq_none h']at hg
  have hcell:∀k u,(q0v ds)[k]?=some u->w.cell? ⟨g,k,none⟩=some u:=by
   intro k u hk;rw[<-htake]at hk
   have hk2:k<ds.length*3:=by
    have:=(List.getElem?_eq_some_iff.1 hk).1
    simp at this;omega
   rw[List.getElem?_take_of_lt hk2]at hk;simp only[World.cell?,hg];simpa using hk
  obtain⟨h0,h1,h2⟩:=z2v ds i hi;refine⟨g,0,rfl,hlt,?_,?_,?_⟩
  ·rw[Nat.zero_add];exact hcell _ _ h0
  ·rw[Nat.zero_add];exact hcell _ _ h1
  ·rw[Nat.zero_add];exact hcell _ _ h2
theorem j1t{w:World}{b o:Nat}{ds:List Td}(h:Tds w (some ⟨b,o,none⟩) ds):∀j u,(q0v ds)[j]?=some u->w.cell? ((⟨b,o,none⟩:Addr).add j)=some u:=by
 intro j u hj;obtain⟨i,hi,hc⟩:=k7n ds j u hj;obtain⟨b',o',e,_,c1,c2,c3⟩:=h i hi;simp only[Option.some.injEq,Addr.mk.injEq,and_true]at e;obtain⟨rfl,rfl⟩:=e
 have ha:∀k,(⟨b,o,none⟩:Addr).add k=⟨b,o+k,none⟩:=by
  intro k;unfold Addr.add
  split
  ·rename_i h;subst h;rfl
  ·rfl
 rw[ha];rcases hc with⟨rfl,rfl⟩|⟨rfl,rfl⟩|⟨rfl,rfl⟩
 ·exact c1
 ·rw[show o+(i*3+1)=o+i*3+1 by omega];exact c2
 ·rw[show o+(i*3+2)=o+i*3+2 by omega];exact c3
def q1v(B:Nat)(v:Value)(xs:List Td)(w:World):Prop:=w.ownsRow B 71 3 v xs.length (q0v xs)
theorem q1v.tds{B:Nat}{w:World}{A:Option Addr}{n c:Nat}{xs:List Td}(h:q1v B (.slice A n c) xs w):Tds w A xs:=(k7b h).2.2
theorem q1v.none{B:Nat}{w:World}{A:Option Addr}{n c:Nat}{xs:List Td}(h:q1v B (.slice A n c) xs w):n=xs.length/\(A=none->n=0/\c=0):=by
 rcases h.2 with⟨hv,h0⟩|⟨g,c',cur,hv,_⟩
 ·simp only[Value.slice.injEq]at hv;obtain⟨rfl,rfl,rfl⟩:=hv;exact⟨h0.symm,fun _=>⟨rfl,rfl⟩⟩
 ·simp only[Value.slice.injEq]at hv;obtain⟨rfl,rfl,rfl⟩:=hv;exact⟨rfl,fun e=>by cases e⟩
theorem k5l{w:World}{ops:Array Oper}{rest:List Oper}{o:Oper}{a:Act}{Q:Exit->Act->World->Prop}(hgd:o.guard=none)(s x:Operand)
  (ho:o.op=.call {callee:=.builtin .append,args:=#[s,x],argTypes:=#[51,51]})
  (base:Nat) (v:Value) (xs:List Td) (hs:a.eval s=v) (hown:q1v base v xs w)
  (wa:Option Addr) (n:Nat) (ws:List Td) (hn:ws.length=n) (wc:Nat) (hx:a.eval x=.slice wa n wc) (hW:Tds w wa ws) (hnil:wa=none->n=0/\wc=0)
  (m:Nat) (hm:xs.length+n=m) (hb:m<=1000000) (hbase:base<=w.heap.size)
  (h:∀A c w',q1v base (.slice A m c) (xs++ws) w'->w.grownBy w' v.ownBlock->wpList prog ops Q rest (a.put o.dst (.slice A m c)) w'):wpList prog ops Q (o::rest) a w:=by
 subst hn hm;obtain⟨i0,hi,hz0,hz1,hz2⟩:=info_parts v2x
 have h':∀v' w',q1v base v' (xs++ws) w'->w.grownBy w' v.ownBlock->wpList prog ops Q rest (a.put o.dst v') w':=by
  intro v' w' h1 h2
  obtain⟨A,c,rfl⟩:∃A c,v'=.slice A (xs.length+ws.length) c:=by
   rcases h1.2 with⟨hv,h0⟩|⟨g,c,cur,hv,_⟩
   ·rw[List.length_append]at h0;exact⟨.none,0,by rw[hv,h0]⟩
   ·rw[List.length_append]at hv;exact⟨_,c,hv⟩
  exact h A c w' h1 h2
 cases wa with
 | none=>
  obtain⟨h0,rfl⟩:=hnil rfl;obtain rfl:ws=[]:=List.eq_nil_of_length_eq_zero h0;refine wpList_append_own_none hgd s x 51 ho base 71 i0 3 Tryz.underlying51 hi v xs.length (q0v xs) hs hown hx ?_;refine h' v w ?_ ⟨rfl,rfl,rfl,Nat.le_refl _,fun _ _ _=>rfl⟩;rw[List.append_nil];exact hown
 | some ad=>
  have hsp:ws=[]\/∃b o,ad=⟨b,o,Option.none⟩:=by
   rcases Nat.eq_zero_or_pos ws.length with h0|h0
   ·exact .inl (List.eq_nil_of_length_eq_zero h0)
   ·obtain⟨b,o,e,_⟩:=hW 0 h0;exact .inr ⟨b,o,by simpa using e⟩
  refine wpList_append_own w hgd s x 51 ho base 71 i0 _ 3 32 Tryz.underlying51 hi hz0 hz1 hz2 rfl (by decide) v xs.length (q0v xs) hs hown ad ws.length wc (q0v ws) hx (q7d ws) ?_ (z5w ws) (by unfold maxLen;omega) (by omega) hbase ?_
  ·rcases hsp with rfl|⟨b,o,rfl⟩
   ·intro j u hj;simp[q0v]at hj
   ·exact j1t hW
  ·intro v' w' h1 h2 _;rw[<-z5v]at h1;refine h' v' w' ?_ h2;show w'.ownsRow _ _ _ _ _ _;rw[List.length_append];exact h1
theorem q1v.down{B B':Nat}{v:Value}{xs:List Td}{w:World}(h:q1v B v xs w)(hB:B'<=B):q1v B' v xs w:=by
 refine⟨h.1,?_⟩;rcases h.2 with h0|⟨g,c,cur,hv,hg,rest⟩
 ·exact .inl h0
 ·exact .inr ⟨g,c,cur,hv,by omega,rest⟩
theorem q1v.kept{B:Nat}{v:Value}{xs:List Td}{w w':World}(h:q1v B v xs w)(hk:∀g,B<=g->g<w.heap.size->w'.heap[g]?=w.heap[g]?):q1v B v xs w':=by
 refine⟨h.1,?_⟩;rcases h.2 with h0|⟨g,c,cur,hv,hB,hg,rest⟩
 ·exact .inl h0
 ·exact .inr ⟨g,c,cur,hv,hB,(hk g hB (Array.getElem?_eq_some_iff.1 hg).1).trans hg,rest⟩
theorem q1v.one(w:World)(x:Td):q1v w (.slice (some ⟨w.heap.size,0,Option.none⟩) 1 1) [x] (w.alloc (.cells #[.int .i64 x.op,.string x.tx,.int .i64 x.n] 71)):=by
 have h1:(w.alloc (.cells #[.int .i64 x.op,.string x.tx,.int .i64 x.n] 71)).heap[w.heap.size]?=some (.cells #[.int .i64 x.op,.string x.tx,.int .i64 x.n] 71 (0,0)):=by
  show(w.heap.push _)[w.heap.size]?=_
  simp
 exact⟨rfl,.inr ⟨w.heap.size,1,_,rfl,Nat.le_refl _,h1,Nat.le_refl _,by unfold maxLen;decide,rfl,rfl⟩⟩
set_option maxHeartbeats 4000000
theorem v4j(n:Nat)(h1:0<n)(hn:n<=1000000)(w:World):
  Calls prog 252 #[.slice none 0 0,.int .i64 (n:Int)] w fun e w'=>∃c,e=.returned (.slice (some ⟨w,0,none⟩) 0 c)/\q1v w (.slice (some ⟨w,0,none⟩) 0 c) [] w'/\Below w w w':=by
 obtain⟨i0,hi,hz0,hz1,hz2⟩:=info_parts v2x
 have hrz:∀ty,(Builtin.append_ #[51,3] ty #[.slice none 0 0,.int .i64 (n:Int)]).run prog w=
   .ok (.slice (some ⟨w,0,none⟩) n (grownCap w n 0 71)) (w.drew.alloc (.cells (#[]++Builtin.zeroCells (Value.agg #[.int .i64 0,.string ⟨#[]⟩,.int .i64 0]).cells n++Builtin.zeroCells (Value.agg #[.int .i64 0,.string ⟨#[]⟩,.int .i64 0]).cells (grownCap w n 0 71-n)) 71)):=fun ty=>by
  have hold:(Builtin.firstCells i0.size 0 (.slice none 0 0)).run prog w.drew=.ok ([]:List Value).toArray w.drew:=run_firstCells_none w.drew i0.size 0 0 0;have h:=Lib.run_append_grow_zeros w 51 3 ty 71 i0 _ .i64 .i64 Tryz.underlying51 Tryz.underlying3 hi hz0 none 0 0 [] hold n h1 (by omega) (by omega) (by omega) (by rw[hz2];omega) (growslice_fits (by omega) (by rw[hz2];omega));simp only[Nat.zero_add]at h;exact h
 have hGn:n<=grownCap w n 0 71:=grownCap_ge w _ _ _;have hGm:=grownCap_le_maxLen w n 0 71 (by unfold maxLen;omega);generalize grownCap w n 0 71=G at hrz hGn hGm;have hG63:G<=9223372036854775807:=by unfold maxLen at hGm;omega
 have HO:Hid (q1v w (.slice (some ⟨w,0,none⟩) 0 G) [] (w.drew.alloc (.cells (#[]++Builtin.zeroCells (Value.agg #[.int .i64 0,.string ⟨#[]⟩,.int .i64 0]).cells n++Builtin.zeroCells (Value.agg #[.int .i64 0,.string ⟨#[]⟩,.int .i64 0]).cells (G-n)) 71))):=by
  refine⟨rfl,.inr ⟨w.heap.size,G,_,rfl,Nat.le_refl _,heap_alloc_new w.drew _,Nat.zero_le _,hGm,?_,rfl⟩⟩;simp only[Array.size_append,size_zeroCells,Array.size_empty];show 0+n*3+(G-n)*3=G*3;omega
 have hni:(0:Int)<(n:Int):=by omega
 generalize(#[]++Builtin.zeroCells (Value.agg #[.int .i64 0,.string ⟨#[]⟩,.int .i64 0]).cells n++Builtin.zeroCells (Value.agg #[.int .i64 0,.string ⟨#[]⟩,.int .i64 0]).cells (G-n))=Z at hrz HO
 clear hi hz0 hz1 hz2 hGm;go_in;go_wp2_with(at_builtin;refine Lib.wpList_append_run _ rfl _ _ _ _ rfl _ _ rfl rfl _ _ (hrz _) ?_);go_ret;exact⟨G,rfl,HO.o,Below.drew (Zb.alloc Zl _)⟩
def y8t(w:World)(a:Option Addr)(ps:List (List Td)):Prop:=
 ∀i(h:i<ps.length),∃b o a' c',a=some ⟨b,o,none⟩/\b<w.heap.size/\w.cell? ⟨b,o+i,none⟩=some (.slice a' ps[i].length c')/\ps[i].length<=c'/\Tds w a' ps[i]/\(a'=none->ps[i].length=0/\c'=0)
theorem y8t.W{w w':World}{a:Option Addr}{ps:List (List Td)}(h:y8t w a ps)(hb:Below w w w'):y8t w' a ps:=by
 intro i hi;obtain⟨b,o,a',c',e,hlt,c1,c2,c3,c4⟩:=h i hi;exact⟨b,o,a',c',e,Nat.lt_of_lt_of_le hlt hb.size,(hb.cell (p:=⟨b,_,none⟩) hlt).trans c1,c2,c3.W hb,c4⟩
theorem k2i{ps:List (List Td)}{i:Nat}(h:i<ps.length):(ps.take (i+1)).flatten=(ps.take i).flatten++ps[i]:=by
 rw[List.take_succ_eq_append_getElem h,List.flatten_append];simp
theorem z9e(ps:List (List Td))(i:Nat):(ps.take i).flatten.length<=ps.flatten.length:=by
 have h:ps.flatten=(ps.take i).flatten++(ps.drop i).flatten:=by rw[<-List.flatten_append,List.take_append_drop]
 rw[h,List.length_append];omega
structure g4j(w:World)(ps:List (List Td))(i:Nat)(v:Value)(wr:World):Prop where
 le:i<=ps.length
 o:q1v w v (ps.take i).flatten wr
 b:Below w w wr
theorem k8z(ps:List (List Td))(a:Option Addr)(c:Nat)(w:World)(hP:y8t w a ps)(h0:0<ps.flatten.length)(hl:ps.flatten.length<=900000)(hp:ps.length<=10):
  Calls prog 234 #[.slice a ps.length c] w fun e w'=>∃A c',e=.returned (.slice A ps.flatten.length c')/\q1v w (.slice A ps.flatten.length c') ps.flatten w'/\Below w w w':=by
 have HP:Hid (y8t w a ps):=hP;have HG:Hid (Calls prog 252 #[.slice none 0 0,.int .i64 (ps.flatten.length:Int)] w fun e w'=>∃c,e=.returned (.slice (some ⟨w,0,none⟩) 0 c)/\q1v w (.slice (some ⟨w,0,none⟩) 0 c) [] w'/\Below w w w'):=v4j ps.flatten.length h0 (by omega) w;clear hP;generalize hN:ps.flatten.length=N at HG h0 hl⊢;have HN:Hid (ps.flatten.length=N):=hN;clear hN;go_in;go_wp2_with fail
 go_loopw [3,11] (fun s x wr=>w=wr/\∃i:Nat,i<=ps.length/\x=.int .i64 (i:Int)/\s=.int .i64 ((ps.take i).flatten.length:Int)) (fun _ x _=>ps.length-(intOf x).toNat)
 case atStart=>exact⟨rfl,0,Nat.zero_le _,rfl,rfl⟩
 case round=>
  obtain⟨rfl,i,hi,rfl,rfl⟩:=hrel;by_cases hlt:i<ps.length
  ·have hii:(i:Int)<(ps.length:Int):=by omega
   obtain⟨b0,o0,A0,c0,rfl,hb0,d0,_,_,_⟩:=HP.o i hlt;have hft:=congrArg List.length (k2i hlt);rw[List.length_append]at hft;have hfl:=z9e ps (i+1);rw[HN.o]at hfl;have HF:=(show Hid (_=_)from hft);have hs1:(ps.take i).flatten.length+ps[i].length<=900000:=by omega
   clear hft hfl;generalize ps[i].length=pn at HF d0 hs1
   generalize(ps.take i).flatten.length=sn at HF hs1⊢
   have hs2:¬(sn:Int)+(pn:Int)<0:=by omega
   go_wp2;refine⟨⟨trivial,i+1,hlt,by go_num,?_⟩,?_⟩
   ·rw[HF.o];go_num
   ·simp[intOf];omega
  ·have hii:¬(i:Int)<(ps.length:Int):=by omega
   have hie:(ps.take i).flatten.length=N:=by rw[List.take_of_length_le (by omega)];exact HN.o
   rw[hie];clear hie;go_wp2_with fail;refine HG.o.mono ?_;rintro e w1⟨c1,rfl,ho1,b1⟩;have HC1:Hid (g4j w ps 0 (.slice (some ⟨w,0,none⟩) 0 c1) w1):=⟨Nat.zero_le _,ho1,b1⟩;clear ho1 b1;go_wp2_with fail
   go_loopw [6,27] (fun v x w'=>∃(i:Nat)(A:Option Addr)(n c:Nat),x=.int .i64 (i:Int)/\v=.slice A n c/\n=(ps.take i).flatten.length/\g4j w ps i (.slice A n c) w') (fun _ x _=>ps.length-(intOf x).toNat)
   case atStart=>exact⟨0,_,_,_,rfl,rfl,rfl,HC1.o⟩
   case round=>
    obtain⟨i,A,n,c2,rfl,rfl,hn,hC⟩:=hrel;have hfl:=z9e ps i;rw[HN.o,<-hn]at hfl;by_cases hlt:i<ps.length
    ·have hii:(i:Int)<(ps.length:Int):=by omega
     obtain⟨b0,o0,A0,c0,rfl,hb0,d0,_,hT,hnil⟩:=HP.o.W hC.b i hlt;have hft:=k2i hlt;have hfl2:=z9e ps (i+1);rw[hft,List.length_append,HN.o,<-hn]at hfl2;have HF:=(show Hid (_=_)from hft);have HO:Hid (q1v w (.slice A n c2) (ps.take i).flatten wr):=hC.o;have HB:Hid (Below w w wr):=hC.b;have hsz:=hC.b.size;have HT:Hid (Tds wr A0 ps[i]):=hT;have HNI:Hid (A0=none->ps[i].length=0/\c0=0):=hnil;have HL:Hid ((ps.take i).flatten.length=n):=hn.symm;have HPL:Hid (∃m,ps[i].length=m):=⟨_,rfl⟩;generalize hpn:ps[i].length=pn at d0 hfl2 HNI;have HPN:Hid (ps[i].length=pn):=hpn;clear hft hT hnil hn hC hpn HPL hfl;go_wp2_with(at_builtin;refine k5l rfl _ _ rfl w.heap.size _ (ps.take i).flatten rfl HO.o A0 pn ps[i] HPN.o c0 rfl HT.o HNI.o (n+pn) (by rw[HL.o]) (by omega) hsz ?_);intro A3 c3 w3 hown3 hgrow3
     have HX3:Hid (g4j w ps (i+1) (.slice A3 (n+pn) c3) w3):=by
      refine⟨hlt,?_,HB.o.grown hgrow3 hsz (fun k hk=>(World.ownsRow.lt HO.o k hk).1)⟩;rw[HF.o];exact hown3
     clear hown3 hgrow3;go_wp2;refine⟨⟨i+1,A3,n+pn,c3,by go_num,rfl,?_,HX3.o⟩,?_⟩
     ·rw[HF.o,List.length_append,HL.o,HPN.o]
     ·simp[intOf];omega
    ·have hii:¬(i:Int)<(ps.length:Int):=by omega
     have hie:ps.take i=ps:=List.take_of_length_le (by omega);obtain⟨_,ho,hb⟩:=hC;rw[hie]at ho hn;rw[HN.o]at hn;subst hn;have HO:Hid (q1v w (.slice A n c2) ps.flatten wr):=ho;have HB:Hid (Below w w wr):=hb;clear ho hb hie;go_wp2;go_ret;exact⟨A,c2,rfl,HO.o,HB.o⟩
end Go.Proofs.YthcpdohdppkmkaaGreatDoor
