/- Texts as one: TreS, SyR, AppT. -/
import Derived.Test.YthjapabokcajhaaGreatDoorPi33
import Derived.BigRegion
open Go.Proofs.Tryz
namespace Go.Proofs.YthjapabokcajhaaGreatDoor
open Go Go.RowKit
set_option maxRecDepth 100000
set_option maxHeartbeats 4000000
theorem q1f(s:ByteArray)(w:World):Calls prog 23 #[.string s] w fun e w'=>e=.returned (.bool (q0o s))/\w=w':=by
 by_cases h1:(s.size:Int)<1
 ·have HE:Hid (q0o s=false):=z4k (by omega);go_in;go_wp2;go_ret;exact⟨by rw[HE.o];rfl,rfl⟩
 by_cases h2:8<(s.size:Int)
 ·have HE:Hid (q0o s=false):=z6x (by omega);go_in;go_wp2;go_ret;exact⟨by rw[HE.o];rfl,rfl⟩
 by_cases h3:s=⟨#[108,101,116]⟩
 ·subst h3;go_in;go_wp2;go_ret;exact⟨by rfl,rfl⟩
 have HL:Hid (¬s=⟨#[108,101,116]⟩):=h3
 have hnb:¬s.toList=[108,101,116]:=by
  rw[ByteArray.toList_eq];intro e;exact h3 (j4y.1 e)
 have hnb2:(s.toList==[108,101,116])=false:=beq_false_of_ne hnb;have hnb3:(⟨#[108,101,116]⟩:ByteArray).toList=[108,101,116]:=by rw[ByteArray.toList_eq]
 clear h3;go_in;go_wp2
 go_loopw [3] (fun i wr=>wr=w/\∃k:Nat,k<=s.size/\i=.int .i64 k/\∀j(h:j<s.size),j<k->q2j s[j]=true) (fun i _=>s.size-(intOf i).toNat)
 case atStart=>exact⟨rfl,0,Nat.zero_le _,rfl,fun j _ hj=>by omega⟩
 case round=>
  obtain⟨rfl,k,hk,rfl,hall⟩:=hrel;have HA:Hid (∀j(h:j<s.size),j<k->q2j s[j]=true):=hall;clear hall;by_cases hlt:k<s.size
  ·cases hb:q2j s[k]with
   | false=>
    have HE:Hid (q0o s=false):=k1u hlt hb;have HB:Hid (q2j s[k]=false):=hb;clear hb;go_wp2_with(go_at_call 53;refine(q6e _ _).mono ?_;rintro e w2⟨rfl,rfl⟩;rw[HB.o]);go_ret;exact⟨by rw[HE.o];rfl,rfl⟩
   | true=>
    have HB:Hid (q2j s[k]=true):=hb
    have HA':Hid (∀j(h:j<s.size),j<k+1->q2j s[j]=true):=fun j h hj=>by
     by_cases hjk:j=k
     ·subst hjk;exact hb
     ·exact HA.o j h (by omega)
    clear hb;go_wp2_with(go_at_call 53;refine(q6e _ _).mono ?_;rintro e w2⟨rfl,rfl⟩;rw[HB.o])
    go_roundw
    case rel=>exact⟨by trivial,k+1,by omega,by go_num,HA'.o⟩
    case measure=>simp[intOf];omega
  ·have HE:Hid (q0o s=true):=k1t (by omega) (by omega) HL.o fun j h=>HA.o j h (by omega)
   go_wp2;go_ret;exact⟨by rw[HE.o];rfl,rfl⟩
theorem j9l(s:ByteArray)(i e:Nat)(h1:i<=e)(h2:e<=s.size)(W:World):(Instr.slice 9 (.string s) (some ↑(i:Int)) (some ↑((e:Nat):Int)) none).run prog W=.ok (.string (wbS (((btL s).drop i).take (e-i)))) W:=by
 have h:=run_slice_string (P:=prog) (w:=W) 9 s .i64 .i64 (i:Int) (e:Int) Tryz.underlying9 (by omega) (by omega) (by omega);rw[Int.toNat_natCast,Int.toNat_natCast,q9s]at h;exact h
structure y6s(s:ByteArray)(w:World)(fr i:Nat)(dn:List (List UInt8))(A:Option Addr)(c:Nat)(wr:World):Prop where
 b:Below w w wr
 le:fr<=i
 li:i<=s.size
 ln:dn.length<=fr
 no:∀j(h:j<s.size),fr<=j->j<i->s[j]≠32
 eq:q5j (btL s)=dn++q5j ((btL s).drop fr)
 ro:wr.ownsRow w.heap.size 9 1 (.slice A dn.length c) dn.length (strCells (dn.map wbS))
theorem k6x{s:ByteArray}{fr i:Nat}(h:fr<=i)(hi:i<=s.size)(no:∀j(h:j<s.size),fr<=j->j<i->s[j]≠32):∀b∈((btL s).drop fr).take (i-fr),b≠32:=by
 intro b hb;obtain⟨j,hj,rfl⟩:=List.getElem_of_mem hb;rw[List.length_take,List.length_drop,q0c]at hj;rw[List.getElem_take,List.getElem_drop];exact no (fr+j) (by omega) (by omega) (by omega)
theorem v3p{s:ByteArray}{fr i:Nat}(h:fr<=i)(hi:i<s.size):(btL s).drop fr=((btL s).drop fr).take (i-fr)++s[i]::(btL s).drop (i+1):=by
 have h1:=(List.take_append_drop (i-fr) ((btL s).drop fr)).symm;rw[List.drop_drop,show fr+(i-fr)=i by omega,q1h hi]at h1;exact h1
theorem j7k{s:ByteArray}{fr:Nat}:((btL s).drop fr).take (s.size-fr)=(btL s).drop fr:=by
 rw[List.take_of_length_le (by rw[List.length_drop,q0c];exact Nat.le_refl _)]
theorem q3z(s:ByteArray)(w:World)(hsz:s.size<=1000000000000):Calls prog 22 #[.string s] w fun e w'=>(∃A c,e=.returned (.slice A (q0e (btL s)).length c)/\q2r w (.slice A (q0e (btL s)).length c) ((q0e (btL s)).map wbS) w')/\Below w w w':=by
 by_cases h0:s.size=0
 ·have HE:Hid (q0e (btL s)=[]):=by
   show q0e (btL s)=[];rw[q0e,if_pos (List.eq_nil_of_length_eq_zero (by rw[q0c];exact h0))]
  have h0i:((s.size:Int)==0)=true:=beq_iff_eq.2 (by omega);clear h0;go_in;go_wp2;go_ret;rw[HE.o];exact⟨⟨none,0,rfl,World.ownsRow_nil _ _ _ _⟩,Below.refl _ _⟩
 ·have HE:Hid (q0e (btL s)=q5j (btL s)):=by
   show q0e (btL s)=_;rw[q0e,if_neg];intro e
   have:=congrArg List.length e
   rw[q0c,List.length_nil]at this;exact h0 this
  have h0i:((s.size:Int)==0)=false:=beq_false_of_ne (by omega);clear h0;obtain⟨i0,hi0,hz0,hz1,hz2⟩:=info_parts z0v;go_in;go_wp2
  go_loopw [3,4,5] (fun x f i wr=>∃(fr k:Nat)(dn:List (List UInt8))(A:Option Addr)(c:Nat),x=.slice A dn.length c/\f=(fr:Int)/\i=(k:Int)/\y6s s w fr k dn A c wr) (fun _ _ i _=>s.size-(intOf i).toNat)
  case atStart=>exact⟨0,0,[],none,0,rfl,rfl,rfl,{b:=Below.refl _ _,le:=Nat.le_refl _,li:=Nat.zero_le _,ln:=Nat.le_refl _,no:=fun j _ _ h=>by omega,eq:=rfl,ro:=World.ownsRow_nil _ _ _ _}⟩
  case round=>
   obtain⟨fr,k,dn,A,c,rfl,rfl,rfl,hR⟩:=hrel;have HR:Hid (y6s s w fr k dn A c wr):=hR;have hle:=hR.le;have hli:=hR.li;have hln:=hR.ln;have hsr:=hR.b.size;clear hR;by_cases hlt:k<s.size
   ·have hki:(k:Int)<(s.size:Int):=by omega
    cases hb:(s[k]==32)with
    | true=>
     have hbi:((s[k].toNat:Int)==32)=true:=by rw[show(32:Int)=((32:Nat):Int)from rfl,q5w _ 32 (by decide)];exact hb
     have hsl:=j9l s fr k hle hli
     have HEQ:Hid (q5j (btL s)=(dn++[((btL s).drop fr).take (k-fr)])++q5j ((btL s).drop (k+1))):=by
      show _=_;have h1:=v3p hle hlt;rw[beq_iff_eq.1 hb]at h1;rw[HR.o.eq,List.append_assoc]
      congr 1
      conv=>lhs;rw[h1]
      rw[k7m _ _ (k6x hle hli HR.o.no)];rfl
     generalize((btL s).drop fr).take (k-fr)=W at hsl HEQ
     clear hb;go_wp2_with(at_builtin;refine wpList_append_lies _ rfl _ _ 58 rfl w.heap.size 9 i0 _ 1 16 Tryz.underlying58 hi0 hz0 hz1 hz2 rfl (by decide) _ _ _ rfl (World.ownsRow.alloc HR.o.ro _) wr.heap.size 1 1 [.string (wbS W)] rfl rfl (cell_one_new wr _ _) (by intro u hu;simp at hu;subst hu;rfl) (by decide) (by unfold maxLen;omega) (by omega) (by simp;omega) (wr.heap.size+1) (by simp) ?_);intro g2 cap2 w2 hown2 hgrow2 hat2 hlt2
     have HN:Hid (y6s s w (k+1) (k+1) (dn++[W]) g2 cap2 w2):=by
      refine{b:=(HR.o.b.alloc hsr (.cells #[.string (wbS W)] 9)).grown hgrow2 (by simp;omega) (fun j hj=>(World.ownsRow.lt HR.o.ro j hj).1),le:=Nat.le_refl _,li:=hlt,ln:=by simp;omega,no:=fun j _ _ h=>by omega,eq:=HEQ.o,ro:=?_};rw[List.length_append,List.map_append,q2b];exact hown2
     clear hown2 hgrow2 hat2 hlt2;go_wp2
     go_roundw
     case rel=>exact⟨k+1,k+1,dn++[W],some ↑g2,cap2,by rw[List.length_append];rfl,by go_num,by go_num,HN.o⟩
     case measure=>simp[intOf];omega
    | false=>
     have hbi:((s[k].toNat:Int)==32)=false:=by rw[show(32:Int)=((32:Nat):Int)from rfl,q5w _ 32 (by decide)];exact hb
     have HN:Hid (y6s s w fr (k+1) dn A c wr):=by
      refine{b:=HR.o.b,le:=by omega,li:=hlt,ln:=hln,no:=fun j h h1 h2=>?_,eq:=HR.o.eq,ro:=HR.o.ro};by_cases hjk:j=k
      ·subst hjk;simpa using hb
      ·exact HR.o.no j h h1 (by omega)
     clear hb;go_wp2
     go_roundw
     case rel=>exact⟨fr,k+1,dn,A,c,rfl,rfl,by go_num,HN.o⟩
     case measure=>simp[intOf];omega
   ·obtain rfl:k=s.size:=by omega
    have hki:¬(s.size:Int)<(s.size:Int):=by omega
    have hsl:∀W:World,(Instr.slice 9 (.string s) (some ↑(fr:Int)) none none).run prog W=.ok (.string (wbS ((btL s).drop fr))) W:=fun W=>by
     have h:=run_slice_string_l (P:=prog) W 9 s Tryz.underlying9 .i64 (fr:Int) (by omega) (by omega);rw[Int.toNat_natCast,q9s,j7k]at h;exact h
    have HEQ:Hid (q0e (btL s)=dn++[(btL s).drop fr]):=by
     show _=_;rw[HE.o,HR.o.eq,k7n];have h1:=k6x hle hli HR.o.no;rw[j7k]at h1;exact h1
    generalize(btL s).drop fr=W at hsl HEQ
    go_wp2_with(at_builtin;refine wpList_append_lies _ rfl _ _ 58 rfl w.heap.size 9 i0 _ 1 16 Tryz.underlying58 hi0 hz0 hz1 hz2 rfl (by decide) _ _ _ rfl (World.ownsRow.alloc HR.o.ro _) wr.heap.size 1 1 [.string (wbS W)] rfl rfl (cell_one_new wr _ _) (by intro u hu;simp at hu;subst hu;rfl) (by decide) (by unfold maxLen;omega) (by omega) (by simp;omega) (wr.heap.size+1) (by simp) ?_);intro g2 cap2 w2 hown2 hgrow2 hat2 hlt2;have hb2:=(HR.o.b.alloc hsr (.cells #[.string (wbS W)] 9)).grown hgrow2 (by simp;omega) (fun j hj=>(World.ownsRow.lt HR.o.ro j hj).1)
    have hO:q2r w (.slice g2 (dn.length+1) cap2) ((dn++[W]).map wbS) w2:=by
     show w2.ownsRow _ _ _ _ _ _;rw[List.length_map,List.length_append,List.map_append,q2b];exact hown2
    have HO:=(show Hid (_)from hO);have HB2:=(show Hid (_)from hb2);clear hown2 hgrow2 hat2 hlt2 hO hb2;go_wp2;go_ret;rw[HEQ.o,List.length_append];exact⟨⟨some ↑g2,cap2,rfl,HO.o⟩,HB2.o⟩
end Go.Proofs.YthjapabokcajhaaGreatDoor
namespace Go.Proofs.YthjapabokcajhaaGreatDoor
open Go Go.RowKit
set_option maxRecDepth 100000
set_option maxHeartbeats 2000000
structure LwK where
 gw:Nat
 cw:Nat
 ga:Nat
 ca:Nat
structure Ry(K:LwK)(ws:List Wd)(pl:Nat->Nat)(b q:Nat)(w:World):Prop where
 le:q<=ws.length
 c0:w.cell? ⟨b,0,none⟩=some (.slice (some ⟨K.gw,q,none⟩) (ws.length+1-q) (K.cw-q))
 c1:w.cell? ⟨b,1,none⟩=some (.slice (some ⟨K.ga,q,none⟩) (ws.length+1-q) (K.ca-q))
 row:z9t w b 2
 wd:∀i,i<=ws.length->w.cell? ⟨K.gw,i,none⟩=some (.string (wbS (ws.getD i [])))
 pt:∀i,i<=ws.length->w.cell? ⟨K.ga,i,none⟩=some (.int .i64 (pl i:Int))
 nw:K.gw≠b
 na:K.ga≠b
 lw:ws.length<K.cw
 la:ws.length<K.ca
 few:ws.length<=60000
section
variable {K:LwK} {ws:List Wd} {pl:Nat→Nat} {b q:Nat} {w w':World}
theorem Ry.gwlt(h:Ry K ws pl b q w):K.gw<w.heap.size:=World.block_lt_of_cell? _ _ (h.wd 0 (Nat.zero_le _))
theorem Ry.galt(h:Ry K ws pl b q w):K.ga<w.heap.size:=World.block_lt_of_cell? _ _ (h.pt 0 (Nat.zero_le _))
theorem Ry.keepB{B:Nat}(h:Ry K ws pl b q w)(hb:Below B w w')(h1:b<B)(h2:K.gw<B)(h3:K.ga<B):Ry K ws pl b q w':=
 ⟨h.le,(hb.cell (p:=⟨b,0,none⟩) h1).trans h.c0,(hb.cell (p:=⟨b,1,none⟩) h1).trans h.c1,h.row.kept (hb.block b h1),fun i hi=>(hb.cell (p:=⟨K.gw,i,none⟩) h2).trans (h.wd i hi),fun i hi=>(hb.cell (p:=⟨K.ga,i,none⟩) h3).trans (h.pt i hi),h.nw,h.na,h.lw,h.la,h.few⟩
theorem Ry.keep(h:Ry K ws pl b q w)(hb:Below w w w'):Ry K ws pl b q w':=h.keepB hb h.row.lt h.gwlt h.galt
theorem Ry.step(h:Ry K ws pl b q w)(hq:q<ws.length){w':World}(hw':w'=(w.setCell b (.slice (some ↑(K.gw,q+1)) (ws.length-q) (K.cw-q-1))).setCell (b,1) (.slice (some ↑(K.ga,q+1)) (ws.length-q) (K.ca-q-1))):Ry K ws pl b (q+1) w':=by
 subst hw';have e1:ws.length+1-(q+1)=ws.length-q:=by omega
 refine⟨hq,?_,?_,h.row.set.set,fun i hi=>?_,fun i hi=>?_,h.nw,h.na,h.lw,h.la,h.few⟩
 ·rw[e1,Nat.sub_add_eq];exact(cso (.inr (by omega))).trans (css h.c0)
 ·rw[e1,Nat.sub_add_eq];exact css ((cso (.inr (by omega))).trans h.c1)
 ·exact(cso (.inl h.nw.symm)).trans ((cso (.inl h.nw.symm)).trans (h.wd i hi))
 ·exact(cso (.inl h.na.symm)).trans ((cso (.inl h.na.symm)).trans (h.pt i hi))
end
theorem q3v{ws:List Wd}{q:Nat}(h:q<ws.length):ws.getD q []=ws[q]:=by simp[h]
theorem q6r{ws:List Wd}{q:Nat}(h:ws.length<=q):ws.getD q []=[]:=by simp[h]
theorem q6k{K:LwK}{ws:List Wd}{pl:Nat->Nat}{b q:Nat}{w:World}(h:Ry K ws pl b q w):
  Calls prog 80 #[.pointer b] w fun e w'=>e=.returned (.string (wbS (ws.getD q [])))/\w'=w:=by
 have c0:=h.c0;have d0:=h.wd q h.le;generalize wbS (ws.getD q [])=S at d0⊢;have hn:0<ws.length+1-q:=by have:=h.le;omega
 generalize ws.length+1-q=n at c0 hn;generalize K.cw-q=c at c0;clear h;go_in;go_wp2;go_ret;exact⟨rfl,rfl⟩
theorem v4v(b o n c:Nat)(hn:1<=n)(hc:1<c)(W:World):
  (Instr.slice 58 (.slice (some ↑(b,o)) n c) (some (.int .i64 1)) none none).run prog W=.ok (.slice (some ↑(b,o+1)) (n-1) (c-1)) W:=by
 rw[run_slice_l W 58 _ n c Tryz.underlying58 .i64 1 (by omega) (by omega)];have hz:(sizeOf (prog.elem 58)).run prog W=.ok 1 W:=by kernel_rfl
 rw[hz];have ha:((b,o):Addr).add 1=(b,o+1):=rfl;have e2:¬c=1:=by omega
 simp[Result.andThen,sliced,ha,e2]
theorem v2p(b o n c:Nat)(hn:1<=n)(hc:1<c)(W:World):
  (Instr.slice 45 (.slice (some ↑(b,o)) n c) (some (.int .i64 1)) none none).run prog W=.ok (.slice (some ↑(b,o+1)) (n-1) (c-1)) W:=by
 rw[run_slice_l W 45 _ n c Tryz.underlying45 .i64 1 (by omega) (by omega)];have hz:(sizeOf (prog.elem 45)).run prog W=.ok 1 W:=by kernel_rfl
 rw[hz];have ha:((b,o):Addr).add 1=(b,o+1):=rfl;have e2:¬c=1:=by omega
 simp[Result.andThen,sliced,ha,e2]
theorem q8i{K:LwK}{ws:List Wd}{pl:Nat->Nat}{b q:Nat}{w:World}(h:Ry K ws pl b q w)(hq:q<ws.length):
  Calls prog 175 #[.pointer b] w fun e w'=>e=.returned (.string (wbS ws[q]))/\Ry K ws pl b (q+1) w'/\But w b w w':=by
 have c0:=h.c0;have c1:=h.c1;have d0:=h.wd q h.le;rw[q3v hq]at d0;have f0:w.frozen? b=false:=h.row.frozen;have f1:w.frozen? (b,1)=false:=h.row.frozen;have H:=(show Hid (_)from h);have lw:=h.lw;have la:=h.la;generalize wbS ws[q]=S at d0⊢;have HN1:Hid (ws.length+1-q-1=ws.length-q):=(show _=_ by omega);have hn:1<=ws.length+1-q:=by omega
 have s0:=v4v K.gw q (ws.length+1-q) (K.cw-q) hn (by omega);have s1:=v2p K.ga q (ws.length+1-q) (K.ca-q) hn (by omega);rw[HN1.o]at s0 s1;generalize ws.length+1-q=n at c0 c1 s0 s1 hn
 have HX:Hid (∀w',w'=(w.setCell b (.slice (some ↑(K.gw,q+1)) (ws.length-q) (K.cw-q-1))).setCell (b,1) (.slice (some ↑(K.ga,q+1)) (ws.length-q) (K.ca-q-1))->Ry K ws pl b (q+1) w'/\But w b w w'):=fun w' hw=>⟨H.o.step hq hw,by
  subst hw
  exact((But.refl _ _ _).setCell (p:=b) (.inl rfl) _).setCell (p:=(b,1)) (.inl rfl) _⟩
 generalize ws.length-q=m at s0 s1 HX;generalize K.cw-q=cw at c0 s0 HX;generalize K.ca-q=ca at c1 s1 HX;clear h lw la hq;go_in;go_wp2_with fail
 go_region
 go_wp2;go_ret;obtain⟨h1,h2⟩:=HX.o _ rfl;exact⟨rfl,h1.keep (Below.drew Zb),h2.drew⟩
abbrev q5h(k:Nat):PanicEntry:={v:=.iface 137 (.agg #[.int .i64 (k:Int)]),recovered:=false}
theorem k2q{K:LwK}{ws:List Wd}{pl:Nat->Nat}{b q:Nat}{w:World}(h:Ry K ws pl b q w):
  Calls prog 177 #[.pointer b] w fun e w'=>e=.panicked [q5h (pl q)]/\w'=w:=by
 have c1:=h.c1;have d0:=h.pt q h.le;have hn:0<ws.length+1-q:=by have:=h.le;omega
 generalize ws.length+1-q=n at c1 hn;generalize K.ca-q=c at c1;clear h;go_in;go_wp2;exact⟨rfl,rfl,rfl⟩
theorem z5n(s:Wd)(lo hi:Nat)(w:World)(h1:1<=lo):
  Calls prog 202 #[.string (wbS s),.int .u8 (lo:Int),.int .u8 (hi:Int)] w fun e w'=>e=.returned (.bool (decide (lo<=(s.headD 0).toNat)&&decide ((s.headD 0).toNat<=hi)))/\w'=w:=by
 cases s with
 | nil=>
  have h2:(decide (lo<=(([]:Wd).headD 0).toNat)&&decide ((([]:Wd).headD 0).toNat<=hi))=false:=by
   have:¬lo<=(([]:Wd).headD 0).toNat:=by show ¬lo<=0;omega
   simp only[decide_eq_false this,Bool.false_and]
  rw[h2];have e0:wbS []=⟨#[]⟩:=rfl;rw[e0];clear h2;go_in;go_wp2;go_ret;exact⟨rfl,rfl⟩
 | cons c r=>
  have hsz:0<(wbS (c::r)).size:=by rw[<-q0c];show 0<(c::r).length;simp
  have hat:∀h:0<(wbS (c::r)).size,(wbS (c::r))[0]=c:=fun _=>rfl
  have hne:¬(wbS (c::r)).toList=[]:=by rw[Lib.toList_data];show ¬(c::r)=[];simp
  have hne2:((wbS (c::r)).toList==[])=false:=by rw[Lib.toList_data];rfl
  have hnl:(⟨#[]⟩:ByteArray).toList=[]:=by rw[Lib.toList_data]
  show Calls _ _ _ _ fun e w'=>e=.returned (.bool (decide (lo<=c.toNat)&&decide (c.toNat<=hi)))/\w'=w
  have HR:Hid (∀(a b:Bool),a=decide ((lo:Int)<=(c.toNat:Int))->b=decide ((c.toNat:Int)<=(hi:Int))->(decide (lo<=c.toNat)&&decide (c.toNat<=hi))=(a&&b)):=fun a b ha hb=>by
   subst ha hb;have e1:decide ((lo:Int)<=(c.toNat:Int))=decide (lo<=c.toNat):=by congr 1;simp
   have e2:decide ((c.toNat:Int)<=(hi:Int))=decide (c.toNat<=hi):=by congr 1;simp
   rw[e1,e2]
  generalize(decide (lo<=c.toNat)&&decide (c.toNat<=hi))=R at HR⊢
  generalize wbS (c::r)=S at hsz hat hne hne2⊢;have hat0:=hat hsz;clear hat;by_cases g1:(lo:Int)<=(c.toNat:Int)
  ·by_cases g2:(c.toNat:Int)<=(hi:Int)
   ·have hr:=HR.o true true (decide_eq_true g1).symm (decide_eq_true g2).symm;simp only[Bool.and_self]at hr;subst hr;go_in;go_wp2;go_ret;exact⟨rfl,rfl⟩
   ·have hr:=HR.o true false (decide_eq_true g1).symm (decide_eq_false g2).symm;simp only[Bool.and_false]at hr;subst hr;go_in;go_wp2;go_ret;exact⟨rfl,rfl⟩
  ·have hr:=HR.o false (decide ((c.toNat:Int)<=(hi:Int))) (decide_eq_false g1).symm rfl;simp only[Bool.false_and]at hr;subst hr;go_in;go_wp2;go_ret;exact⟨rfl,rfl⟩
theorem j0t(s:Wd)(w:World):Calls prog 227 #[.string (wbS s)] w fun e w'=>e=.returned (.bool (z0k s))/\w'=w:=by
 have HB:Hid (∀W,Calls prog 202 #[.string (wbS s),.int .u8 48,.int .u8 57] W fun e w'=>e=.returned (.bool (z0k s))/\w'=W):=fun W=>z5n s 48 57 W (by omega)
 generalize z0k s=R at HB⊢;go_in;go_wp2_with fail;refine(HB.o _).mono ?_;rintro e w1⟨rfl,rfl⟩;go_wp2;go_ret;exact⟨rfl,rfl⟩
theorem y4q:nmW z1w=false:=by decide
theorem k5j(s:Wd)(hs:s=[]\/q3k s)(w:World):Calls prog 176 #[.string (wbS s)] w fun e w'=>e=.returned (.bool (nmW s))/\w'=w:=by
 by_cases hl:s=z1w
 ·subst hl;rw[y4q];have e0:wbS z1w=⟨#[108,101,116]⟩:=rfl;rw[e0];clear hs;go_in;go_wp2;go_ret;exact⟨rfl,rfl⟩
 ·have hn:nmW s=q2j (s.headD 0):=by
   rcases hs with rfl|hs
   ·decide
   ·rw[v5i hs];simp[hl]
  rw[hn];have HB:Hid (∀W,Calls prog 202 #[.string (wbS s),.int .u8 97,.int .u8 122] W fun e w'=>e=.returned (.bool (q2j (s.headD 0)))/\w'=W):=fun W=>z5n s 97 122 W (by omega)
  have hne2:((wbS s).toList==[108,101,116])=false:=by
   rw[Lib.toList_data]
   show(s==[108,101,116])=false
   simpa using hl
  have hne:¬(wbS s).toList=[108,101,116]:=by
   intro e;rw[e]at hne2;cases hne2
  have hlt:(⟨#[108,101,116]⟩:ByteArray).toList=[108,101,116]:=by rw[Lib.toList_data]
  generalize q2j (s.headD 0)=R at HB⊢;generalize wbS s=S at HB hne hne2⊢;clear hs hn hl;go_in;go_wp2_with fail;refine(HB.o _).mono ?_;rintro e w1⟨rfl,rfl⟩;go_wp2;go_ret;exact⟨rfl,rfl⟩
theorem z5q(s:Wd)(w:World):Calls prog 125 #[.string (wbS s)] w fun e w'=>e=.returned (.bool (decide (s.headD 0=35)))/\w'=w:=by
 have HB:Hid (∀W,Calls prog 144 #[.string (wbS s),.string ⟨#[35]⟩] W fun e w'=>e=.returned (.bool (decide (s.headD 0=35)))/\w'=W):=fun W=>by
  have h:=hasPrefix_sh (wbS s) ⟨#[35]⟩ W
  have e1:Lib.hasPrefix (wbS s).data.toList (⟨#[35]⟩:ByteArray).data.toList=decide (s.headD 0=35):=by
   show Lib.hasPrefix s [35]=_;cases s with
   | nil=>decide
   | cons c r=>
    show([35]:Wd).isPrefixOf (c::r)=decide (c=35)
    simp only[List.isPrefixOf,Bool.and_true];rw[Bool.eq_iff_iff,beq_iff_eq,decide_eq_true_eq];exact⟨Eq.symm,Eq.symm⟩
  rw[e1]at h;exact h
 generalize decide (s.headD 0=35)=R at HB⊢;go_in;go_wp2_with fail;refine(HB.o _).mono ?_;rintro e w1⟨rfl,rfl⟩;go_wp2;go_ret;exact⟨rfl,rfl⟩
section
variable {K:LwK} {ws:List Wd} {pl:Nat→Nat} {b q:Nat} {w:World}
theorem y5x(a c:Wd):((wbS a).toList==(wbS c).toList)=(a==c):=by
 rw[Lib.toList_data,Lib.toList_data];rfl
theorem q5m(h:Ry K ws pl b q w)(s:Wd)(hs:ws[q]?=some s):
  Calls prog 127 #[.pointer b,.string (wbS s)] w fun e w'=>e=.returned (.bool true)/\Ry K ws pl b (q+1) w'/\But w b w w':=by
 obtain⟨hq,he⟩:=List.getElem?_eq_some_iff.1 hs
 have HW:Hid (Calls prog 80 #[.pointer b] w fun e w'=>e=.returned (.string (wbS s))/\w'=w):=by
  have h1:=q6k h;rw[q3v hq,he]at h1;exact h1
 have HN:Hid (Calls prog 175 #[.pointer b] w fun e w'=>e=.returned (.string (wbS s))/\Ry K ws pl b (q+1) w'/\But w b w w'):=by
  have h1:=q8i h hq;rw[he]at h1;exact h1
 have hb:((wbS s).toList==(wbS s).toList)=true:=by simp
 generalize wbS s=S at HW HN hb⊢;clear h hs hq he;go_in;go_wp2_with fail;refine HW.o.mono ?_;rintro e w1⟨rfl,rfl⟩;go_wp2_with fail;refine HN.o.mono ?_;rintro e w2⟨rfl,h2,b2⟩;have K2:=(show Hid (_)from And.intro h2 b2);clear h2 b2;go_wp2;go_ret;exact⟨rfl,K2.o⟩
theorem q7i(h:Ry K ws pl b q w)(s:Wd)(h0:s≠[])(hs:ws[q]?≠some s):
  Calls prog 127 #[.pointer b,.string (wbS s)] w fun e w'=>e=.returned (.bool false)/\w'=w:=by
 have HW:Hid (Calls prog 80 #[.pointer b] w fun e w'=>e=.returned (.string (wbS (ws.getD q [])))/\w'=w):=q6k h
 have hb:((wbS (ws.getD q [])).toList==(wbS s).toList)=false:=by
  rw[y5x];by_cases hq:q<ws.length
  ·rw[q3v hq];rw[List.getElem?_eq_getElem hq]at hs;simpa using hs
  ·rw[q6r (by omega)];cases s with
   | nil=>exact absurd rfl h0
   | cons=>rfl
 have hb2:¬(wbS (ws.getD q [])).toList=(wbS s).toList:=by
  intro e;rw[e]at hb;simp at hb
 generalize wbS (ws.getD q [])=X at HW hb hb2;generalize wbS s=S at hb hb2⊢;clear h hs h0;go_in;go_wp2_with fail;refine HW.o.mono ?_;rintro e w1⟨rfl,rfl⟩;go_wp2;go_ret;exact⟨rfl,rfl⟩
theorem q6j(h:Ry K ws pl b q w)(s:Wd)(hs:ws[q]?=some s):
  Calls prog 129 #[.pointer b,.string (wbS s)] w fun e w'=>e=.returned (.tuple #[])/\Ry K ws pl b (q+1) w'/\But w b w w':=by
 have HH:Hid (Calls prog 127 #[.pointer b,.string (wbS s)] w fun e w'=>e=.returned (.bool true)/\Ry K ws pl b (q+1) w'/\But w b w w'):=q5m h s hs;generalize wbS s=S at HH⊢;clear h hs;go_in;go_wp2_with fail;refine HH.o.mono ?_;rintro e w2⟨rfl,h2,b2⟩;have K2:=(show Hid (_)from And.intro h2 b2);clear h2 b2;go_wp2
 go_end0
 exact⟨rfl,K2.o⟩
theorem q7j(h:Ry K ws pl b q w)(s:Wd)(h0:s≠[])(hs:ws[q]?≠some s):
  Calls prog 129 #[.pointer b,.string (wbS s)] w fun e w'=>e=.panicked [q5h (pl q)]/\w'=w:=by
 have HH:Hid (Calls prog 127 #[.pointer b,.string (wbS s)] w fun e w'=>e=.returned (.bool false)/\w'=w):=q7i h s h0 hs;have HF:Hid (Calls prog 177 #[.pointer b] w fun e w'=>e=.panicked [q5h (pl q)]/\w'=w):=k2q h;generalize wbS s=S at HH⊢;clear h hs h0;go_in;go_wp2_with fail;refine HH.o.mono ?_;rintro e w2⟨rfl,rfl⟩;go_wp2_with fail;refine HF.o.mono ?_;rintro e w2⟨rfl,rfl⟩;go_wp2;exact⟨rfl,rfl,rfl⟩
end
end Go.Proofs.YthjapabokcajhaaGreatDoor
namespace Go.Proofs.YthjapabokcajhaaGreatDoor
open Go Go.RowKit
set_option maxRecDepth 100000
def q1g(ds:List Td):List Value:=ds.flatMap fun x=>[.int .i64 x.op,.string x.tx,.int .i64 x.n]
theorem q7d:∀ds:List Td,(q1g ds).length=ds.length*3
 | []=>rfl
 | x::r=>by
  have:=q7d r
  unfold q1g at this⊢;rw[List.flatMap_cons,List.length_append,this,List.length_cons];simp;omega
theorem z5a(a b:List Td):q1g (a++b)=q1g a++q1g b:=by simp[q1g,List.flatMap_append]
theorem z2g:∀(ds:List Td)(i:Nat)(h:i<ds.length),(q1g ds)[i*3]?=some (.int .i64 ds[i].op)/\(q1g ds)[i*3+1]?=some (.string ds[i].tx)/\(q1g ds)[i*3+2]?=some (.int .i64 ds[i].n)
 | x::r,0,_=>by simp[q1g]
 | x::r,i+1,h=>by
  have h1:=z2g r i (by simpa using h);have e:q1g (x::r)=.int .i64 x.op::.string x.tx::.int .i64 x.n::q1g r:=by simp[q1g]
  rw[e,show(i+1)*3=i*3+1+1+1 by omega];exact h1
theorem z5b(ds:List Td):∀u∈q1g ds,u.oneCell'=true:=by
 intro u hu;obtain⟨x,_,hx⟩:=List.mem_flatMap.1 hu;simp at hx;rcases hx with rfl|rfl|rfl<;>rfl
theorem k5a(ds:List Td)(j:Nat)(u:Value)(h:(q1g ds)[j]?=some u):∃i,∃hi:i<ds.length,(j=i*3/\u=ds[i].op)\/(j=i*3+1/\u=.string ds[i].tx)\/(j=i*3+2/\u=ds[i].n):=by
 have hj:j<ds.length*3:=by rw[<-q7d];exact(List.getElem?_eq_some_iff.1 h).1
 have hi:j / 3<ds.length:=by omega
 obtain⟨h0,h1,h2⟩:=z2g ds (j / 3) hi;refine⟨j / 3,hi,?_⟩;have h3:j=j / 3*3\/j=j / 3*3+1\/j=j / 3*3+2:=by omega
 rcases h3 with e|e|e
 ·rw[<-e,h]at h0;exact .inl ⟨e,Option.some.inj h0⟩
 ·rw[<-e,h]at h1;exact .inr (.inl ⟨e,Option.some.inj h1⟩)
 ·rw[<-e,h]at h2;exact .inr (.inr ⟨e,Option.some.inj h2⟩)
theorem j9c:(prog.info? 47).map (fun i=>(i.zero,i.size,i.bytes))=some (some (.agg #[.int .i64 0,.string ⟨#[]⟩,.int .i64 0]),3,32):=by kernel_rfl
theorem z4p{B:Nat}{w:World}{a:Option Addr}{n cap:Nat}{ds:List Td}(h:w.ownsRow B 47 3 (.slice a n cap) ds.length (q1g ds)):n=ds.length/\ds.length<=cap/\Tds w a ds:=by
 rcases h.2 with⟨hv,h0⟩|⟨g,c,cur,hv,_,hg,hnc,_,hsz,htake⟩
 ·simp only[Value.slice.injEq]at hv;obtain⟨rfl,rfl,rfl⟩:=hv;refine⟨h0.symm,by omega,fun i hi=>?_⟩;omega
 ·simp only[Value.slice.injEq]at hv;obtain⟨rfl,rfl,rfl⟩:=hv;refine⟨rfl,hnc,fun i hi=>?_⟩
  have hlt:g<w.heap.size:=by
   rcases Nat.lt_or_ge g w.heap.size with h'|h'
   ·exact h'
   ·simp[Array.getElem?_eq_none h']at hg
  have hcell:∀k u,(q1g ds)[k]?=some u->w.cell? ⟨g,k,none⟩=some u:=by
   intro k u hk;rw[<-htake]at hk
   have hk2:k<ds.length*3:=by
    have:=(List.getElem?_eq_some_iff.1 hk).1
    simp at this;omega
   rw[List.getElem?_take_of_lt hk2]at hk;simp only[World.cell?,hg];simpa using hk
  obtain⟨h0,h1,h2⟩:=z2g ds i hi;refine⟨g,0,rfl,hlt,?_,?_,?_⟩
  ·rw[Nat.zero_add];exact hcell _ _ h0
  ·rw[Nat.zero_add];exact hcell _ _ h1
  ·rw[Nat.zero_add];exact hcell _ _ h2
theorem k7q{w:World}{b o:Nat}{ds:List Td}(h:Tds w (some ↑(b,o)) ds):∀j u,(q1g ds)[j]?=some u->w.cell? (((b,o):Addr).add j)=some u:=by
 intro j u hj;obtain⟨i,hi,hc⟩:=k5a ds j u hj;obtain⟨b',o',e,_,c1,c2,c3⟩:=h i hi;simp only[Option.some.injEq,Addr.mk.injEq,and_true]at e;obtain⟨rfl,rfl⟩:=e
 have ha:∀k,((b,o):Addr).add k=(b,o+k):=by
  intro k;unfold Addr.add
  split
  ·rename_i h;subst h;rfl
  ·rfl
 rw[ha];rcases hc with⟨rfl,rfl⟩|⟨rfl,rfl⟩|⟨rfl,rfl⟩
 ·exact c1
 ·rw[show o+(i*3+1)=o+i*3+1 by omega];exact c2
 ·rw[show o+(i*3+2)=o+i*3+2 by omega];exact c3
def q0x(B:Nat)(v:Value)(xs:List Td)(w:World):Prop:=w.ownsRow B 47 3 v xs.length (q1g xs)
theorem q0x.tds{B:Nat}{w:World}{A:Option Addr}{n c:Nat}{xs:List Td}(h:q0x B (.slice A n c) xs w):Tds w A xs:=(z4p h).2.2
theorem q0x.none{B:Nat}{w:World}{A:Option Addr}{n c:Nat}{xs:List Td}(h:q0x B (.slice A n c) xs w):n=xs.length/\(A=none->n=0/\c=0):=by
 rcases h.2 with⟨hv,h0⟩|⟨g,c',cur,hv,_⟩
 ·simp only[Value.slice.injEq]at hv;obtain⟨rfl,rfl,rfl⟩:=hv;exact⟨h0.symm,fun _=>⟨rfl,rfl⟩⟩
 ·simp only[Value.slice.injEq]at hv;obtain⟨rfl,rfl,rfl⟩:=hv;exact⟨rfl,fun e=>by cases e⟩
theorem q2y{w:World}{ops:Array Oper}{rest:List Oper}{o:Oper}{a:Act}{Q:Exit->Act->World->Prop}(hgd:o.guard=none)(s x:Operand)
  (ho:o.op=.call {callee:=.builtin .append,args:=#[s,x],argTypes:=#[22,22]})
  (base:Nat) (v:Value) (xs:List Td) (hs:a.eval s=v) (hown:q0x base v xs w)
  (wa:Option Addr) (n:Nat) (ws:List Td) (hn:ws.length=n) (wc:Nat) (hx:a.eval x=.slice wa n wc) (hW:Tds w wa ws) (hnil:wa=none->n=0/\wc=0)
  (m:Nat) (hm:xs.length+n=m) (hb:m<=1000000) (hbase:base<=w.heap.size)
  (h:∀A c w',q0x base (.slice A m c) (xs++ws) w'->w.grownBy w' v.ownBlock->wpList prog ops Q rest (a.put o.dst (.slice A m c)) w'):wpList prog ops Q (o::rest) a w:=by
 subst hn hm;obtain⟨i0,hi,hz0,hz1,hz2⟩:=info_parts j9c
 have h':∀v' w',q0x base v' (xs++ws) w'->w.grownBy w' v.ownBlock->wpList prog ops Q rest (a.put o.dst v') w':=by
  intro v' w' h1 h2
  obtain⟨A,c,rfl⟩:∃A c,v'=.slice A (xs.length+ws.length) c:=by
   rcases h1.2 with⟨hv,h0⟩|⟨g,c,cur,hv,_⟩
   ·rw[List.length_append]at h0;exact⟨.none,0,by rw[hv,h0]⟩
   ·rw[List.length_append]at hv;exact⟨_,c,hv⟩
  exact h A c w' h1 h2
 cases wa with
 | none=>
  obtain⟨h0,rfl⟩:=hnil rfl;obtain rfl:ws=[]:=List.eq_nil_of_length_eq_zero h0;refine wpList_append_own_none hgd s x 22 ho base 47 i0 3 Tryz.underlying22 hi v xs.length (q1g xs) hs hown hx ?_;refine h' v w ?_ ⟨rfl,rfl,rfl,Nat.le_refl _,fun _ _ _=>rfl⟩;rw[List.append_nil];exact hown
 | some ad=>
  have hsp:ws=[]\/∃b o,ad=⟨b,o,Option.none⟩:=by
   rcases Nat.eq_zero_or_pos ws.length with h0|h0
   ·exact .inl (List.eq_nil_of_length_eq_zero h0)
   ·obtain⟨b,o,e,_⟩:=hW 0 h0;exact .inr ⟨b,o,by simpa using e⟩
  refine wpList_append_own w hgd s x 22 ho base 47 i0 _ 3 32 Tryz.underlying22 hi hz0 hz1 hz2 rfl (by decide) v xs.length (q1g xs) hs hown ad ws.length wc (q1g ws) hx (q7d ws) ?_ (z5b ws) (by unfold maxLen;omega) (by omega) hbase ?_
  ·rcases hsp with rfl|⟨b,o,rfl⟩
   ·intro j u hj;simp[q1g]at hj
   ·exact k7q hW
  ·intro v' w' h1 h2 _;rw[<-z5a]at h1;refine h' v' w' ?_ h2;show w'.ownsRow _ _ _ _ _ _;rw[List.length_append];exact h1
theorem q0x.down{B B':Nat}{v:Value}{xs:List Td}{w:World}(h:q0x B v xs w)(hB:B'<=B):q0x B' v xs w:=by
 refine⟨h.1,?_⟩;rcases h.2 with h0|⟨g,c,cur,hv,hg,rest⟩
 ·exact .inl h0
 ·exact .inr ⟨g,c,cur,hv,by omega,rest⟩
theorem q0x.kept{B:Nat}{v:Value}{xs:List Td}{w w':World}(h:q0x B v xs w)(hk:∀g,B<=g->g<w.heap.size->w'.heap[g]?=w.heap[g]?):q0x B v xs w':=by
 refine⟨h.1,?_⟩;rcases h.2 with h0|⟨g,c,cur,hv,hB,hg,rest⟩
 ·exact .inl h0
 ·exact .inr ⟨g,c,cur,hv,hB,(hk g hB (Array.getElem?_eq_some_iff.1 hg).1).trans hg,rest⟩
theorem q0x.one(w:World)(x:Td):q0x w (.slice (some ⟨w.heap.size,0,Option.none⟩) 1 1) [x] (w.alloc (.cells #[x.op,.string x.tx,x.n] 47)):=by
 have h1:(w.alloc (.cells #[x.op,.string x.tx,x.n] 47)).heap[w.heap.size]?=some (.cells #[x.op,.string x.tx,x.n] 47 (0,0)):=by
  show(w.heap.push _)[w.heap.size]?=_
  simp
 exact⟨rfl,.inr ⟨w.heap.size,1,_,rfl,Nat.le_refl _,h1,Nat.le_refl _,by unfold maxLen;decide,rfl,rfl⟩⟩
end Go.Proofs.YthjapabokcajhaaGreatDoor
