import Derived.Test.YthcpdohdppkmkaaGreatDoorPu06
import Derived.Test.YthcpdohdppkmkaaGreatDoorPu07
import Derived.Test.YthcpdohdppkmkaaGreatDoorShf
import Derived.Lib.Split
import Derived.Laws.Strings2
open Go.Proofs.Tryz
namespace Go.Proofs.YthcpdohdppkmkaaGreatDoor
open Go Go.RowKit
set_option maxRecDepth 100000
set_option maxHeartbeats 4000000
theorem q8m(s:ByteArray)(w:World)(h:s.size<=281474976710656):
  Calls prog 51 #[.string s] w fun e w'=>e=.returned (.string s)/\Below w w w':=by
 go_in;go_wp2_with fail;refine(clone_sh s _ h).mono ?_;rintro e w2⟨rfl,hb⟩;go_wp2;go_ret;exact⟨rfl,hb⟩
theorem y2u(c:UInt8):(btL (⟨#[32,10]⟩:ByteArray)).any (·==c)=spB c:=by
 show((32==c)||((10==c)||false))=(c==32||c==10)
 rw[Bool.or_false,BEq.comm (a:=(32:UInt8)),BEq.comm (a:=(10:UInt8))]
theorem q4l.later{s:ByteArray}{w:World}{i:Nat}{dn:List (Nat × List UInt8)}{A P:Option Addr}{ac pc:Nat}{wr wr':World}(h:q4l s w i dn A P ac pc wr)(hb:Below wr wr wr'):q4l s w i dn A P ac pc wr':=
 {b:=h.b.trans (hb.mono h.b.size),le:=h.le,ln:=h.ln,eq:=h.eq,ws:=q2r h.ws hb,ps:=q2r h.ps hb}
theorem g0d{s:ByteArray}{k:Nat}(h:k<s.size):0<(s.extract k s.size).size/\∀h0:0<(s.extract k s.size).size,(s.extract k s.size)[0]=s[k]:=by
 have h1:0<(s.extract k s.size).size:=by rw[ByteArray.size_extract];omega
 refine⟨h1,fun h0=>?_⟩;have e1:=q6n h0;rw[k9v,q2c h,List.cons.injEq]at e1;exact e1.1.symm
theorem j9t{s:ByteArray}{k:Nat}(h:k<s.size)(hs:s.size<=60000)(hsp:spB s[k]=false)(W:World):
  Calls prog 50 #[.string (s.extract k s.size)] W fun e w'=>e=.returned (.tuple #[.string (wbS (tkW ((btL s).drop k))),.bool (tOk s k)])/\Below W W w':=by
 obtain⟨h1,h2⟩:=g0d h
 have:=j7x (s.extract k s.size) W h1 (by rw[ByteArray.size_extract];omega) (by rw[h2 h1];exact hsp)
 unfold z1u at this;rw[k9v]at this;exact this
theorem y8q{l:List UInt8}{c:UInt8}{z:List UInt8}(h:l=c::z)(h0:0<(wbS l).size):(wbS l)[0]=c:=by
 subst h;rfl
theorem v3z{s:ByteArray}{k:Nat}(h:k<s.size)(hsp:spB s[k]=false):0<(wbS (tkW ((btL s).drop k))).size/\∀h0:0<(wbS (tkW ((btL s).drop k))).size,(wbS (tkW ((btL s).drop k)))[0]=s[k]:=by
 have h1:∃z,tkW ((btL s).drop k)=s[k]::z:=by
  rw[tkW,q2c h];have hp:=q5a s[k] ((btL s).drop (k+1));obtain⟨m,hm⟩:∃m,q0t (s[k]::(btL s).drop (k+1))=m+1:=⟨_,(Nat.sub_add_cancel hp).symm⟩;rw[hm,List.take_succ_cons];exact z2y (j3u hsp) _
 obtain⟨z,hz⟩:=h1;exact⟨by rw[q4b,hz];simp,fun h0=>y8q hz h0⟩
theorem q4l.next{s:ByteArray}{w:World}{i:Nat}{dn:List (Nat × List UInt8)}{A P:Option Addr}{ac pc:Nat}{wr:World}(h:q4l s w i dn A P ac pc wr)(hi:i<s.size)(hs:spB s[i]=false)(ho:tOk s i=true){A' P':Option Addr}{ac' pc':Nat}{w':World}(hb:Below w w w')
  (h1:w'.ownsRow w.heap.size 9 1 (.slice A' (dn.length+1) ac') (dn.length+1) (strCells (dn.map fun x=>wbS x.2)++[.string (wbS (tkW ((btL s).drop i)))])) (h2:w'.ownsRow w.heap.size 3 1 (.slice P' (dn.length+1) pc') (dn.length+1) (q2f (dn.map (·.1))++[.int .i64 (i:Int)])):
  q4l s w (i+(tkW ((btL s).drop i)).length) (dn++[(i,tkW ((btL s).drop i))]) A' P' ac' pc' w':=by
 have hn:=h.word hi hs ho hb h1 h2
 have hp:1<=(tkW ((btL s).drop i)).length:=by
  rw[tOk,q2c hi]at ho;rw[q2c hi];exact y8h hs ho
 have hle:(tkW ((btL s).drop i)).length+i<=s.size:=by
  have:=z2x ((btL s).drop i)
  rw[List.length_drop,q0b]at this;omega
 have e:=hn.eq;have es:=v7v ((btL s).drop i) i;rw[List.drop_drop,List.drop_drop]at es;refine{b:=hn.b,le:=by omega,ln:=by have:=h.ln;simp;omega,eq:=?_,ws:=hn.ws,ps:=hn.ps};rw[e,lxW,lxF,lxW,lxF,es];rfl
theorem j0y{w:World}{B B' e size n:Nat}{v:Value}{xs:List Value}(h:w.ownsRow B e size v n xs)(hB:B'<=B):w.ownsRow B' e size v n xs:=by
 refine⟨h.1,?_⟩;rcases h.2 with h0|⟨g,c,cur,hv,hg,rest⟩
 ·exact .inl h0
 ·exact .inr ⟨g,c,cur,hv,by omega,rest⟩
def q9x(s:ByteArray)(w:World)(e:Ending)(w':World):Prop:=
 (q4s (btL s)≠0/\e=.returned (.tuple #[.slice none 0 0,.slice none 0 0,.int .i64 ((k1l (btL s):Nat):Int),q0s (q4s (btL s))]))\/
 (q4s (btL s)=0/\∃A P ac pc,e=.returned (.tuple #[.slice A (q1d (btL s)).length ac,.slice P (q1d (btL s)).length pc,.int .i64 0,.nilIface])/\q1j w (.slice A (q1d (btL s)).length ac) ((q1d (btL s)).map wbS) w'/\z1w w.heap.size (.slice P (q1d (btL s)).length pc) (z8a (btL s)) w')
theorem q9x.res{s:ByteArray}{w:World}{e:Ending}{w':World}(h:q9x s w e w'):k9b s e w':=by
 rcases h with h|⟨h0,A,P,ac,pc,he,h1,h2⟩
 ·exact .inl h
 ·exact .inr ⟨h0,A,P,ac,pc,he,y8m h1 h2⟩
theorem k8v(s:ByteArray)(w:World)(hl:(btL s).length<=60000):Calls prog 19 #[.string s] w fun e w'=>q9x s w e w'/\Below w w w':=by
 have hsz:s.size<=60000:=by rw[<-q0b];exact hl
 clear hl;have hszi:¬60000<(s.size:Int):=by omega
 go_in;go_wp2_with fail;refine(k3t _ _).mono ?_;rintro e w1⟨rfl,hw1⟩;have HO:Hid (z1x w1 w.heap.size ⟨#[32,10]⟩):=by rw[hw1];exact z1x.new _ _
 have HB1:Hid (Below w w w1):=by rw[hw1];exact Zb.alloc Zl _
 have hs1:=HO.o.1;generalize hbk:w.heap.size=bk at HO HB1 hs1⊢;have HBK:Hid (w.heap.size=bk):=hbk;clear hw1 hbk;go_wp2_with fail
 go_loopw [2,3,7,8] (fun x p m i wr=>∃(k:Nat)(dn:List (Nat × List UInt8))(A P:Option Addr)(ac pc:Nat),x=.slice A dn.length ac/\p=.slice P dn.length pc/\m=.int .i64 ((many (dn.map (·.2)):Nat):Int)/\i=.int .i64 (k:Int)/\q4l s w1 k dn A P ac pc wr) (fun _ _ _ i _=>s.size-(intOf i).toNat)
 case atStart=>exact⟨0,[],none,none,0,0,rfl,rfl,rfl,rfl,{b:=Below.refl _ _,le:=Nat.zero_le _,ln:=Nat.le_refl _,eq:=rfl,ws:=World.ownsRow_nil _ _ _ _,ps:=World.ownsRow_nil _ _ _ _}⟩
 case round=>
  obtain⟨k,dn,A,P,ac,pc,rfl,rfl,rfl,rfl,hR⟩:=hrel;have HR:Hid (q4l s w1 k dn A P ac pc wr):=hR;have HOr:Hid (z1x wr bk ⟨#[32,10]⟩):=HO.o.W hs1 hR.b;have HBr:Hid (Below bk w wr):=HB1.o.trans (hR.b.mono (Nat.le_of_lt hs1));have hle:=hR.le;have hln:=hR.ln
  have hmn:many (dn.map (·.2))<=60000:=by
   have h1:many (dn.map (·.2))<=(dn.map (·.2)).length:=List.length_filter_le _ _;rw[List.length_map]at h1;omega
  clear hR;generalize hmm:many (dn.map (·.2))=mm at hmn;have HMM:Hid (many (dn.map (·.2))=mm):=hmm;clear hmm;by_cases hlt:k<s.size
  ·have hki:(k:Int)<(s.size:Int):=by omega
   cases hs:spB s[k]with
   | true=>
    have HN:Hid (q4l s w1 (k+1) dn A P ac pc wr):=HR.o.space hlt hs;have HP:=(show Hid (_=_)from y2u s[k]);go_wp2_with fail;refine(q8r s[k] HOr.o).mono ?_;rintro e w2⟨rfl,rfl⟩;rw[HP.o,hs];clear hs;go_wp2
    go_roundw
    case rel=>exact⟨k+1,dn,A,P,ac,pc,rfl,rfl,by rw[HMM.o],by go_num,HN.o⟩
    case measure=>simp[intOf];omega
   | false=>
    have HP:=(show Hid (_=_)from y2u s[k]);have HS:Hid (spB s[k]=false):=hs;have hkm:(k:Int)<=(s.size:Int):=by omega
    clear hs;go_wp2_with fail;refine(q8r s[k] HOr.o).mono ?_;rintro e w2⟨rfl,rfl⟩;rw[HP.o,HS.o];go_wp2_with fail;refine(j9t hlt hsz HS.o _).mono ?_;rintro e w2⟨rfl,hb2⟩;have HR2:Hid (q4l s w1 k dn A P ac pc w2):=HR.o.later hb2;have HB2:Hid (Below bk w w2):=HB1.o.trans (HR2.o.b.mono (Nat.le_of_lt hs1));clear HR HBr HOr hb2;cases hok:tOk s k with
    | false=>
     have HF:Hid (q4s (btL s)=5/\k1l (btL s)=k):=v7i (by rw[q0b];exact hsz) (j9o HR2.o hlt HS.o hok);generalize hu:wbS (tkW ((btL s).drop k))=u;clear hok hu;go_wp2;refine bodyPost_ret (v:=.tuple #[.slice none 0 0,.slice none 0 0,.int .i64 (k:Int),.iface 22 (.int .i64 5)]) (by simp[results,Tryz.results19,go_sem]) rfl ?_;exact⟨.inl ⟨by rw[HF.o.1];decide,by rw[HF.o.1,HF.o.2,y1m]⟩,by rw[HBK.o];exact HB2.o⟩
    | true=>
     have HOK:Hid (tOk s k=true):=hok;obtain⟨hu0,hu1⟩:=v3z hlt HS.o
     have hus:(wbS (tkW ((btL s).drop k))).size+k<=s.size:=by
      have:=z2x ((btL s).drop k)
      rw[List.length_drop,q0b]at this;rw[q4b];omega
     have HMY:Hid (many (dn.map (·.2)++[tkW ((btL s).drop k)])=mm+(if s[k] != 35 then 1 else 0)):=by
      show _=_;rw[z0t,HMM.o,v7y hlt HS.o]
     have HUZ:Hid ((tkW ((btL s).drop k)).length=(wbS (tkW ((btL s).drop k))).size):=(q4b _).symm;generalize hW:tkW ((btL s).drop k)=W at HMY HUZ hu0 hu1 hus⊢;have HW:Hid (tkW ((btL s).drop k)=W):=hW;generalize hu:wbS W=u at HUZ hu0 hu1 hus⊢;have HU:Hid (wbS W=u):=hu;have hu0i:(0:Int)<(u.size:Int):=by omega
     clear hok hW hu;cases hn:(s[k] != 35)with
     | true=>
      have hni:((u[0].toNat:Int) != 35)=true:=by
       rw[hu1 hu0]
       show(!((s[k].toNat:Int)==35))=true
       rw[show(35:Int)=((35:Nat):Int)from rfl,j4p _ 35 (by decide)];exact hn
      have HMW:Hid (many ((dn++[(k,W)]).map (·.2))=mm+1):=by
       show _=_;rw[List.map_append]
       have:=HMY.o
       rw[hn]at this;exact this
      clear hn hu1 HMY;go_wp2_with fail;refine(q8m u _ (by omega)).mono ?_;rintro e w3⟨rfl,hb3⟩;have HR3:Hid (q4l s w1 k dn A P ac pc w3):=HR2.o.later hb3;have hsr:=HR3.o.b.size;clear HR2 HB2 hb3;obtain⟨i0,hi0,hz0,hz1,hz2⟩:=info_parts z3g;go_wp2_with(at_builtin;refine wpList_append_lies _ rfl _ _ 42 rfl w1.heap.size 9 i0 _ 1 16 Tryz.underlying42 hi0 hz0 hz1 hz2 rfl (by decide) _ _ _ rfl (World.ownsRow.alloc HR3.o.ws _) ⟨w3,0,none⟩ 1 1 [.string u] rfl rfl (cell_one_new w3 _ _) (by intro u hu;simp at hu;subst hu;rfl) (by decide) (by unfold maxLen;omega) (by omega) (by simp;omega) (w3.heap.size+1) (by simp) ?_);intro g2 cap2 w4 hown2 hgrow2 hat2 hlt2;have hb2:=(HR3.o.b.alloc (by omega) (.cells #[.string u] 9)).grown hgrow2 (by simp;omega) (fun j hj=>(World.ownsRow.lt HR3.o.ws j hj).1);have HB2:=(show Hid (Below _ _ _)from hb2);have HP2:Hid (w4.ownsRow w1.heap.size 3 1 (.slice P dn.length pc) dn.length (q2f (dn.map (·.1)))):=k0g (World.ownsRow.alloc HR3.o.ps _) (World.ownsRow.alloc HR3.o.ws _) (by decide) hgrow2;have HW2:=(show Hid (w4.ownsRow _ _ _ _ _ _)from hown2);have hs2:=hb2.size;clear hown2 hgrow2 hb2 hat2 hlt2;obtain⟨i1,hi1,hy0,hy1,hy2⟩:=info_parts z7k;go_wp2_with(at_builtin;refine wpList_append_lies _ rfl _ _ 43 rfl w1.heap.size 3 i1 _ 1 8 Tryz.underlying43 hi1 hy0 hy1 hy2 rfl (by decide) _ _ _ rfl (World.ownsRow.alloc HP2.o _) ⟨w4,0,none⟩ 1 1 [.int .i64 (k:Int)] rfl rfl (cell_one_new w4 _ _) (by intro u hu;simp at hu;subst hu;rfl) (by decide) (by unfold maxLen;omega) (by omega) (by simp;omega) (w4.heap.size+1) (by simp) ?_);intro g3 cap3 w5 hown3 hgrow3 hat3 hlt3;have hb3:=(HB2.o.alloc (by omega) (.cells #[.int .i64 (k:Int)] 3)).grown hgrow3 (by simp;omega) (fun j hj=>(World.ownsRow.lt HP2.o j hj).1);have hW3:=k0g (World.ownsRow.alloc HW2.o _) (World.ownsRow.alloc HP2.o _) (by decide) hgrow3
      have HN:Hid (q4l s w1 (k+u.size) (dn++[(k,W)]) (some ⟨g2,0,none⟩) (some ⟨g3,0,none⟩) cap2 cap3 w5):=by
       show q4l _ _ _ _ _ _ _ _ _;rw[<-HUZ.o,<-HW.o];refine HR3.o.next hlt HS.o HOK.o hb3 ?_ ?_
       ·rw[HW.o,HU.o];exact hW3
       ·exact hown3
      clear hown3 hgrow3 hat3 hlt3 hb3 hW3;go_wp2
      go_roundw
      case rel=>exact⟨k+u.size,dn++[(k,W)],some ⟨g2,0,none⟩,some ⟨g3,0,none⟩,cap2,cap3,by rw[List.length_append];rfl,by rw[List.length_append];rfl,by rw[HMW.o];go_num,by go_num,HN.o⟩
      case measure=>simp[intOf];omega
     | false=>
      have hni:((u[0].toNat:Int) != 35)=false:=by
       rw[hu1 hu0]
       show(!((s[k].toNat:Int)==35))=false
       rw[show(35:Int)=((35:Nat):Int)from rfl,j4p _ 35 (by decide)];exact hn
      have HMW:Hid (many ((dn++[(k,W)]).map (·.2))=mm):=by
       show _=_;rw[List.map_append]
       have:=HMY.o
       rw[hn]at this;exact this
      clear hn hu1 HMY;go_wp2_with fail;refine(q8m u _ (by omega)).mono ?_;rintro e w3⟨rfl,hb3⟩;have HR3:Hid (q4l s w1 k dn A P ac pc w3):=HR2.o.later hb3;have hsr:=HR3.o.b.size;clear HR2 HB2 hb3;obtain⟨i0,hi0,hz0,hz1,hz2⟩:=info_parts z3g;go_wp2_with(at_builtin;refine wpList_append_lies _ rfl _ _ 42 rfl w1.heap.size 9 i0 _ 1 16 Tryz.underlying42 hi0 hz0 hz1 hz2 rfl (by decide) _ _ _ rfl (World.ownsRow.alloc HR3.o.ws _) ⟨w3,0,none⟩ 1 1 [.string u] rfl rfl (cell_one_new w3 _ _) (by intro u hu;simp at hu;subst hu;rfl) (by decide) (by unfold maxLen;omega) (by omega) (by simp;omega) (w3.heap.size+1) (by simp) ?_);intro g2 cap2 w4 hown2 hgrow2 hat2 hlt2;have hb2:=(HR3.o.b.alloc (by omega) (.cells #[.string u] 9)).grown hgrow2 (by simp;omega) (fun j hj=>(World.ownsRow.lt HR3.o.ws j hj).1);have HB2:=(show Hid (Below _ _ _)from hb2);have HP2:Hid (w4.ownsRow w1.heap.size 3 1 (.slice P dn.length pc) dn.length (q2f (dn.map (·.1)))):=k0g (World.ownsRow.alloc HR3.o.ps _) (World.ownsRow.alloc HR3.o.ws _) (by decide) hgrow2;have HW2:=(show Hid (w4.ownsRow _ _ _ _ _ _)from hown2);have hs2:=hb2.size;clear hown2 hgrow2 hb2 hat2 hlt2;obtain⟨i1,hi1,hy0,hy1,hy2⟩:=info_parts z7k;go_wp2_with(at_builtin;refine wpList_append_lies _ rfl _ _ 43 rfl w1.heap.size 3 i1 _ 1 8 Tryz.underlying43 hi1 hy0 hy1 hy2 rfl (by decide) _ _ _ rfl (World.ownsRow.alloc HP2.o _) ⟨w4,0,none⟩ 1 1 [.int .i64 (k:Int)] rfl rfl (cell_one_new w4 _ _) (by intro u hu;simp at hu;subst hu;rfl) (by decide) (by unfold maxLen;omega) (by omega) (by simp;omega) (w4.heap.size+1) (by simp) ?_);intro g3 cap3 w5 hown3 hgrow3 hat3 hlt3;have hb3:=(HB2.o.alloc (by omega) (.cells #[.int .i64 (k:Int)] 3)).grown hgrow3 (by simp;omega) (fun j hj=>(World.ownsRow.lt HP2.o j hj).1);have hW3:=k0g (World.ownsRow.alloc HW2.o _) (World.ownsRow.alloc HP2.o _) (by decide) hgrow3
      have HN:Hid (q4l s w1 (k+u.size) (dn++[(k,W)]) (some ⟨g2,0,none⟩) (some ⟨g3,0,none⟩) cap2 cap3 w5):=by
       show q4l _ _ _ _ _ _ _ _ _;rw[<-HUZ.o,<-HW.o];refine HR3.o.next hlt HS.o HOK.o hb3 ?_ ?_
       ·rw[HW.o,HU.o];exact hW3
       ·exact hown3
      clear hown3 hgrow3 hat3 hlt3 hb3 hW3;go_wp2
      go_roundw
      case rel=>exact⟨k+u.size,dn++[(k,W)],some ⟨g2,0,none⟩,some ⟨g3,0,none⟩,cap2,cap3,by rw[List.length_append];rfl,by rw[List.length_append];rfl,by rw[HMW.o],by go_num,HN.o⟩
      case measure=>simp[intOf];omega
  ·have hki:¬(k:Int)<(s.size:Int):=by omega
   have HX:Hid (lxF (btL s) 0=none/\lxW (btL s) 0=dn):=j9p HR.o hlt
   have HL:Hid ((q1d (btL s)).length=dn.length/\many (q1d (btL s))=mm):=by
    refine⟨?_,?_⟩
    ·rw[q1d,HX.o.2,List.length_map]
    ·rw[q1d,HX.o.2];exact HMM.o
   by_cases h300:300<mm
   ·have hmi:(300:Int)<(mm:Int):=by omega
    have HF:Hid (q4s (btL s)=3/\k1l (btL s)=0):=j9m (by rw[q0b];exact hsz) HX.o.1 (by rw[HL.o.2];exact h300);go_wp2;refine bodyPost_ret (v:=.tuple #[.slice none 0 0,.slice none 0 0,.int .i64 0,.iface 22 (.int .i64 3)]) (by simp[results,Tryz.results19,go_sem]) rfl ?_;exact⟨.inl ⟨by rw[HF.o.1];decide,by rw[HF.o.1,HF.o.2,k9u];rfl⟩,by rw[HBK.o];exact HBr.o⟩
   ·have hmi:¬(300:Int)<(mm:Int):=by omega
    have HF:Hid (q4s (btL s)=0/\k1l (btL s)=0):=j9n (by rw[q0b];exact hsz) HX.o.1 (by rw[HL.o.2];exact h300);go_wp2;refine bodyPost_ret (v:=.tuple #[.slice A dn.length ac,.slice P dn.length pc,.int .i64 0,.nilIface]) (by simp[results,Tryz.results19,go_sem]) rfl ?_;refine⟨.inr ⟨HF.o.1,A,P,ac,pc,by rw[HL.o.1],j0y (B:=w1.heap.size) ?_ (by rw[HBK.o];omega),j0y (B:=w1.heap.size) ?_ (by rw[HBK.o];omega)⟩,by rw[HBK.o];exact HBr.o⟩
    ·show wr.ownsRow _ _ _ _ _ _;rw[List.length_map,HL.o.1,q1d,HX.o.2,List.map_map];exact HR.o.ws
    ·show wr.ownsRow _ _ _ _ _ _;rw[<-j1x,HL.o.1,z8a,HX.o.2];exact HR.o.ps
theorem k4x(s:ByteArray)(w:World):Calls prog 19 #[.string s] w fun e w'=>q9x s w e w'/\Below w w w':=by
 by_cases h:(btL s).length<=60000
 ·exact k8v s w h
 ·have HF:Hid (q4s (btL s)=3/\k1l (btL s)=0):=j9l (by omega);have hsz:60000<(s.size:Int):=by rw[q0b]at h;omega
  clear h;go_in;go_wp2;refine bodyPost_ret (v:=.tuple #[.slice none 0 0,.slice none 0 0,.int .i64 0,.iface 22 (.int .i64 3)]) (by simp[results,Tryz.results19,go_sem]) rfl ?_;exact⟨.inl ⟨by rw[HF.o.1];decide,by rw[HF.o.1,HF.o.2,k9u];rfl⟩,Below.refl _ _⟩
theorem z6f(s:ByteArray)(w:World):Calls prog 19 #[.string s] w fun e w'=>k9b s e w'/\Below w w w':=(k4x s w).mono fun _ _ h=>⟨h.1.res,h.2⟩
theorem y1x{s:ByteArray}:btL s=[108,101,116]↔s=⟨#[108,101,116]⟩:=by
 constructor
 ·intro h;apply ByteArray.ext;apply Array.ext';exact h
 ·intro h;rw[h]
theorem v0k{s:ByteArray}(h1:1<=s.size)(h2:s.size<=8)(h3:¬s=⟨#[108,101,116]⟩)(h:∀k(h:k<s.size),q3w s[k]=true):q0z s=true:=by
 have h3':btL s≠[108,101,116]:=fun e=>h3 (y1x.1 e)
 simp only[q0z,h1,h2,h3',decide_true,Bool.true_and,List.all_eq_true,ne_eq,not_false_eq_true];intro b hb;obtain⟨i,hi,rfl⟩:=List.getElem_of_mem hb;exact h i (by rw[<-q0b];exact hi)
theorem v0l{s:ByteArray}{k:Nat}(h:k<s.size)(hb:q3w s[k]=false):q0z s=false:=by
 cases e:q0z s with
 | false=>rfl
 | true=>
  simp only[q0z,Bool.and_eq_true,List.all_eq_true]at e;have hl:k<(btL s).length:=by rw[q0b];exact h
  have:=e.2 s[k] (List.getElem_mem hl)
  rw[hb]at this;cases this
theorem k6p{s:ByteArray}(h:s.size<1):q0z s=false:=by
 have:decide (1<=s.size)=false:=decide_eq_false (by omega)
 simp[q0z,this]
theorem j3e{s:ByteArray}(h:8<s.size):q0z s=false:=by
 have:decide (s.size<=8)=false:=decide_eq_false (by omega)
 simp[q0z,this]
theorem z3h(s:ByteArray):wbS (btL s)=s:=by
 obtain⟨d⟩:=s;simp[wbS,btL]
theorem j7e{l:List UInt8}(h:Lib.indexByte l 32=-1):∀b∈l,b≠32:=by
 intro b hb e;subst e;obtain⟨k,hk⟩:=List.getElem?_of_mem hb;exact Lib.indexByte_none h k hk
theorem k9p{l:List UInt8}{i:Nat}(h:Lib.indexByte l 32=i):i<l.length/\l=l.take i++32::l.drop (i+1)/\∀b∈l.take i,b≠32:=by
 obtain⟨h1,h2⟩:=Lib.indexByte_some h;obtain⟨hi,h3⟩:=List.getElem?_eq_some_iff.1 h1;refine⟨hi,?_,?_⟩
 ·have:=(List.take_append_drop i l).symm
  rw[List.drop_eq_getElem_cons hi,h3]at this;exact this
 ·intro b hb e;subst e;obtain⟨k,hk⟩:=List.getElem?_of_mem hb;rw[List.getElem?_take]at hk
  split at hk
  ·rename_i hki;exact h2 k hki hk
  ·cases hk
def spK:Nat->ByteArray->List ByteArray
 | 0,s=>[s]
 | k+1,s=>if Lib.indexByte s.data.toList 32=-1 then [s]else s.extract 0 (Lib.indexByte s.data.toList 32).toNat::spK k (s.extract ((Lib.indexByte s.data.toList 32).toNat+1) s.size)
theorem k0k(s:ByteArray):spK 0 s=[s]:=rfl
theorem z1f(k:Nat){s:ByteArray}(h:Lib.indexByte s.data.toList 32=-1):spK k s=[s]:=by
 cases k with
 | zero=>rfl
 | succ k=>rw[spK,if_pos h]
theorem z5t(k:Nat){s:ByteArray}{i:Nat}(h:Lib.indexByte s.data.toList 32=i):spK (k+1) s=s.extract 0 i::spK k (s.extract (i+1) s.size):=by
 rw[spK,if_neg (by omega),h];rfl
theorem g4w(s:ByteArray)(i:Nat):btL (s.extract 0 i)=(btL s).take i:=by
 rw[k8t,List.drop_zero,Nat.sub_zero];rfl
theorem y4i(s:ByteArray)(i:Nat):btL (s.extract i s.size)=(btL s).drop i:=Lib.extract_to_end s i
theorem q7y(s:ByteArray):Lib.indexByte s.data.toList 32=-1\/∃i:Nat,Lib.indexByte s.data.toList 32=i/\i<s.size:=by
 have hge:=Lib.indexByte_ge s.data.toList 32;by_cases h:Lib.indexByte s.data.toList 32=-1
 ·exact .inl h
 ·refine .inr ⟨(Lib.indexByte s.data.toList 32).toNat,by omega,?_⟩
  have:=(k9p (l:=btL s) (i:=(Lib.indexByte s.data.toList 32).toNat) (by show Lib.indexByte s.data.toList 32=_;omega)).1
  rw[q0b]at this;exact this
theorem k0m{s:ByteArray}{i:Nat}(h:Lib.indexByte s.data.toList 32=i):q5r (btL s)=btL (s.extract 0 i)::q5r (btL (s.extract (i+1) s.size)):=by
 obtain⟨_,h2,h3⟩:=k9p (l:=btL s) h;rw[g4w,y4i]
 conv=>lhs;rw[h2]
 rw[j1n _ _ h3]
theorem k7i{s:ByteArray}(h:Lib.indexByte s.data.toList 32=-1):q5r (btL s)=[btL s]:=j1o _ (j7e (l:=btL s) h)
theorem v9q{s:ByteArray}{i:Nat}(h:i<s.size):(s.extract (i+1) s.size).size=s.size-(i+1):=by
 rw[ByteArray.size_extract];omega
theorem v2h:∀(k:Nat)(s:ByteArray),s.size<=k->(spK k s).map btL=q5r (btL s)
 | 0,s,h=>by
  have e:btL s=[]:=List.eq_nil_of_length_eq_zero (by rw[q0b];omega);rw[k0k,List.map_cons,List.map_nil,e];rfl
 | k+1,s,h=>by
  rcases q7y s with h1|⟨i,h1,h2⟩
  ·rw[z1f _ h1,k7i h1];rfl
  ·rw[z5t k h1,k0m h1,List.map_cons,v2h k _ (by rw[v9q h2];omega)]
theorem v2j:∀(k:Nat)(s:ByteArray),(spK k s).length<=k->(spK k s).map btL=q5r (btL s)
 | 0,s,h=>by rw[k0k]at h;simp at h
 | k+1,s,h=>by
  rcases q7y s with h1|⟨i,h1,h2⟩
  ·rw[z1f _ h1,k7i h1];rfl
  ·rw[z5t k h1]at h⊢;rw[List.length_cons]at h;rw[k0m h1,List.map_cons,v2j k _ (by omega)]
theorem y2t:∀(k:Nat)(s:ByteArray),(spK k s).length<=(q5r (btL s)).length
 | 0,s=>by
  rw[k0k]
  have:=q6z (btL s)
  cases h:q5r (btL s)with
  | nil=>exact absurd h this
  | cons a b=>simp
 | k+1,s=>by
  rcases q7y s with h1|⟨i,h1,h2⟩
  ·rw[z1f _ h1,k7i h1];simp
  ·rw[z5t k h1,k0m h1,List.length_cons,List.length_cons]
   have:=y2t k (s.extract (i+1) s.size)
   omega
theorem j5o{l:List ByteArray}{m:List (List UInt8)}(h:l.map btL=m):l=m.map wbS:=by
 subst h;rw[List.map_map]
 have:(wbS∘btL)=id:=by funext s;exact z3h s
 rw[this,List.map_id]
theorem v2i(s:ByteArray)(k:Nat)(hk:k=min 60 s.size):q1i (spK k s)=q1i ((q5r (btL s)).map wbS):=by
 by_cases h:s.size<=60
 ·rw[j5o (v2h k s (by omega))]
 ·have hk':k=60:=by omega
  subst hk';by_cases hl:(spK 60 s).length<=60
  ·rw[j5o (v2j 60 s hl)]
  ·have h1:=y2t 60 s;rw[q9r (by omega),q9r (by rw[List.length_map];omega)]
theorem v8f{s:ByteArray}(h:0<s.size)(k:Nat)(hk:k=min 60 s.size):q1i (spK k s)=q3m s:=by
 rw[v2i s k hk,q3m,q0j,if_neg];intro e
 have:=congrArg List.length e
 rw[q0b,List.length_nil]at this;omega
theorem v0v{s:ByteArray}(h:s.size=0):q3m s=0:=by
 have e:btL s=[]:=List.eq_nil_of_length_eq_zero (by rw[q0b];exact h);rw[q3m,q0j,if_pos e];rfl
theorem q9q(a b:List UInt8):wbS a++wbS b=wbS (a++b):=by
 apply ByteArray.ext;simp[wbS]
theorem y8p(l:List UInt8):(wbS l).size=l.length:=by
 rw[<-q0b];rfl
theorem j3t(s:ByteArray)(w:World):
  Calls prog 194 #[.string s,.string ⟨#[32]⟩] w fun e w'=>e=.returned (.int .i64 (Lib.indexByte s.data.toList 32))/\w=w':=by
 go_in;go_wp2_with(go_at_call 141;refine(q6r _ _ _).mono ?_;rintro e w'⟨rfl,rfl⟩)
 ·have h:([32]==s.toList)=true:=by assumption
  go_ret;refine⟨?_,rfl⟩;have e:s.data.toList=[32]:=by rw[<-Lib.toList_data];exact(beq_iff_eq.1 h).symm
  rw[e];simp[Lib.indexByte]
 ·go_ret;exact⟨rfl,rfl⟩
theorem z0n(s:ByteArray)(w:World):
  Calls prog 263 #[.string s,.string ⟨#[32]⟩] w fun e w'=>e=.returned (.int .i64 (Lib.indexByte s.data.toList 32))/\w=w':=by
 go_in;go_wp2_with fail;refine(j3t _ _).mono ?_;rintro e w2⟨rfl,rfl⟩;go_wp2;go_ret;exact⟨rfl,rfl⟩
theorem j2z(s:ByteArray)(N:Nat)(w:World)(hs:s.size<=140737488351232)(hN:N=min 61 (s.size+1)):
  Calls prog 238 #[.string s,.string ⟨#[32]⟩,.int .i64 0,.int .i64 61] w fun e w'=>
   e=.returned (.slice (some ⟨w,0,none⟩) (spK (N-1) s).length N)/\w'=w.alloc (.cells (Lib.cellsOf (spK (N-1) s) N) 9):=by
 have eN':min (61:Int) ((s.size:Int)+1)=(N:Int):=by omega
 have hNs:(N:Int)<=(s.size:Int)+1:=by omega
 have hN1:(1:Int)<=(N:Int):=by omega
 have hN6:N<=61:=by omega
 clear hN;by_cases h61:(s.size:Int)+1<61
 ·have hzN:((N:Nat):Int)=(s.size:Int)+1:=by omega
  have hmk:=run_make_row' (P:=prog) 42 9 (.string ByteArray.empty) 16 Tryz.underlying42 z3g rfl .i64 .i64 N (by omega) (by omega);rw[hzN]at hmk;go_in;go_wp2_with fail;clear hmk eN'
  go_loopw [0,10] (fun s0 i wr=>∃(done:List ByteArray)(rest:ByteArray),s0=.string rest/\i=.int .i64 (done.length:Nat)/\done.length<=N-1/\rest.size<=s.size/\
    wr=w.alloc (.cells (Lib.cellsOf done N) 9)/\done++spK (N-1-done.length) rest=spK (N-1) s) (fun _ i _=>N-1-(intOf i).toNat)
  case atStart=>exact⟨[],s,rfl,rfl,Nat.zero_le _,Nat.le_refl _,by rw[Lib.cellsOf_nil],rfl⟩
  case round=>
   obtain⟨done,rest,rfl,rfl,hd,hrs,rfl,hsp⟩:=hrel;have hnext:(Lib.cellsOf done N)[done.length]?=some (.string ByteArray.empty):=Lib.cellsOf_next (by omega);have HS:Hid (done++spK (N-1-done.length) rest=spK (N-1) s):=hsp;clear hsp
   have fin:spK (N-1-done.length) rest=[rest]->(spK (N-1) s).length=done.length+1/\(Lib.cellsOf done N).setIfInBounds done.length (.string rest)=Lib.cellsOf (spK (N-1) s) N:=fun h=>by
    have e:=HS.o;rw[h]at e;rw[<-e];exact⟨by simp,Lib.cellsOf_set (by omega) rest⟩
   by_cases hlt:done.length<N-1
   ·have hltz:((done.length:Nat):Int)<(s.size:Int):=by omega
    rcases q7y rest with hix|⟨i,hix,hroom⟩
    ·obtain⟨f1,f2⟩:=fin (z1f _ hix);have F1:Hid ((spK (N-1) s).length=done.length+1):=f1;have F2:=(show Hid (_=_)from f2);clear f1 f2 fin;go_wp2_with fail;refine(z0n rest _).mono ?_;rintro e w2⟨rfl,rfl⟩;rw[hix];go_wp2;go_ret;rw[F1.o,<-F2.o];exact⟨by first|rfl|(congr 2<;>omega),rfl⟩
    ·have c0:¬((i:Int)<0):=by omega
     have c1:(0:Int)<=↑i:=by omega
     have c2:(↑i:Int)<=↑rest.size:=by omega
     have c3:(0:Int)<=↑i+1:=by omega
     have c4:(↑i+1:Int)<=↑rest.size:=by omega
     have HR:Hid (done++[rest.extract 0 i]++spK (N-1-(done.length+1)) (rest.extract (i+1) rest.size)=spK (N-1) s):=by
      show _=_;rw[<-HS.o,show N-1-done.length=(N-1-(done.length+1))+1 by omega,z5t _ hix];simp
     clear fin;go_wp2_with fail;refine(z0n rest _).mono ?_;rintro e w2⟨rfl,rfl⟩;rw[hix];go_wp2
     go_roundw
     case rel=>exact⟨done++[rest.extract 0 i],rest.extract (i+1) rest.size,rfl,by simp,by simp;omega,by rw[ByteArray.size_extract];omega,by rw[<-Lib.cellsOf_set (by omega)],by rw[List.length_append];exact HR.o⟩
     case measure=>simp[intOf];omega
   ·have hltz:¬(((done.length:Nat):Int)<(s.size:Int)):=by omega
    obtain⟨f1,f2⟩:=fin (by rw[show N-1-done.length=0 by omega];rfl);have F1:Hid ((spK (N-1) s).length=done.length+1):=f1;have F2:=(show Hid (_=_)from f2);clear f1 f2 fin;go_wp2;go_ret;rw[F1.o,<-F2.o];exact⟨by first|rfl|(congr 2<;>omega),rfl⟩
 ·have hzN:((N:Nat):Int)=61:=by omega
  have hmk:=run_make_row' (P:=prog) 42 9 (.string ByteArray.empty) 16 Tryz.underlying42 z3g rfl .i64 .i64 N (by omega) (by omega);rw[hzN]at hmk;go_in;go_wp2_with fail;clear hmk eN'
  go_loopw [0,10] (fun s0 i wr=>∃(done:List ByteArray)(rest:ByteArray),s0=.string rest/\i=.int .i64 (done.length:Nat)/\done.length<=N-1/\rest.size<=s.size/\
    wr=w.alloc (.cells (Lib.cellsOf done N) 9)/\done++spK (N-1-done.length) rest=spK (N-1) s) (fun _ i _=>N-1-(intOf i).toNat)
  case atStart=>exact⟨[],s,rfl,rfl,Nat.zero_le _,Nat.le_refl _,by rw[Lib.cellsOf_nil],rfl⟩
  case round=>
   obtain⟨done,rest,rfl,rfl,hd,hrs,rfl,hsp⟩:=hrel;have hnext:(Lib.cellsOf done N)[done.length]?=some (.string ByteArray.empty):=Lib.cellsOf_next (by omega);have HS:Hid (done++spK (N-1-done.length) rest=spK (N-1) s):=hsp;clear hsp
   have fin:spK (N-1-done.length) rest=[rest]->(spK (N-1) s).length=done.length+1/\(Lib.cellsOf done N).setIfInBounds done.length (.string rest)=Lib.cellsOf (spK (N-1) s) N:=fun h=>by
    have e:=HS.o;rw[h]at e;rw[<-e];exact⟨by simp,Lib.cellsOf_set (by omega) rest⟩
   by_cases hlt:done.length<N-1
   ·have hltz:((done.length:Nat):Int)<60:=by omega
    rcases q7y rest with hix|⟨i,hix,hroom⟩
    ·obtain⟨f1,f2⟩:=fin (z1f _ hix);have F1:Hid ((spK (N-1) s).length=done.length+1):=f1;have F2:=(show Hid (_=_)from f2);clear f1 f2 fin;go_wp2_with fail;refine(z0n rest _).mono ?_;rintro e w2⟨rfl,rfl⟩;rw[hix];go_wp2;go_ret;rw[F1.o,<-F2.o];exact⟨by first|rfl|(congr 2<;>omega),rfl⟩
    ·have c0:¬((i:Int)<0):=by omega
     have c1:(0:Int)<=↑i:=by omega
     have c2:(↑i:Int)<=↑rest.size:=by omega
     have c3:(0:Int)<=↑i+1:=by omega
     have c4:(↑i+1:Int)<=↑rest.size:=by omega
     have HR:Hid (done++[rest.extract 0 i]++spK (N-1-(done.length+1)) (rest.extract (i+1) rest.size)=spK (N-1) s):=by
      show _=_;rw[<-HS.o,show N-1-done.length=(N-1-(done.length+1))+1 by omega,z5t _ hix];simp
     clear fin;go_wp2_with fail;refine(z0n rest _).mono ?_;rintro e w2⟨rfl,rfl⟩;rw[hix];go_wp2
     go_roundw
     case rel=>exact⟨done++[rest.extract 0 i],rest.extract (i+1) rest.size,rfl,by simp,by simp;omega,by rw[ByteArray.size_extract];omega,by rw[<-Lib.cellsOf_set (by omega)],by rw[List.length_append];exact HR.o⟩
     case measure=>simp[intOf];omega
   ·have hltz:¬(((done.length:Nat):Int)<60):=by omega
    obtain⟨f1,f2⟩:=fin (by rw[show N-1-done.length=0 by omega];rfl);have F1:Hid ((spK (N-1) s).length=done.length+1):=f1;have F2:=(show Hid (_=_)from f2);clear f1 f2 fin;go_wp2;go_ret;rw[F1.o,<-F2.o];exact⟨by first|rfl|(congr 2<;>omega),rfl⟩
theorem j3v(s:ByteArray)(N:Nat)(w:World)(hs:s.size<=140737488351232)(hN:N=min 61 (s.size+1)):
  Calls prog 206 #[.string s,.string ⟨#[32]⟩,.int .i64 61] w fun e w'=>
   e=.returned (.slice (some ⟨w,0,none⟩) (spK (N-1) s).length N)/\w'=w.alloc (.cells (Lib.cellsOf (spK (N-1) s) N) 9):=by
 have HN:Hid (N=min 61 (s.size+1)):=hN;clear hN;go_in;go_wp2_with fail;refine(j2z s N _ hs HN.o).mono ?_;rintro e w2⟨rfl,rfl⟩;go_wp2;go_ret;exact⟨rfl,rfl⟩
theorem v5u{ws:List ByteArray}{N i:Nat}(h:i<ws.length):(Lib.cellsOf ws N)[i]?=some (.string ws[i]):=by
 unfold Lib.cellsOf;rw[List.getElem?_toArray,List.getElem?_append_left (by rw[List.length_map];exact h),List.getElem?_map,List.getElem?_eq_getElem h];rfl
theorem j6o(w:World)(ws:List ByteArray)(N:Nat):Wds (w.alloc (.cells (Lib.cellsOf ws N) 9)) (some ⟨w,0,none⟩) ws:=by
 intro i hi;refine⟨w.heap.size,0,rfl,by rw[World.size_alloc];omega,?_⟩
 have h:(w.alloc (.cells (Lib.cellsOf ws N) 9)).heap[w.heap.size]?=some (.cells (Lib.cellsOf ws N) 9):=by
  show(w.heap.push _)[w.heap.size]?=_
  simp
 simp only[World.cell?,Option.isSome_none,Bool.false_eq_true,if_false,h,Nat.zero_add];exact v5u hi
theorem q8u{t:ByteArray}(h0:0<(t.size:Int)):(t.toList==[])=false:=by
 rw[Lib.toList_data]
 have:=(show t.data.toList.length=t.size from q0b t)
 cases h:t.data.toList with
 | nil=>rw[h]at this;simp at this;omega
 | cons a b=>rfl
theorem q6d{t:ByteArray}(h0:¬0<(t.size:Int)):t=⟨#[]⟩:=by
 obtain⟨d⟩:=t
 have h1:d.size=0:=by
  have:(d.size:Int)=((⟨d⟩:ByteArray).size:Int):=rfl
  omega
 rw[Array.eq_empty_of_size_eq_zero h1]
theorem j3z(s:ByteArray)(w:World)(hs:s.size<=140737488351232):Calls prog 159 #[.string s] w fun e w'=>∃(A:Option Addr)(ws:List ByteArray)(c:Nat),e=.returned (.slice A ws.length c)/\Wds w' A ws/\q1i ws=q3m s/\Below w w w':=by
 by_cases h0:0<(s.size:Int)
 ·have h1:=q8u h0;have HN:Hid (q1i (spK (min 61 (s.size+1)-1) s)=q3m s):=v8f (by omega) _ (by omega);go_in;go_wp2_with fail;refine(j3v s _ _ hs rfl).mono ?_;rintro e w2⟨rfl,rfl⟩;generalize spK (min 61 (s.size+1)-1) s=ws at HN⊢;generalize min 61 (s.size+1)=N;go_wp2;go_ret;exact⟨_,ws,N,rfl,j6o w ws N,HN.o,Zb.alloc Zl _⟩
 ·have HZ:Hid (q3m s=0):=v0v (by omega);have e:=q6d h0;subst e;clear h0;go_in;go_wp2;go_ret;exact⟨none,[],0,rfl,fun i hi=>by simp at hi,by rw[HZ.o];rfl,Below.refl _ _⟩
end Go.Proofs.YthcpdohdppkmkaaGreatDoor
