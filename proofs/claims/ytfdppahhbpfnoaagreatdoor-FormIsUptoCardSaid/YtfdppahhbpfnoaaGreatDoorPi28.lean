import Derived.Test.YtfdppahhbpfnoaaGreatDoorPi18
import Derived.Test.YtfdppahhbpfnoaaGreatDoorPi22
import Derived.Test.YtfdppahhbpfnoaaGreatDoorPi24
import Derived.Test.YtfdppahhbpfnoaaGreatDoorPi21
import Derived.Test.YtfdppahhbpfnoaaGreatDoorPi23
import Derived.Laws.Cover3
open Go.Proofs.Tryz
namespace Go.Proofs.YtfdppahhbpfnoaaGreatDoor
open Go Go.RowKit
set_option maxRecDepth 100000
set_option maxHeartbeats 4000000
theorem q8p(s:ByteArray)(w:World)(h:s.size<=281474976710656):
  Calls prog 78 #[.string s] w fun e w'=>e=.returned (.string s)/\Below w w w':=by
 go_in;go_wp2_with fail;refine(clone_sh s _ h).mono ?_;rintro e B⟨rfl,A⟩;go_wp2;go_ret;exact⟨rfl,A⟩
theorem v8e(c:UInt8):(btL (⟨#[32,10]⟩:ByteArray)).any (·==c)=spB c:=by
 show((32==c)||((10==c)||false))=(c==32||c==10)
 rw[Bool.or_false,BEq.comm (a:=(32:UInt8)),BEq.comm (a:=(10:UInt8))]
theorem q3m.later{s:ByteArray}{w:World}{i:Nat}{dn:List (Nat × List UInt8)}{A P:Option Addr}{ac pc:Nat}{wr wr':World}(h:q3m s w i dn A P ac pc wr)(hb:Below wr wr wr'):q3m s w i dn A P ac pc wr':=
 {b:=h.b.trans (hb.mono h.b.size),le:=h.le,ln:=h.ln,eq:=h.eq,ws:=q3c h.ws hb,ps:=q3c h.ps hb}
theorem y3r{s:ByteArray}{k:Nat}(h:k<s.size):0<(s.extract k s.size).size/\∀h0:0<(s.extract k s.size).size,(s.extract k s.size)[0]=s[k]:=by
 have B:0<(s.extract k s.size).size:=by rw[ByteArray.size_extract];omega
 refine⟨B,fun h0=>?_⟩;have A:=q6s h0;rw[k6h,q1g h,List.cons.injEq]at A;exact A.1.symm
theorem j5x{s:ByteArray}{k:Nat}(h:k<s.size)(hs:s.size<=60000)(A:spB s[k]=false)(W:World):
  Calls prog 77 #[.string (s.extract k s.size)] W fun e w'=>e=.returned (.tuple #[.string (wbS (tkW ((btL s).drop k))),.bool (tOk s k)])/\Below W W w':=by
 obtain⟨B,C⟩:=y3r h
 have:=j3z (s.extract k s.size) W B (by rw[ByteArray.size_extract];omega) (by rw[C B];exact A)
 unfold z1i at this;rw[k6h]at this;exact this
theorem y2j{l:List UInt8}{c:UInt8}{z:List UInt8}(h:l=c::z)(h0:0<(wbS l).size):(wbS l)[0]=c:=by
 subst h;rfl
theorem v0n{s:ByteArray}{k:Nat}(h:k<s.size)(A:spB s[k]=false):0<(wbS (tkW ((btL s).drop k))).size/\∀h0:0<(wbS (tkW ((btL s).drop k))).size,(wbS (tkW ((btL s).drop k)))[0]=s[k]:=by
 have C:∃z,tkW ((btL s).drop k)=s[k]::z:=by
  rw[tkW,q1g h];have E:=q5j s[k] ((btL s).drop (k+1));obtain⟨m,D⟩:∃m,q1c (s[k]::(btL s).drop (k+1))=m+1:=⟨_,(Nat.sub_add_cancel E).symm⟩;rw[D,List.take_succ_cons];exact z2k (k5d A) _
 obtain⟨z,B⟩:=C;exact⟨by rw[q4e,B];simp,fun h0=>y2j B h0⟩
theorem q3m.next{s:ByteArray}{w:World}{i:Nat}{dn:List (Nat × List UInt8)}{A P:Option Addr}{ac pc:Nat}{wr:World}(h:q3m s w i dn A P ac pc wr)(hi:i<s.size)(hs:spB s[i]=false)(ho:tOk s i=true){A' P':Option Addr}{B C:Nat}{w':World}(hb:Below w w w')
  (h1:w'.ownsRow w.heap.size 9 1 (.slice A' (dn.length+1) B) (dn.length+1) (strCells (dn.map fun x=>wbS x.2)++[.string (wbS (tkW ((btL s).drop i)))])) (h2:w'.ownsRow w.heap.size 3 1 (.slice P' (dn.length+1) C) (dn.length+1) (q2h (dn.map (·.1))++[.int .i64 (i:Int)])):
  q3m s w (i+(tkW ((btL s).drop i)).length) (dn++[(i,tkW ((btL s).drop i))]) A' P' B C w':=by
 have D:=h.word hi hs ho hb h1 h2
 have H:1<=(tkW ((btL s).drop i)).length:=by
  rw[tOk,q1g hi]at ho;rw[q1g hi];exact y2b hs ho
 have G:(tkW ((btL s).drop i)).length+i<=s.size:=by
  have:=z2j ((btL s).drop i)
  rw[List.length_drop,q0c]at this;omega
 have e:=D.eq;have E:=v3t ((btL s).drop i) i;rw[List.drop_drop,List.drop_drop]at E;refine{b:=D.b,le:=by omega,ln:=by have:=h.ln;simp;omega,eq:=?_,ws:=D.ws,ps:=D.ps};rw[e,lxW,lxF,lxW,lxF,E];rfl
theorem k7l{w:World}{B B' e A n:Nat}{v:Value}{xs:List Value}(h:w.ownsRow B e A v n xs)(hB:B'<=B):w.ownsRow B' e A v n xs:=by
 refine⟨h.1,?_⟩;rcases h.2 with E|⟨g,c,D,G,H,C⟩
 ·exact .inl E
 ·exact .inr ⟨g,c,D,G,by omega,C⟩
def z7q(s:ByteArray)(w:World)(e:Ending)(w':World):Prop:=
 (q5u (btL s)≠0/\e=.returned (.tuple #[.slice none 0 0,.slice none 0 0,.int .i64 ((z3f (btL s):Nat):Int),q1v (q5u (btL s))]))\/
 (q5u (btL s)=0/\∃A P ac pc,e=.returned (.tuple #[.slice A (q2c (btL s)).length ac,.slice P (q2c (btL s)).length pc,.int .i64 0,.nilIface])/\q2g w (.slice A (q2c (btL s)).length ac) ((q2c (btL s)).map wbS) w'/\z1j w.heap.size (.slice P (q2c (btL s)).length pc) (z1h (btL s)) w')
theorem k5k(s:ByteArray)(w:World)(hl:(btL s).length<=60000):Calls prog 40 #[.string s] w fun e w'=>z7q s w e w'/\Below w w w':=by
 have t:s.size<=60000:=by rw[<-q0c];exact hl
 clear hl;have A0:¬60000<(s.size:Int):=by omega
 go_in;go_wp2_with fail;refine(k2a _ _).mono ?_;rintro e L⟨rfl,Aj⟩;have HO:Hid (z1k L w.heap.size ⟨#[32,10]⟩):=by rw[Aj];exact z1k.new _ _
 have Ab:Hid (Below w w L):=by rw[Aj];exact Zb.alloc Zl _
 have r:=HO.o.1;generalize Ar:w.heap.size=bk at HO Ab r⊢;have Y:Hid (w.heap.size=bk):=Ar;clear Aj Ar;go_wp2_with fail
 go_loopw [2,3,7,8] (fun x p m i wr=>∃(k:Nat)(E:List (Nat × List UInt8))(A P:Option Addr)(a X:Nat),x=.slice A E.length a/\p=.slice P E.length X/\m=.int .i64 ((many (E.map (·.2)):Nat):Int)/\i=.int .i64 (k:Int)/\q3m s L k E A P a X wr) (fun _ _ _ i _=>s.size-(intOf i).toNat)
 case atStart=>exact⟨0,[],none,none,0,0,rfl,rfl,rfl,rfl,{b:=Below.refl _ _,le:=Nat.zero_le _,ln:=Nat.le_refl _,eq:=rfl,ws:=World.ownsRow_nil _ _ _ _,ps:=World.ownsRow_nil _ _ _ _}⟩
 case round=>
  obtain⟨k,E,A,P,a,X,rfl,rfl,rfl,rfl,hR⟩:=hrel;have HR:Hid (q3m s L k E A P a X wr):=hR;have Af:Hid (z1k wr bk ⟨#[32,10]⟩):=HO.o.W r hR.b;have Ac:Hid (Below bk w wr):=Ab.o.trans (hR.b.mono (Nat.le_of_lt r));have A3:=hR.le;have A4:=hR.ln
  have Aw:many (E.map (·.2))<=60000:=by
   have h1:many (E.map (·.2))<=(E.map (·.2)).length:=List.length_filter_le _ _;rw[List.length_map]at h1;omega
  clear hR;generalize As:many (E.map (·.2))=mm at Aw;have Ad:Hid (many (E.map (·.2))=mm):=As;clear As;by_cases O:k<s.size
  ·have Au:(k:Int)<(s.size:Int):=by omega
   cases hs:spB s[k]with
   | true=>
    have HN:Hid (q3m s L (k+1) E A P a X wr):=HR.o.space O hs;have HP:=(show Hid (_=_)from v8e s[k]);go_wp2_with fail;refine(q8t s[k] Af.o).mono ?_;rintro e w2⟨rfl,rfl⟩;rw[HP.o,hs];clear hs;go_wp2
    go_roundw
    case rel=>exact⟨k+1,E,A,P,a,X,rfl,rfl,by rw[Ad.o],by go_num,HN.o⟩
    case measure=>simp[intOf];omega
   | false=>
    have HP:=(show Hid (_=_)from v8e s[k]);have HS:Hid (spB s[k]=false):=hs;have A2:(k:Int)<=(s.size:Int):=by omega
    clear hs;go_wp2_with fail;refine(q8t s[k] Af.o).mono ?_;rintro e w2⟨rfl,rfl⟩;rw[HP.o,HS.o];go_wp2_with fail;refine(j5x O t HS.o _).mono ?_;rintro e w2⟨rfl,K⟩;have U:Hid (q3m s L k E A P a X w2):=HR.o.later K;have R:Hid (Below bk w w2):=Ab.o.trans (U.o.b.mono (Nat.le_of_lt r));clear HR Ac Af K;cases q:tOk s k with
    | false=>
     have n:Hid (q5u (btL s)=5/\z3f (btL s)=k):=k6t (by rw[q0c];exact t) (k1i U.o O HS.o q);generalize Q:wbS (tkW ((btL s).drop k))=u;clear q Q;go_wp2;refine bodyPost_ret (v:=.tuple #[.slice none 0 0,.slice none 0 0,.int .i64 (k:Int),.iface 23 (.int .i64 5)]) (by simp[results,Tryz.results40,go_sem]) rfl ?_;exact⟨.inl ⟨by rw[n.o.1];decide,by rw[n.o.1,n.o.2,v6z]⟩,by rw[Y.o];exact R.o⟩
    | true=>
     have Aq:Hid (tOk s k=true):=q;obtain⟨y,V⟩:=v0n O HS.o
     have At:(wbS (tkW ((btL s).drop k))).size+k<=s.size:=by
      have:=z2j ((btL s).drop k)
      rw[List.length_drop,q0c]at this;rw[q4e];omega
     have Z:Hid (many (E.map (·.2)++[tkW ((btL s).drop k)])=mm+(if s[k] != 35 then 1 else 0)):=by
      show _=_;rw[k6z,Ad.o,k7a O HS.o]
     have o:Hid ((tkW ((btL s).drop k)).length=(wbS (tkW ((btL s).drop k))).size):=(q4e _).symm;generalize hW:tkW ((btL s).drop k)=W at Z o y V At⊢;have HW:Hid (tkW ((btL s).drop k)=W):=hW;generalize Q:wbS W=u at o y V At⊢;have HU:Hid (wbS W=u):=Q;have A1:(0:Int)<(u.size:Int):=by omega
     clear q hW Q;cases hn:(s[k] != 35)with
     | true=>
      have Ax:((u[0].toNat:Int) != 35)=true:=by
       rw[V y]
       show(!((s[k].toNat:Int)==35))=true
       rw[show(35:Int)=((35:Nat):Int)from rfl,q5z _ 35 (by decide)];exact hn
      have Ae:Hid (many ((E++[(k,W)]).map (·.2))=mm+1):=by
       show _=_;rw[List.map_append]
       have:=Z.o
       rw[hn]at this;exact this
      clear hn V Z;go_wp2_with fail;refine(q8p u _ (by omega)).mono ?_;rintro e z⟨rfl,H⟩;have G:Hid (q3m s L k E A P a X z):=U.o.later H;have Az:=G.o.b.size;clear U R H;obtain⟨i0,Ah,An,Ao,Ap⟩:=info_parts z0t;go_wp2_with(at_builtin;refine wpList_append_lies _ rfl _ _ 58 rfl L.heap.size 9 i0 _ 1 16 Tryz.underlying58 Ah An Ao Ap rfl (by decide) _ _ _ rfl (World.ownsRow.alloc G.o.ws _) ⟨z,0,none⟩ 1 1 [.string u] rfl rfl (cell_one_new z _ _) (by intro u Q;simp at Q;subst Q;rfl) (by decide) (by unfold maxLen;omega) (by omega) (by simp;omega) (z.heap.size+1) (by simp) ?_);intro g2 M l I C d g;have K:=(G.o.b.alloc (by omega) (.cells #[.string u] 9)).grown C (by simp;omega) (fun j hj=>(World.ownsRow.lt G.o.ws j hj).1);have R:=(show Hid (Below _ _ _)from K);have S:Hid (l.ownsRow L.heap.size 3 1 (.slice P E.length X) E.length (q2h (E.map (·.1)))):=z2c (World.ownsRow.alloc G.o.ps _) (World.ownsRow.alloc G.o.ws _) (by decide) C;have Ag:=(show Hid (l.ownsRow _ _ _ _ _ _)from I);have Ay:=K.size;clear I C K d g;obtain⟨i1,Ai,Ak,Al,Am⟩:=info_parts z2n;go_wp2_with(at_builtin;refine wpList_append_lies _ rfl _ _ 45 rfl L.heap.size 3 i1 _ 1 8 Tryz.underlying45 Ai Ak Al Am rfl (by decide) _ _ _ rfl (World.ownsRow.alloc S.o _) ⟨l,0,none⟩ 1 1 [.int .i64 (k:Int)] rfl rfl (cell_one_new l _ _) (by intro u Q;simp at Q;subst Q;rfl) (by decide) (by unfold maxLen;omega) (by omega) (by simp;omega) (l.heap.size+1) (by simp) ?_);intro g3 N w5 J D f h;have H:=(R.o.alloc (by omega) (.cells #[.int .i64 (k:Int)] 3)).grown D (by simp;omega) (fun j hj=>(World.ownsRow.lt S.o j hj).1);have c:=z2c (World.ownsRow.alloc Ag.o _) (World.ownsRow.alloc S.o _) (by decide) D
      have HN:Hid (q3m s L (k+u.size) (E++[(k,W)]) (some ⟨g2,0,none⟩) (some ⟨g3,0,none⟩) M N w5):=by
       show q3m _ _ _ _ _ _ _ _ _;rw[<-o.o,<-HW.o];refine G.o.next O HS.o Aq.o H ?_ ?_
       ·rw[HW.o,HU.o];exact c
       ·exact J
      clear J D f h H c;go_wp2
      go_roundw
      case rel=>exact⟨k+u.size,E++[(k,W)],some ⟨g2,0,none⟩,some ⟨g3,0,none⟩,M,N,by rw[List.length_append];rfl,by rw[List.length_append];rfl,by rw[Ae.o];go_num,by go_num,HN.o⟩
      case measure=>simp[intOf];omega
     | false=>
      have Ax:((u[0].toNat:Int) != 35)=false:=by
       rw[V y]
       show(!((s[k].toNat:Int)==35))=false
       rw[show(35:Int)=((35:Nat):Int)from rfl,q5z _ 35 (by decide)];exact hn
      have Ae:Hid (many ((E++[(k,W)]).map (·.2))=mm):=by
       show _=_;rw[List.map_append]
       have:=Z.o
       rw[hn]at this;exact this
      clear hn V Z;go_wp2_with fail;refine(q8p u _ (by omega)).mono ?_;rintro e z⟨rfl,H⟩;have G:Hid (q3m s L k E A P a X z):=U.o.later H;have Az:=G.o.b.size;clear U R H;obtain⟨i0,Ah,An,Ao,Ap⟩:=info_parts z0t;go_wp2_with(at_builtin;refine wpList_append_lies _ rfl _ _ 58 rfl L.heap.size 9 i0 _ 1 16 Tryz.underlying58 Ah An Ao Ap rfl (by decide) _ _ _ rfl (World.ownsRow.alloc G.o.ws _) ⟨z,0,none⟩ 1 1 [.string u] rfl rfl (cell_one_new z _ _) (by intro u Q;simp at Q;subst Q;rfl) (by decide) (by unfold maxLen;omega) (by omega) (by simp;omega) (z.heap.size+1) (by simp) ?_);intro g2 M l I C d g;have K:=(G.o.b.alloc (by omega) (.cells #[.string u] 9)).grown C (by simp;omega) (fun j hj=>(World.ownsRow.lt G.o.ws j hj).1);have R:=(show Hid (Below _ _ _)from K);have S:Hid (l.ownsRow L.heap.size 3 1 (.slice P E.length X) E.length (q2h (E.map (·.1)))):=z2c (World.ownsRow.alloc G.o.ps _) (World.ownsRow.alloc G.o.ws _) (by decide) C;have Ag:=(show Hid (l.ownsRow _ _ _ _ _ _)from I);have Ay:=K.size;clear I C K d g;obtain⟨i1,Ai,Ak,Al,Am⟩:=info_parts z2n;go_wp2_with(at_builtin;refine wpList_append_lies _ rfl _ _ 45 rfl L.heap.size 3 i1 _ 1 8 Tryz.underlying45 Ai Ak Al Am rfl (by decide) _ _ _ rfl (World.ownsRow.alloc S.o _) ⟨l,0,none⟩ 1 1 [.int .i64 (k:Int)] rfl rfl (cell_one_new l _ _) (by intro u Q;simp at Q;subst Q;rfl) (by decide) (by unfold maxLen;omega) (by omega) (by simp;omega) (l.heap.size+1) (by simp) ?_);intro g3 N w5 J D f h;have H:=(R.o.alloc (by omega) (.cells #[.int .i64 (k:Int)] 3)).grown D (by simp;omega) (fun j hj=>(World.ownsRow.lt S.o j hj).1);have c:=z2c (World.ownsRow.alloc Ag.o _) (World.ownsRow.alloc S.o _) (by decide) D
      have HN:Hid (q3m s L (k+u.size) (E++[(k,W)]) (some ⟨g2,0,none⟩) (some ⟨g3,0,none⟩) M N w5):=by
       show q3m _ _ _ _ _ _ _ _ _;rw[<-o.o,<-HW.o];refine G.o.next O HS.o Aq.o H ?_ ?_
       ·rw[HW.o,HU.o];exact c
       ·exact J
      clear J D f h H c;go_wp2
      go_roundw
      case rel=>exact⟨k+u.size,E++[(k,W)],some ⟨g2,0,none⟩,some ⟨g3,0,none⟩,M,N,by rw[List.length_append];rfl,by rw[List.length_append];rfl,by rw[Ae.o],by go_num,HN.o⟩
      case measure=>simp[intOf];omega
  ·have Au:¬(k:Int)<(s.size:Int):=by omega
   have HX:Hid (lxF (btL s) 0=none/\lxW (btL s) 0=E):=k1j HR.o O
   have HL:Hid ((q2c (btL s)).length=E.length/\many (q2c (btL s))=mm):=by
    refine⟨?_,?_⟩
    ·rw[q2c,HX.o.2,List.length_map]
    ·rw[q2c,HX.o.2];exact Ad.o
   by_cases Aa:300<mm
   ·have Av:(300:Int)<(mm:Int):=by omega
    have n:Hid (q5u (btL s)=3/\z3f (btL s)=0):=k1g (by rw[q0c];exact t) HX.o.1 (by rw[HL.o.2];exact Aa);go_wp2;refine bodyPost_ret (v:=.tuple #[.slice none 0 0,.slice none 0 0,.int .i64 0,.iface 23 (.int .i64 3)]) (by simp[results,Tryz.results40,go_sem]) rfl ?_;exact⟨.inl ⟨by rw[n.o.1];decide,by rw[n.o.1,n.o.2,k6g];rfl⟩,by rw[Y.o];exact Ac.o⟩
   ·have Av:¬(300:Int)<(mm:Int):=by omega
    have n:Hid (q5u (btL s)=0/\z3f (btL s)=0):=k1h (by rw[q0c];exact t) HX.o.1 (by rw[HL.o.2];exact Aa);go_wp2;refine bodyPost_ret (v:=.tuple #[.slice A E.length a,.slice P E.length X,.int .i64 0,.nilIface]) (by simp[results,Tryz.results40,go_sem]) rfl ?_;refine⟨.inr ⟨n.o.1,A,P,a,X,by rw[HL.o.1],k7l (B:=L.heap.size) ?_ (by rw[Y.o];omega),k7l (B:=L.heap.size) ?_ (by rw[Y.o];omega)⟩,by rw[Y.o];exact Ac.o⟩
    ·show wr.ownsRow _ _ _ _ _ _;rw[List.length_map,HL.o.1,q2c,HX.o.2,List.map_map];exact HR.o.ws
    ·show wr.ownsRow _ _ _ _ _ _;rw[<-z2r,HL.o.1,z1h,HX.o.2];exact HR.o.ps
theorem v0p(s:ByteArray)(w:World):Calls prog 40 #[.string s] w fun e w'=>z7q s w e w'/\Below w w w':=by
 by_cases h:(btL s).length<=60000
 ·exact k5k s w h
 ·have A:Hid (q5u (btL s)=3/\z3f (btL s)=0):=k1f (by omega);have B:60000<(s.size:Int):=by rw[q0c]at h;omega
  clear h;go_in;go_wp2;refine bodyPost_ret (v:=.tuple #[.slice none 0 0,.slice none 0 0,.int .i64 0,.iface 23 (.int .i64 3)]) (by simp[results,Tryz.results40,go_sem]) rfl ?_;exact⟨.inl ⟨by rw[A.o.1];decide,by rw[A.o.1,A.o.2,k6g];rfl⟩,Below.refl _ _⟩
theorem v1l(w:World)(o p:Obj):Below w w ((w.alloc o).alloc p):=((Below.refl _ w).alloc Zl o).alloc (by rw[World.size_alloc];omega) p
theorem z1u(w:World)(o p:Obj):((w.alloc o).alloc p).heap[w.heap.size]?=some o:=by
 have A:((w.heap.push o).push p)[w.heap.size]?=some o:=by
  rw[Array.getElem?_push,if_neg (by simp),Array.getElem?_push,if_pos rfl]
 exact A
theorem q9l(w:World)(o p:Obj):((w.alloc o).alloc p).heap[w.heap.size+1]?=some p:=by
 have A:((w.heap.push o).push p)[w.heap.size+1]?=some p:=by
  rw[Array.getElem?_push,if_pos (by simp)]
 exact A
abbrev ndO(x:Nd):Obj:=.cells #[.int .i64 x.op,.string x.tx,.int .i64 x.n] 107 (0,0)
theorem k7i{x:Nd}{W:World}{k:Nat}(h:W.heap[k]?=some (ndO x)):q1p W (some ⟨k,0,none⟩) [x]:=by
 intro i B;have C:i=0:=by simp at B;exact B
 subst C;have A:k<W.heap.size:=(Array.getElem?_eq_some_iff.1 h).1;refine⟨k,0,rfl,A,?_,?_,?_⟩<;>rw[Lib.cell_of_heap h]<;>rfl
theorem v6v{x:Nd}{xs:List Nd}{A:Option Addr}{c:Nat}(w W:World)(hb:Below w w W)(h0:W.heap[w.heap.size]?=some (ndO x))(h1:W.heap[w.heap.size+1]?=some (.cells #[.slice (some ⟨w,0,none⟩) 1 1,.slice A xs.length c] 49 (0,0)))
  (hN:q1p w A xs) (E:A=none->xs.length=0/\c=0) (hl:xs.length<=100000):
  Calls prog 182 #[.slice (some ⟨w.heap.size+1,0,none⟩) 2 2] W fun e w'=>NdR w (x::xs) e w':=by
 have D:w.heap.size+1<W.heap.size:=(Array.getElem?_eq_some_iff.1 h1).1;have B:∀i,W.cell? ⟨w.heap.size+1,i,none⟩=#[Value.slice (some ⟨w,0,none⟩) 1 1,.slice A xs.length c][i]?:=fun i=>by simp[World.cell?,h1]
 have M:v8t W (some ⟨w.heap.size+1,0,none⟩) [[x],xs]:=by
  intro i N;have L:i=0\/i=1:=by simp at N;omega
  rcases L with rfl|rfl
  ·exact⟨w.heap.size+1,0,some ⟨w,0,none⟩,1,rfl,D,B 0,k7i h0,fun e=>by cases e⟩
  ·exact⟨w.heap.size+1,0,A,c,rfl,D,B 1,hN.W hb,E⟩
 have C:[[x],xs].flatten=x::xs:=by simp
 have I:=z4f [[x],xs] (some ⟨w.heap.size+1,0,none⟩) 2 W M (by rw[C];simp) (by rw[C,List.length_cons];omega) (by simp);rw[C]at I;refine I.mono ?_;rintro e O⟨J,K,rfl,H,G⟩;exact⟨J,K,rfl,H.down hb.size,q0d hb Zl G⟩
theorem v1x{x:Nd}{xs ys:List Nd}{A A':Option Addr}{c c':Nat}(w W:World)(hb:Below w w W)(h0:W.heap[w.heap.size]?=some (ndO x))(h1:W.heap[w.heap.size+1]?=some (.cells #[.slice (some ⟨w,0,none⟩) 1 1,.slice A xs.length c,.slice A' ys.length c'] 49 (0,0)))
  (hN:q1p w A xs) (G:A=none->xs.length=0/\c=0) (hM:q1p w A' ys) (E:A'=none->ys.length=0/\c'=0) (hl:xs.length+ys.length<=100000):
  Calls prog 182 #[.slice (some ⟨w.heap.size+1,0,none⟩) 3 3] W fun e w'=>NdR w (x::(xs++ys)) e w':=by
 have D:w.heap.size+1<W.heap.size:=(Array.getElem?_eq_some_iff.1 h1).1;have B:∀i,W.cell? ⟨w.heap.size+1,i,none⟩=#[Value.slice (some ⟨w,0,none⟩) 1 1,.slice A xs.length c,.slice A' ys.length c'][i]?:=fun i=>by simp[World.cell?,h1]
 have N:v8t W (some ⟨w.heap.size+1,0,none⟩) [[x],xs,ys]:=by
  intro i O;have M:i=0\/i=1\/i=2:=by simp at O;omega
  rcases M with rfl|rfl|rfl
  ·exact⟨w.heap.size+1,0,some ⟨w,0,none⟩,1,rfl,D,B 0,k7i h0,fun e=>by cases e⟩
  ·exact⟨w.heap.size+1,0,A,c,rfl,D,B 1,hN.W hb,G⟩
  ·exact⟨w.heap.size+1,0,A',c',rfl,D,B 2,hM.W hb,E⟩
 have C:[[x],xs,ys].flatten=x::(xs++ys):=by simp
 have J:=z4f [[x],xs,ys] (some ⟨w.heap.size+1,0,none⟩) 3 W N (by rw[C];simp) (by rw[C,List.length_cons,List.length_append];omega) (by simp);rw[C]at J;refine J.mono ?_;rintro e P⟨K,L,rfl,I,H⟩;exact⟨K,L,rfl,I.down hb.size,q0d hb Zl H⟩
theorem q2k(s:ByteArray)(w:World):Calls prog 137 #[.string s] w fun e w'=>NdR w [⟨1,s,0⟩] e w':=by
 have B:=hid (q6c.one w ⟨1,s,0⟩);have A:Hid (∀O:Obj,Below w w (w.alloc O)):=fun O=>(Below.refl _ w).alloc Zl O
 go_in;go_wp2;go_ret;exact⟨_,1,rfl,B.o,A.o _⟩
theorem z1w(w:World):Calls prog 140 #[] w fun e w'=>NdR w [⟨2,⟨#[]⟩,0⟩] e w':=by
 have B:=hid (q6c.one w ⟨2,⟨#[]⟩,0⟩);have A:Hid (∀O:Obj,Below w w (w.alloc O)):=fun O=>(Below.refl _ w).alloc Zl O
 go_in;go_wp2;go_ret;exact⟨_,1,rfl,B.o,A.o _⟩
theorem k1o(w:World):Calls prog 208 #[] w fun e w'=>NdR w [⟨3,⟨#[]⟩,0⟩] e w':=by
 have B:=hid (q6c.one w ⟨3,⟨#[]⟩,0⟩);have A:Hid (∀O:Obj,Below w w (w.alloc O)):=fun O=>(Below.refl _ w).alloc Zl O
 go_in;go_wp2;go_ret;exact⟨_,1,rfl,B.o,A.o _⟩
theorem q9n{xs:List Nd}{v:Value}(w:World)(hx:NdV w v xs)(hl:xs.length<=100000):Calls prog 139 #[v] w fun e w'=>NdR w (⟨7,⟨#[]⟩,2⟩::xs) e w':=by
 obtain⟨A,c,rfl,E,B⟩:=hx;have D:=hid (fun W C h2 h3=>v6v (x:=⟨7,⟨#[]⟩,2⟩) (c:=c) w W C h2 h3 E B hl);clear E B hl;generalize xs.length=n at D⊢;go_in;go_wp2_with fail;refine(D.o _ (v1l w _ _) (z1u w _ _) (q9l w _ _)).mono ?_;rintro e I C;have G:=hid C;obtain⟨H,rfl,_,_⟩:=C.val;clear C;go_wp2;go_ret;exact G.o
theorem z1y{xs:List Nd}{v:Value}(w:World)(hx:NdV w v xs)(hl:xs.length<=100000):Calls prog 138 #[v] w fun e w'=>NdR w (⟨8,⟨#[]⟩,0⟩::xs) e w':=by
 obtain⟨A,c,rfl,E,B⟩:=hx;have D:=hid (fun W C h2 h3=>v6v (x:=⟨8,⟨#[]⟩,0⟩) (c:=c) w W C h2 h3 E B hl);clear E B hl;generalize xs.length=n at D⊢;go_in;go_wp2_with fail;refine(D.o _ (v1l w _ _) (z1u w _ _) (q9l w _ _)).mono ?_;rintro e I C;have G:=hid C;obtain⟨H,rfl,_,_⟩:=C.val;clear C;go_wp2;go_ret;exact G.o
theorem q1m{xs ys:List Nd}{v u:Value}(w:World)(hx:NdV w v xs)(hy:NdV w u ys)(hl:xs.length+ys.length<=100000):Calls prog 135 #[v,u] w fun e w'=>NdR w (⟨6,⟨#[]⟩,0⟩::(xs++ys)) e w':=by
 obtain⟨A,c,rfl,H,C⟩:=hx;obtain⟨J,c',rfl,G,B⟩:=hy;have E:=hid (fun W D h2 h3=>v1x (x:=⟨6,⟨#[]⟩,0⟩) (c:=c) (c':=c') w W D h2 h3 H C G B hl);clear H C G B hl;generalize xs.length=n at E⊢;generalize ys.length=m at E⊢;go_in;go_wp2_with fail;refine(E.o _ (v1l w _ _) (z1u w _ _) (q9l w _ _)).mono ?_;rintro e L D;have I:=hid D;obtain⟨K,rfl,_,_⟩:=D.val;clear D;go_wp2;go_ret;exact I.o
structure Ly(w0:World)(b:Nat)(ds:List Td)(w:World)(A:Option Addr)(c:Nat):Prop where
 x:w.heap[b]?=some (.cells #[.slice A ds.length c] 144 (0,0))
 le:ds.length<=c
 td:Tds w0 A ds
 bl:Below w0 w0 w
 lt:w0.heap.size<=b
def LyE(w0:World)(b:Nat)(ds:List Td)(w:World):Prop:=∃A c,Ly w0 b ds w A c
theorem Ly.in{w0:World}{b:Nat}{ds:List Td}{w:World}{A:Option Addr}{c:Nat}(h:Ly w0 b ds w A c):b<w.heap.size:=(Array.getElem?_eq_some_iff.1 h.x).1
theorem LyE.grew{w0:World}{b:Nat}{ds:List Td}{w w':World}(h:LyE w0 b ds w)(hb:Below w w w'):LyE w0 b ds w':=by
 obtain⟨A,c,h⟩:=h;exact⟨A,c,(hb.block b h.in).trans h.x,h.le,h.td,q0d h.bl Zl hb,h.lt⟩
structure Lk(w0:World)(b:Nat)(w:World)(rest:List Td)(wk:World):Prop where
 bt:But w b w wk
 ly:LyE w0 b rest wk
 lt:b<w.heap.size
theorem Lk.step{w0:World}{b:Nat}{w:World}{rest:List Td}{wk w':World}(h:Lk w0 b w rest wk)(hb:Below wk wk w'):Lk w0 b w rest w':=
 ⟨h.bt.trans (But.of (hb.mono h.bt.size)),h.ly.grew hb,h.lt⟩
theorem Lk.in{w0:World}{b:Nat}{w:World}{rest:List Td}{wk:World}(h:Lk w0 b w rest wk):b<wk.heap.size:=Nat.lt_of_lt_of_le h.lt h.bt.size
def NdB(b:Nat)(w:World)(v:Value)(xs:List Nd):Prop:=∃A c B,v=.slice A xs.length c/\b<B/\q6c B (.slice A xs.length c) xs w
theorem NdB.but{b:Nat}{w w':World}{v:Value}{xs:List Nd}(h:NdB b w v xs)(hb:But w b w w'):NdB b w' v xs:=by
 obtain⟨A,c,B,e,C,D⟩:=h;exact⟨A,c,B,e,C,D.kept fun g h1 h2=>hb.block g h2 (by omega)⟩
theorem NdB.bel{b:Nat}{w w':World}{v:Value}{xs:List Nd}(h:NdB b w v xs)(hb:Below w w w'):NdB b w' v xs:=h.but (.of hb)
theorem NdB.val{b:Nat}{w:World}{v:Value}{xs:List Nd}(h:NdB b w v xs):NdV w v xs:=by
 obtain⟨A,c,B,rfl,D,C⟩:=h;exact C.val
theorem NdR.valB{w:World}{xs:List Nd}{e:Ending}{w':World}{b:Nat}(h:NdR w xs e w')(hb:b<w.heap.size):∃v,e=.returned v/\NdB b w' v xs/\Below w w w':=by
 obtain⟨A,c,e,B,C⟩:=h;exact⟨_,e,⟨A,c,_,rfl,hb,B⟩,C⟩
def NdG(w0:World)(b:Nat)(w:World)(xs:List Nd)(rest:List Td)(e:Ending)(w':World):Prop:=∃A c,e=.returned (.slice A xs.length c)/\q6c w.heap.size (.slice A xs.length c) xs w'/\Lk w0 b w rest w'
theorem NdR.gof{w0:World}{b:Nat}{w wk:World}{xs:List Nd}{B:List Td}{e:Ending}{w':World}(h:NdR wk xs e w')(hk:Lk w0 b w B wk):NdG w0 b w xs B e w':=by
 obtain⟨A,c,e,C,D⟩:=h;exact⟨A,c,e,C.down hk.bt.size,hk.step D⟩
theorem NdG.val{w0:World}{b:Nat}{w:World}{xs:List Nd}{B:List Td}{e:Ending}{w':World}(h:NdG w0 b w xs B e w'):∃v,e=.returned v/\NdB b w' v xs/\Lk w0 b w B w':=by
 obtain⟨A,c,e,D,C⟩:=h;exact⟨_,e,⟨A,c,_,rfl,C.lt,D⟩,C⟩
theorem Lk.then{w0:World}{b:Nat}{w wk w':World}{r1 r2:List Td}(h:Lk w0 b w r1 wk)(k:Lk w0 b wk r2 w'):Lk w0 b w r2 w':=⟨h.bt.trans (k.bt.mono h.bt.size),k.ly,h.lt⟩
theorem NdG.then{w0:World}{b:Nat}{w wk w':World}{r1 r2:List Td}{xs:List Nd}{e:Ending}(h:Lk w0 b w r1 wk)(k:NdG w0 b wk xs r2 e w'):NdG w0 b w xs r2 e w':=by
 obtain⟨A,c,e,B,C⟩:=k;exact⟨A,c,e,B.down h.bt.size,h.then C⟩
theorem v9b{w:World}{k:Nat}{a a':Value}{T:TypeId}(h:w.heap[k]?=some (.cells #[a] T (0,0))):(w.setCell ⟨k,0,none⟩ a').heap[k]?=some (.cells #[a'] T (0,0)):=by
 simp[World.setCell,Array.getElem?_modify,h]
theorem q4h{w0:World}{b:Nat}{x:Td}{ds:List Td}{w:World}(h:LyE w0 b (x::ds) w):
  Calls prog 134 #[.pointer (some ⟨b,0,none⟩)] w fun e w'=>e=.returned (tdV x)/\Lk w0 b w ds w':=by
 obtain⟨A,c,h⟩:=h;obtain⟨C,J,rfl,B,K,L,M⟩:=h.td 0 (by simp);obtain⟨G,D,E⟩:=y2a h.td h.le;simp only[List.getElem_cons_zero,Nat.zero_mul,Nat.add_zero]at K L M;obtain⟨I,_⟩:=q1y h.bl;have a:w.cell? ⟨C,J,none⟩=some (.int .i64 x.op):=(I _ _ B).trans K;have d:w.cell? ⟨C,J+1,none⟩=some (.string x.tx):=(I _ _ B).trans L;have f:w.cell? ⟨C,J+2,none⟩=some (.int .i64 x.n):=(I _ _ B).trans M;have N:b<w.heap.size:=h.in;have Z:C<w.heap.size:=Nat.lt_of_lt_of_le B h.bl.size;have U:w.cell? ⟨b,0,none⟩=some (.slice (some ⟨C,J,none⟩) (x::ds).length c):=by rw[Lib.cell_of_heap h.x];rfl
 have g:w.frozen? ⟨b,0,none⟩=false:=Lib.frozen_of_heap h.x 0;have X:¬C=b:=by have:=h.lt;omega
 have H:=hid h;have S:Hid (Tds w0 G ds):=E;have O:=h.le;generalize Q:(x::ds).length=n at U D O;have V:0<n:=by rw[<-Q];simp
 clear h E K L M I Q;generalize P:ds.length=m at D;have R:Hid (ds.length=m):=P;clear P;go_in;go_wp2;refine bodyPost_ret (v:=tdV x) (by simp[results,Tryz.results134,go_sem]) rfl ?_;have h:=H.o
 have Y:LyE w0 b ds (w.setCell ⟨b,0,none⟩ (.slice G m (c-1))):=by
  refine⟨G,c-1,?_,?_,S.o,h.bl.setCell (p:=⟨b,0,none⟩) h.lt _,h.lt⟩
  ·rw[R.o];exact v9b h.x
  ·have:=h.le;simp only[List.length_cons]at this;omega
 have W:Lk w0 b w ds (w.setCell ⟨b,0,none⟩ (.slice G m (c-1))):=⟨(But.refl _ _ _).setCell (p:=⟨b,0,none⟩) (.inl rfl) _,Y,N⟩;exact⟨rfl,W.step (v1l _ _ _)⟩
theorem k4m(c:Int)(h:c=0\/c=1)(w:World):Calls prog 50 #[.int .i64 c] w fun e w'=>e=.returned (.bool false)/\w=w':=by
 rcases h with rfl|rfl
 all_goals
  go_in;go_wp2;go_ret;exact⟨rfl,rfl⟩
theorem k1w(c:Int)(h0:c≠0)(h1:c≠1)(w:World):Calls prog 50 #[.int .i64 c] w fun e w'=>e=.returned (.bool true)/\w=w':=by
 have A:(c != 0)=true:=by simp[h0]
 have B:(c != 1)=true:=by simp[h1]
 clear h0 h1;go_in;go_wp2;go_ret;exact⟨rfl,rfl⟩
theorem z0e(ws:List Int)(wa:Option Addr)(wc:Nat)(w:World)(hI:q7r w wa ws)(hl:ws.length<=9223372036854775807):
  Calls prog 89 #[.slice wa ws.length wc,.func (.func 50) #[] #[]] w fun e w'=>((q2q ws/\e=.returned (.int .i64 (-1)))\/(¬q2q ws/\∃k:Nat,e=.returned (.int .i64 k)))/\w=w':=by
 have L:Hid (q7r w wa ws):=hI;clear hI;go_in;go_wp2_with fail
 go_loopw [8] (fun i wr=>wr=w/\∃k:Nat,k<=ws.length/\i=.int .i64 k/\∀j(h:j<ws.length),j<k->ws[j]=0\/ws[j]=1) (fun i _=>ws.length-(intOf i).toNat)
 case atStart=>exact⟨rfl,0,Nat.zero_le _,rfl,fun j _ I=>by omega⟩
 case round=>
  obtain⟨rfl,k,R,rfl,C⟩:=hrel;have K:Hid (∀j(h:j<ws.length),j<k->ws[j]=0\/ws[j]=1):=C;clear C;by_cases E:k<ws.length
  ·obtain⟨P,S,M,N,Q⟩:=L.o k E;subst M;by_cases A:ws[k]=0\/ws[k]=1
   ·have G:Hid (∀j(h:j<ws.length),j<k+1->ws[j]=0\/ws[j]=1):=fun j h I=>by
     by_cases J:j=k
     ·subst J;exact A
     ·exact K.o j h (by omega)
    have D:Hid (ws[k]=0\/ws[k]=1):=A;clear A;go_wp2_with fail;refine(k4m _ D.o _).mono ?_;rintro e O⟨rfl,rfl⟩;go_wp2
    go_roundw
    case rel=>exact⟨by trivial,k+1,by omega,by go_num,G.o⟩
    case measure=>simp[intOf];omega
   ·have D:Hid (¬(ws[k]=0\/ws[k]=1)):=A;clear A;go_wp2_with fail;refine(k1w _ (fun h=>D.o (.inl h)) (fun h=>D.o (.inr h)) _).mono ?_;rintro e O⟨rfl,rfl⟩;go_wp2;go_ret;exact⟨.inr ⟨fun B=>D.o (B _ (List.getElem_mem E)),k,rfl⟩,rfl⟩
  ·have B:q2q ws:=fun c hc=>by
    obtain⟨j,I,rfl⟩:=List.getElem_of_mem hc;exact K.o j I (by omega)
   have H:Hid (q2q ws):=B;clear B;go_wp2;go_ret;exact⟨.inl ⟨H.o,rfl⟩,rfl⟩
theorem y7g(ws:List Int)(wa:Option Addr)(wc:Nat)(w:World)(hI:q7r w wa ws)(hl:ws.length<=9223372036854775807)(h:q2q ws):
  Calls prog 49 #[.slice wa ws.length wc,.func (.func 50) #[] #[]] w fun e w'=>e=.returned (.bool false)/\w=w':=by
 have B:Hid (q7r w wa ws):=hI;have H:Hid (q2q ws):=h;clear hI h;go_in;go_wp2_with fail;refine(z0e ws wa wc _ B.o hl).mono ?_;rintro e C⟨A,rfl⟩;rcases A with⟨_,rfl⟩|⟨A,_⟩
 ·go_wp2;go_ret;exact⟨rfl,rfl⟩
 ·exact absurd H.o A
theorem y3n(ws:List Int)(wa:Option Addr)(wc:Nat)(w:World)(hI:q7r w wa ws)(hl:ws.length<=9223372036854775807)(h:¬q2q ws):
  Calls prog 49 #[.slice wa ws.length wc,.func (.func 50) #[] #[]] w fun e w'=>e=.returned (.bool true)/\w=w':=by
 have B:Hid (q7r w wa ws):=hI;have H:Hid (¬q2q ws):=h;clear hI h;go_in;go_wp2_with fail;refine(z0e ws wa wc _ B.o hl).mono ?_;rintro e D⟨A,rfl⟩;rcases A with⟨A,_⟩|⟨_,k,rfl⟩
 ·exact absurd A H.o
 ·have C:(0:Int)<=(k:Int):=by omega
  go_wp2;go_ret;exact⟨rfl,rfl⟩
def q0j(ws:List Int):List Value:=ws.map (.int .i64)
theorem z2m(ws:List Int):(q0j ws).length=ws.length*1:=by simp[q0j]
theorem k0y(ws:List Int):∀u∈q0j ws,u.oneCell'=true:=by
 intro u A;obtain⟨x,_,rfl⟩:=List.mem_map.1 A;rfl
theorem z2l(a b:List Int):q0j (a++b)=q0j a++q0j b:=by simp[q0j]
theorem y8v(b o k:Nat):(⟨b,o,none⟩:Addr).add k=⟨b,o+k,none⟩:=by
 unfold Addr.add
 split
 ·rename_i h;subst h;rfl
 ·rfl
theorem j4y{B:Nat}{w:World}{ad:Addr}{ws:List Int}(h:q1h B w (some ad) ws):∀j u,(q0j ws)[j]?=some u->w.cell? (ad.add j)=some u:=by
 intro j u C;have A:j<ws.length:=by have:=(List.getElem?_eq_some_iff.1 C).1;simpa[q0j]using this
 obtain⟨b,o,e,_,c⟩:=h j A;simp only[Option.some.injEq]at e;subst e;rw[y8v]
 have:u=.int .i64 ws[j]:=by simp[q0j,A]at C;exact C.symm
 rw[this];exact c
theorem z9b{B:Nat}{w:World}{a:Option Addr}{n cap m:Nat}{ws:List Int}(h:w.ownsRow B 3 1 (.slice a n cap) m (q0j ws)):m=ws.length/\n=ws.length/\ws.length<=cap/\q7r w a ws/\(a=none->ws=[]/\cap=0):=by
 have I:m=ws.length:=by have:=h.1;rw[z2m]at this;omega
 rcases h.2 with⟨C,O⟩|⟨g,c,K,C,_,J,L,_,M,A⟩
 ·simp only[Value.slice.injEq]at C;obtain⟨rfl,rfl,rfl⟩:=C;have N:ws=[]:=List.eq_nil_of_length_eq_zero (by omega);subst N;exact⟨I,rfl,Nat.le_refl _,fun i E=>by simp at E,fun _=>⟨rfl,rfl⟩⟩
 ·simp only[Value.slice.injEq]at C;obtain⟨rfl,rfl,rfl⟩:=C;refine⟨I,I,by omega,?_,fun h=>by cases h⟩;intro i E
  have H:g<w.heap.size:=by
   rcases Nat.lt_or_ge g w.heap.size with D|D
   ·exact D
   ·simp[Array.getElem?_eq_none D]at J
  refine⟨g,0,rfl,H,?_⟩;have G:(q0j ws)[i]?=some (.int .i64 ws[i]):=by simp[q0j,E]
  rw[<-A]at G;rw[List.getElem?_take_of_lt (by omega)]at G;rw[Nat.zero_add];simp only[World.cell?,J];simpa using G
theorem z1f{w:World}{G:Array Oper}{B:List Oper}{o:Oper}{a:Act}{Q:Exit->Act->World->Prop}(D:o.guard=none)(s x:Operand)
  (ho:o.op=.call {callee:=.builtin .append,args:=#[s,x],argTypes:=#[45,45]})
  (base:Nat) (v:Value) (n:Nat) (xs:List Int) (hs:a.eval s=v) (A:w.ownsRow base 3 1 v n (q0j xs))
  (wa:Option Addr) (ws:List Int) (wc:Nat) (hx:a.eval x=.slice wa ws.length wc) (hI:q7r w wa ws) (E:wa=none->ws=[]/\wc=0)
  (hb:n+ws.length<=1000000) (C:base<=w.heap.size)
  (h:∀v' w',w'.ownsRow base 3 1 v' (n+ws.length) (q0j (xs++ws))->w.grownBy w' v.ownBlock->wpList prog G Q B (a.put o.dst v') w'):wpList prog G Q (o::B) a w:=by
 obtain⟨M,L,H,I,J⟩:=info_parts k3x;cases wa with
 | none=>
  obtain⟨rfl,rfl⟩:=E rfl;refine wpList_append_own_none D s x 45 ho base 3 M 1 Tryz.underlying45 L v n (q0j xs) hs A hx ?_;refine h v w ?_ ⟨rfl,rfl,rfl,Nat.le_refl _,fun _ _ _=>rfl⟩;rw[List.append_nil];exact A
 | some ad=>
  refine wpList_append_own w D s x 45 ho base 3 M _ 1 8 Tryz.underlying45 L H I J rfl (by decide) v n (q0j xs) hs A ad ws.length wc (q0j ws) hx (z2m ws) (j4y hI) (k0y ws) (by unfold maxLen;omega) (by omega) C ?_;intro v' w' K N _;rw[<-z2l]at K;exact h v' w' K N
theorem q8u{w:World}{B e A n k:Nat}{v:Value}{xs:List Value}(h:w.ownsRow B e A v n xs)(hk:v.ownBlock=some k):k<w.heap.size/\∃cur,w.heap[k]?=some (.cells cur e (0,0)):=by
 rcases h.2 with⟨rfl,_⟩|⟨g,c,cur,rfl,_,C,_⟩
 ·simp[Value.ownBlock]at hk
 ·simp only[Value.ownBlock,Option.some.injEq]at hk;subst hk;exact⟨(Array.getElem?_eq_some_iff.1 C).1,cur,C⟩
theorem z9c{w w':World}{B e A n:Nat}{v:Value}{xs:List Value}(h:w.ownsRow B e A v n xs)(hk:∀k,v.ownBlock=some k->w'.heap[k]?=w.heap[k]?):w'.ownsRow B e A v n xs:=by
 refine⟨h.1,?_⟩;rcases h.2 with E|⟨g,c,D,rfl,G,H,C⟩
 ·exact .inl E
 ·exact .inr ⟨g,c,D,rfl,G,(hk g rfl).trans H,C⟩
theorem z9a{w:World}{B B' e A n:Nat}{v:Value}{xs:List Value}(h:w.ownsRow B e A v n xs)(hB:B'<=B):w.ownsRow B' e A v n xs:=by
 refine⟨h.1,?_⟩;rcases h.2 with E|⟨g,c,D,rfl,G,C⟩
 ·exact .inl E
 ·exact .inr ⟨g,c,D,rfl,Nat.le_trans hB G,C⟩
theorem j8j{w:World}{B B' e e' C A n n' k k':Nat}{v v':Value}{xs E:List Value}(h:w.ownsRow B e C v n xs)(h':w.ownsRow B' e' A v' n' E)(he:e≠e')(hk:v.ownBlock=some k)(D:v'.ownBlock=some k'):k≠k':=by
 intro H;subst H;obtain⟨_,c,I⟩:=q8u h hk;obtain⟨_,J,G⟩:=q8u h' D;rw[I]at G;cases G;exact he rfl
theorem y7r(B b:Nat)(ds:List Nd)(a:Option Addr)(cap:Nat)(hl:ds.length<=400)(tx:ByteArray)(n:Int)(A:List Nd)(f:Nat->List Int->Except Int (List UInt8 × List Int))(sA:ByteArray)(fl:Bool)(hA:q6b B b ds a cap A f)(hF:q2d ds a cap A sA fl)(Ag:sA.size<=8800):q6b B b ds a cap (⟨8,tx,n⟩::A) (q4r f sA fl):=by
 intro i r j K wa wc s w hd hN hI M z d Ac;obtain⟨hi,e1,e2⟩:=q0s (x:=⟨8,tx,n⟩) (r:=A++r) hd;obtain⟨Q,R,ea,Af,d1,d2,d3⟩:=hN i hi;subst ea;rw[e1]at d1 d2 d3;dsimp only at d1 d2 d3;simp only[List.length_cons]at d Ac;have o:Hid (ds.drop (i+1)=A++r):=e2;have t:Hid (q5k B w (some ⟨Q,R,none⟩) ds):=hN;have g:Hid (q1h B w wa K):=hI;have S:Hid (q3s B b (.slice (some ⟨Q,R,none⟩) ds.length cap) (.slice wa K.length wc) s 0 w):=z;have Aa:=z.bsize;obtain⟨k,h1,c0,h,c2,c3,f1,f2,f3⟩:=z;have Ad:Q<w.heap.size:=by omega
 have X:Hid (∀O:Obj,Below B w (w.alloc O)):=fun O=>(Below.refl _ w).alloc Aa O
 have HA:Hid (q6b B b ds (some ⟨Q,R,none⟩) cap A f):=hA;have HF:Hid (q2d ds (some ⟨Q,R,none⟩) cap A sA fl):=hF;have u:Hid (((i+1:Nat):Int)=(i:Int)+1):=(show _=_ by omega);clear hd e1 e2 hN hI hA hF
 match K,g,S,M,h with
 | [],g,S,M,h=>
  simp only[List.length_nil]at S h;go_in;go_wp2_with fail;refine(z3s (S.o.alloc _)).mono ?_;rintro e N⟨rfl,E,G⟩;have C:Hid (q3s B b (.slice (some ⟨Q,R,none⟩) ds.length cap) (.slice wa 0 wc) s 2 N):=E;obtain⟨_,_,_,_,_,y,_,_,_⟩:=E;go_wp2;refine bodyPost_ret (results_none rfl _ _ _) rfl ?_;exact⟨rfl,⟨by decide,_,_,C.o⟩,(X.o _).trans G⟩
 | c::K,g,S,M,h=>
  simp only[List.length_cons]at S h M;by_cases l:c=1
  ·subst l;go_in;go_wp2_with fail;refine(q5b 1 K (S.o.alloc _) (g.o.W (X.o _)) M).mono ?_;rintro e N⟨rfl,⟨D,I,E,L,U⟩,G⟩;have C:Hid (q3s B b (.slice (some ⟨Q,R,none⟩) ds.length cap) (.slice D K.length I) s 0 N):=E;have Z:Hid (q1h B N D K):=L;have J:Hid (Below B w N):=(X.o _).trans G;obtain⟨_,_,_,_,_,y,_,_,_⟩:=E;clear L G;go_wp2_with fail;rw[<-u.o];refine(HA.o (i+1) r j K D I s _ o.o (t.o.W J.o) Z.o U C.o (by omega) (by omega)).mono ?_;rintro e V⟨rfl,Ab,H⟩;go_wp2;refine bodyPost_ret (results_none rfl _ _ _) rfl ?_;refine⟨rfl,?_,J.o.trans H⟩;rw[q4r,if_pos rfl];exact Ab
  ·have Ae:(c==1)=false:=by simp[l]
   have HC:Hid (¬c=1):=l;clear l;cases fl with
   | true=>
    go_in;go_wp2_with fail;refine(q5b c K (S.o.alloc _) (g.o.W (X.o _)) M).mono ?_;rintro e N⟨rfl,⟨D,I,E,L,U⟩,G⟩;have C:Hid (q3s B b (.slice (some ⟨Q,R,none⟩) ds.length cap) (.slice D K.length I) s 0 N):=E;have Z:Hid (q1h B N D K):=L;have J:Hid (Below B w N):=(X.o _).trans G;obtain⟨_,k1,k0,_,_,k3,_,_,_⟩:=E;clear L G;go_wp2_with fail;rw[<-u.o];refine(HF.o (i+1) r _ o.o ((t.o.W J.o).nods C.o.bsize)).mono ?_;rintro e V⟨rfl,H⟩;have P:Hid (q3s B b (.slice (some ⟨Q,R,none⟩) ds.length cap) (.slice D K.length I) s 0 V):=C.o.W H;have Y:Hid (Below B w V):=J.o.trans (C.o.grown H);have q:Hid (q1h B V D K):=Z.o.W (C.o.grown H);obtain⟨_,m1,m0,_,m2,m3,_,g2,y⟩:=P.o;clear k1 k0 k3 H;go_wp2
    go_end0
    have m:∀v,Below B w (V.setCell ⟨b,2,none⟩ v):=fun v=>Y.o.setCell (p:=⟨b,2,none⟩) k _
    refine⟨rfl,?_,m _⟩;rw[q4r,if_neg HC.o,if_pos rfl];exact⟨D,I,s++sA,by simp,P.o.text _,q.o.W ((Below.refl B V).setCell (p:=⟨b,2,none⟩) k _),U⟩
   | false=>
    go_in;go_wp2_with fail;refine(q5b c K (S.o.alloc _) (g.o.W (X.o _)) M).mono ?_;rintro e N⟨rfl,⟨D,I,E,L,U⟩,G⟩;have C:Hid (q3s B b (.slice (some ⟨Q,R,none⟩) ds.length cap) (.slice D K.length I) s 0 N):=E;have J:Hid (Below B w N):=(X.o _).trans G;obtain⟨_,k1,k0,_,_,k3,_,_,_⟩:=E;clear L G;go_wp2_with fail;rw[<-u.o];refine(HF.o (i+1) r _ o.o ((t.o.W J.o).nods C.o.bsize)).mono ?_;rintro e V⟨rfl,H⟩;have P:Hid (q3s B b (.slice (some ⟨Q,R,none⟩) ds.length cap) (.slice D K.length I) s 0 V):=C.o.W H;have Y:Hid (Below B w V):=J.o.trans (C.o.grown H);obtain⟨_,m1,m0,_,m2,m3,_,g2,y⟩:=P.o;clear k1 k0 k3 H;go_wp2
    go_end0
    refine⟨rfl,?_,(Y.o.setCell (p:=⟨b,3,none⟩) k _).setCell (p:=⟨b,2,none⟩) k _⟩;rw[q4r,if_neg HC.o,if_neg (by decide)];exact⟨by decide,_,_,(P.o.fault 4).text _⟩
theorem y7o(B b:Nat)(ds:List Nd)(a:Option Addr)(cap:Nat)(tx:ByteArray)(n:Int):q6b B b ds a cap (⟨5,tx,n⟩::[]) (fun _ ws=>.ok ([],ws)):=by
 intro i r P ws J wc s w U E S I D A H;obtain⟨d,Q,R⟩:=q0s (x:=⟨5,tx,n⟩) (r:=[]++r) U;obtain⟨C,V,Z,e,L,M,N⟩:=E i d;subst Z;rw[Q]at L M N;dsimp only at L M N;simp only[List.length_cons,List.length_nil]at A H;have f:Hid (ds.drop (i+1)=[]++r):=R;have g:Hid (q5k B w (some ⟨C,V,none⟩) ds):=E;have X:Hid (q1h B w J ws):=S;have Y:Hid (q3s B b (.slice (some ⟨C,V,none⟩) ds.length cap) (.slice J ws.length wc) s 0 w):=D;have G:=D.bsize;obtain⟨q,t,h,j,k,l,m,o,p⟩:=D;have c:C<w.heap.size:=by omega
 have K:Hid (∀O:Obj,Below B w (w.alloc O)):=fun O=>(Below.refl _ w).alloc G O
 clear U Q R E S;go_in;go_wp2
 go_end0
 exact⟨rfl,⟨J,wc,s,by simp,Y.o.alloc _,X.o.W (K.o _),I⟩,K.o _⟩
theorem y7n(B b:Nat)(ds:List Nd)(a:Option Addr)(cap:Nat)(tx:ByteArray)(n:Int)(ht:tx.size<=20):q6b B b ds a cap (⟨1,tx,n⟩::[]) (fun _ ws=>.ok (tx.data.toList,ws)):=by
 intro i r P ws K wc s w U H S J G A I;obtain⟨e,Q,R⟩:=q0s (x:=⟨1,tx,n⟩) (r:=[]++r) U;obtain⟨E,V,Z,f,L,M,N⟩:=H i e;subst Z;rw[Q]at L M N;dsimp only at L M N;simp only[List.length_cons,List.length_nil]at A I;have h:Hid (ds.drop (i+1)=[]++r):=R;have j:Hid (q5k B w (some ⟨E,V,none⟩) ds):=H;have X:Hid (q1h B w K ws):=S;have Y:Hid (q3s B b (.slice (some ⟨E,V,none⟩) ds.length cap) (.slice K ws.length wc) s 0 w):=G;have D:=G.bsize;obtain⟨c,y,k,l,m,o,q,t,u⟩:=G;have d:E<w.heap.size:=by omega
 have g:Hid (∀O:Obj,Below B w (w.alloc O)):=fun O=>(Below.refl _ w).alloc D O
 clear U Q R H S;go_in;go_wp2_with fail
 go_region
 all_goals
  go_wp2
  go_end0
  have C:∀(O:Obj)(v:Value),Below B w ((w.setCell ⟨b,2,none⟩ v).alloc O).drew:=fun O v=>Below.drew (((Below.refl B w).setCell (p:=⟨b,2,none⟩) c _).alloc (by rw[z0r];exact D) O)
  exact⟨rfl,⟨K,wc,s++tx,by simp,q3s.drew ((Y.o.text _).alloc _),X.o.W (C _ _),J⟩,C _ _⟩
end Go.Proofs.YtfdppahhbpfnoaaGreatDoor
