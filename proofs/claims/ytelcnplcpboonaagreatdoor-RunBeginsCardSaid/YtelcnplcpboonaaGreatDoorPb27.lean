import Derived.Test.YtelcnplcpboonaaGreatDoorPb21
import Derived.Test.YtelcnplcpboonaaGreatDoorShf
import Derived.Test.YtelcnplcpboonaaGreatDoorPb18
open Go.Proofs.Tryz
namespace Go.Proofs.YtelcnplcpboonaaGreatDoor
open Go Go.RowKit
set_option maxRecDepth 100000
set_option maxHeartbeats 4000000
theorem q7c(s:ByteArray)(w:World)(h:s.size<=281474976710656):
  Calls prog 115 #[.string s] w fun e w'=>e=.returned (.string s)/\Below w w w':=by
 go_in;go_wp2_with fail;refine(clone_sh s _ h).mono ?_;rintro e B⟨rfl,A⟩;go_wp2;go_ret;exact⟨rfl,A⟩
theorem v7m(c:UInt8):(btL (⟨#[32,10]⟩:ByteArray)).any (·==c)=spB c:=by
 show((32==c)||((10==c)||false))=(c==32||c==10)
 rw[Bool.or_false,BEq.comm (a:=(32:UInt8)),BEq.comm (a:=(10:UInt8))]
theorem q3u.later{s:ByteArray}{w:World}{i:Nat}{dn:List (Nat × List UInt8)}{A P:Option Addr}{ac pc:Nat}{wr wr':World}(h:q3u s w i dn A P ac pc wr)(hb:Below wr wr wr'):q3u s w i dn A P ac pc wr':=
 {b:=h.b.trans (hb.mono h.b.size),le:=h.le,ln:=h.ln,eq:=h.eq,ws:=q1z h.ws hb,ps:=q1z h.ps hb}
theorem y4g{s:ByteArray}{k:Nat}(h:k<s.size):0<(s.extract k s.size).size/\∀h0:0<(s.extract k s.size).size,(s.extract k s.size)[0]=s[k]:=by
 have B:0<(s.extract k s.size).size:=by rw[ByteArray.size_extract];omega
 refine⟨B,fun h0=>?_⟩;have A:=q5n h0;rw[k5f,q1t h,List.cons.injEq]at A;exact A.1.symm
theorem j5b{s:ByteArray}{k:Nat}(h:k<s.size)(hs:s.size<=60000)(A:spB s[k]=false)(W:World):
  Calls prog 114 #[.string (s.extract k s.size)] W fun e w'=>e=.returned (.tuple #[.string (wbS (tkW ((btL s).drop k))),.bool (tOk s k)])/\Below W W w':=by
 obtain⟨B,C⟩:=y4g h
 have:=j3n (s.extract k s.size) W B (by rw[ByteArray.size_extract];omega) (by rw[C B];exact A)
 unfold q9u at this;rw[k5f]at this;exact this
theorem y3a{l:List UInt8}{c:UInt8}{z:List UInt8}(h:l=c::z)(h0:0<(wbS l).size):(wbS l)[0]=c:=by
 subst h;rfl
theorem j9b{s:ByteArray}{k:Nat}(h:k<s.size)(A:spB s[k]=false):0<(wbS (tkW ((btL s).drop k))).size/\∀h0:0<(wbS (tkW ((btL s).drop k))).size,(wbS (tkW ((btL s).drop k)))[0]=s[k]:=by
 have C:∃z,tkW ((btL s).drop k)=s[k]::z:=by
  rw[tkW,q1t h];have E:=q3n s[k] ((btL s).drop (k+1));obtain⟨m,D⟩:∃m,q0m (s[k]::(btL s).drop (k+1))=m+1:=⟨_,(Nat.sub_add_cancel E).symm⟩;rw[D,List.take_succ_cons];exact z0x (k9s A) _
 obtain⟨z,B⟩:=C;exact⟨by rw[q3h,B];simp,fun h0=>y3a B h0⟩
theorem q3u.next{s:ByteArray}{w:World}{i:Nat}{dn:List (Nat × List UInt8)}{A P:Option Addr}{ac pc:Nat}{wr:World}(h:q3u s w i dn A P ac pc wr)(hi:i<s.size)(hs:spB s[i]=false)(ho:tOk s i=true){A' P':Option Addr}{B C:Nat}{w':World}(hb:Below w w w')
  (h1:w'.ownsRow w.heap.size 9 1 (.slice A' (dn.length+1) B) (dn.length+1) (strCells (dn.map fun x=>wbS x.2)++[.string (wbS (tkW ((btL s).drop i)))])) (h2:w'.ownsRow w.heap.size 3 1 (.slice P' (dn.length+1) C) (dn.length+1) (q1w (dn.map (·.1))++[.int .i64 (i:Int)])):
  q3u s w (i+(tkW ((btL s).drop i)).length) (dn++[(i,tkW ((btL s).drop i))]) A' P' B C w':=by
 have D:=h.word hi hs ho hb h1 h2
 have H:1<=(tkW ((btL s).drop i)).length:=by
  rw[tOk,q1t hi]at ho;rw[q1t hi];exact y2u hs ho
 have G:(tkW ((btL s).drop i)).length+i<=s.size:=by
  have:=z0w ((btL s).drop i)
  rw[List.length_drop,q0b]at this;omega
 have e:=D.eq;have E:=v2u ((btL s).drop i) i;rw[List.drop_drop,List.drop_drop]at E;refine{b:=D.b,le:=by omega,ln:=by have:=h.ln;simp;omega,eq:=?_,ws:=D.ws,ps:=D.ps};rw[e,lxW,lxF,lxW,lxF,E];rfl
theorem k6h{w:World}{B B' e A n:Nat}{v:Value}{xs:List Value}(h:w.ownsRow B e A v n xs)(hB:B'<=B):w.ownsRow B' e A v n xs:=by
 refine⟨h.1,?_⟩;rcases h.2 with E|⟨g,c,D,G,H,C⟩
 ·exact .inl E
 ·exact .inr ⟨g,c,D,G,by omega,C⟩
def z6j(s:ByteArray)(w:World)(e:Ending)(w':World):Prop:=
 (q6h (btL s)≠0/\e=.returned (.tuple #[.slice none 0 0,.slice none 0 0,.int .i64 ((z7d (btL s):Nat):Int),q0s (q6h (btL s))]))\/
 (q6h (btL s)=0/\∃A P ac pc,e=.returned (.tuple #[.slice A (q2x (btL s)).length ac,.slice P (q2x (btL s)).length pc,.int .i64 0,.nilIface])/\q1n w (.slice A (q2x (btL s)).length ac) ((q2x (btL s)).map wbS) w'/\z2g w.heap.size (.slice P (q2x (btL s)).length pc) (z5t (btL s)) w')
theorem k4e(s:ByteArray)(w:World)(hl:(btL s).length<=60000):Calls prog 85 #[.string s] w fun e w'=>z6j s w e w'/\Below w w w':=by
 have t:s.size<=60000:=by rw[<-q0b];exact hl
 clear hl;have A0:¬60000<(s.size:Int):=by omega
 go_in;go_wp2_with fail;refine(k0f _ _).mono ?_;rintro e L⟨rfl,Aj⟩;have HO:Hid (q9w L w.heap.size ⟨#[32,10]⟩):=by rw[Aj];exact q9w.new _ _
 have Ab:Hid (Below w w L):=by rw[Aj];exact Zb.alloc Zl _
 have r:=HO.o.1;generalize Ar:w.heap.size=bk at HO Ab r⊢;have Y:Hid (w.heap.size=bk):=Ar;clear Aj Ar;go_wp2_with fail
 go_loopw [2,3,7,8] (fun x p m i wr=>∃(k:Nat)(E:List (Nat × List UInt8))(A P:Option Addr)(a X:Nat),x=.slice A E.length a/\p=.slice P E.length X/\m=.int .i64 ((many (E.map (·.2)):Nat):Int)/\i=.int .i64 (k:Int)/\q3u s L k E A P a X wr) (fun _ _ _ i _=>s.size-(intOf i).toNat)
 case atStart=>exact⟨0,[],none,none,0,0,rfl,rfl,rfl,rfl,{b:=Below.refl _ _,le:=Nat.zero_le _,ln:=Nat.le_refl _,eq:=rfl,ws:=World.ownsRow_nil _ _ _ _,ps:=World.ownsRow_nil _ _ _ _}⟩
 case round=>
  obtain⟨k,E,A,P,a,X,rfl,rfl,rfl,rfl,hR⟩:=hrel;have HR:Hid (q3u s L k E A P a X wr):=hR;have Af:Hid (q9w wr bk ⟨#[32,10]⟩):=HO.o.W r hR.b;have Ac:Hid (Below bk w wr):=Ab.o.trans (hR.b.mono (Nat.le_of_lt r));have A3:=hR.le;have A4:=hR.ln
  have Aw:many (E.map (·.2))<=60000:=by
   have h1:many (E.map (·.2))<=(E.map (·.2)).length:=List.length_filter_le _ _;rw[List.length_map]at h1;omega
  clear hR;generalize As:many (E.map (·.2))=mm at Aw;have Ad:Hid (many (E.map (·.2))=mm):=As;clear As;by_cases O:k<s.size
  ·have Au:(k:Int)<(s.size:Int):=by omega
   cases hs:spB s[k]with
   | true=>
    have HN:Hid (q3u s L (k+1) E A P a X wr):=HR.o.space O hs;have HP:=(show Hid (_=_)from v7m s[k]);go_wp2_with fail;refine(q7h s[k] Af.o).mono ?_;rintro e w2⟨rfl,rfl⟩;rw[HP.o,hs];clear hs;go_wp2
    go_roundw
    case rel=>exact⟨k+1,E,A,P,a,X,rfl,rfl,by rw[Ad.o],by go_num,HN.o⟩
    case measure=>simp[intOf];omega
   | false=>
    have HP:=(show Hid (_=_)from v7m s[k]);have HS:Hid (spB s[k]=false):=hs;have A2:(k:Int)<=(s.size:Int):=by omega
    clear hs;go_wp2_with fail;refine(q7h s[k] Af.o).mono ?_;rintro e w2⟨rfl,rfl⟩;rw[HP.o,HS.o];go_wp2_with fail;refine(j5b O t HS.o _).mono ?_;rintro e w2⟨rfl,K⟩;have U:Hid (q3u s L k E A P a X w2):=HR.o.later K;have R:Hid (Below bk w w2):=Ab.o.trans (U.o.b.mono (Nat.le_of_lt r));clear HR Ac Af K;cases q:tOk s k with
    | false=>
     have n:Hid (q6h (btL s)=5/\z7d (btL s)=k):=v2n (by rw[q0b];exact t) (j4w U.o O HS.o q);generalize Q:wbS (tkW ((btL s).drop k))=u;clear q Q;go_wp2;refine bodyPost_ret (v:=.tuple #[.slice none 0 0,.slice none 0 0,.int .i64 (k:Int),.iface 50 (.int .i64 5)]) (by simp[results,Tryz.results85,go_sem]) rfl ?_;exact⟨.inl ⟨by rw[n.o.1];decide,by rw[n.o.1,n.o.2,v6d]⟩,by rw[Y.o];exact R.o⟩
    | true=>
     have Aq:Hid (tOk s k=true):=q;obtain⟨y,V⟩:=j9b O HS.o
     have At:(wbS (tkW ((btL s).drop k))).size+k<=s.size:=by
      have:=z0w ((btL s).drop k)
      rw[List.length_drop,q0b]at this;rw[q3h];omega
     have Z:Hid (many (E.map (·.2)++[tkW ((btL s).drop k)])=mm+(if s[k] != 35 then 1 else 0)):=by
      show _=_;rw[v2w,Ad.o,v2x O HS.o]
     have o:Hid ((tkW ((btL s).drop k)).length=(wbS (tkW ((btL s).drop k))).size):=(q3h _).symm;generalize hW:tkW ((btL s).drop k)=W at Z o y V At⊢;have HW:Hid (tkW ((btL s).drop k)=W):=hW;generalize Q:wbS W=u at o y V At⊢;have HU:Hid (wbS W=u):=Q;have A1:(0:Int)<(u.size:Int):=by omega
     clear q hW Q;cases hn:(s[k] != 35)with
     | true=>
      have Ax:((u[0].toNat:Int) != 35)=true:=by
       rw[V y]
       show(!((s[k].toNat:Int)==35))=true
       rw[show(35:Int)=((35:Nat):Int)from rfl,j0f _ 35 (by decide)];exact hn
      have Ae:Hid (many ((E++[(k,W)]).map (·.2))=mm+1):=by
       show _=_;rw[List.map_append]
       have:=Z.o
       rw[hn]at this;exact this
      clear hn V Z;go_wp2_with fail;refine(q7c u _ (by omega)).mono ?_;rintro e z⟨rfl,H⟩;have G:Hid (q3u s L k E A P a X z):=U.o.later H;have Az:=G.o.b.size;clear U R H;obtain⟨i0,Ah,An,Ao,Ap⟩:=info_parts z3r;go_wp2_with(at_builtin;refine wpList_append_lies _ rfl _ _ 72 rfl L.heap.size 9 i0 _ 1 16 Tryz.underlying72 Ah An Ao Ap rfl (by decide) _ _ _ rfl (World.ownsRow.alloc G.o.ws _) ⟨z,0,none⟩ 1 1 [.string u] rfl rfl (cell_one_new z _ _) (by intro u Q;simp at Q;subst Q;rfl) (by decide) (by unfold maxLen;omega) (by omega) (by simp;omega) (z.heap.size+1) (by simp) ?_);intro g2 M l I C d g;have K:=(G.o.b.alloc (by omega) (.cells #[.string u] 9)).grown C (by simp;omega) (fun j hj=>(World.ownsRow.lt G.o.ws j hj).1);have R:=(show Hid (Below _ _ _)from K);have S:Hid (l.ownsRow L.heap.size 3 1 (.slice P E.length X) E.length (q1w (E.map (·.1)))):=z7s (World.ownsRow.alloc G.o.ps _) (World.ownsRow.alloc G.o.ws _) (by decide) C;have Ag:=(show Hid (l.ownsRow _ _ _ _ _ _)from I);have Ay:=K.size;clear I C K d g;obtain⟨i1,Ai,Ak,Al,Am⟩:=info_parts z5i;go_wp2_with(at_builtin;refine wpList_append_lies _ rfl _ _ 73 rfl L.heap.size 3 i1 _ 1 8 Tryz.underlying73 Ai Ak Al Am rfl (by decide) _ _ _ rfl (World.ownsRow.alloc S.o _) ⟨l,0,none⟩ 1 1 [.int .i64 (k:Int)] rfl rfl (cell_one_new l _ _) (by intro u Q;simp at Q;subst Q;rfl) (by decide) (by unfold maxLen;omega) (by omega) (by simp;omega) (l.heap.size+1) (by simp) ?_);intro g3 N w5 J D f h;have H:=(R.o.alloc (by omega) (.cells #[.int .i64 (k:Int)] 3)).grown D (by simp;omega) (fun j hj=>(World.ownsRow.lt S.o j hj).1);have c:=z7s (World.ownsRow.alloc Ag.o _) (World.ownsRow.alloc S.o _) (by decide) D
      have HN:Hid (q3u s L (k+u.size) (E++[(k,W)]) (some ⟨g2,0,none⟩) (some ⟨g3,0,none⟩) M N w5):=by
       show q3u _ _ _ _ _ _ _ _ _;rw[<-o.o,<-HW.o];refine G.o.next O HS.o Aq.o H ?_ ?_
       ·rw[HW.o,HU.o];exact c
       ·exact J
      clear J D f h H c;go_wp2
      go_roundw
      case rel=>exact⟨k+u.size,E++[(k,W)],some ⟨g2,0,none⟩,some ⟨g3,0,none⟩,M,N,by rw[List.length_append];rfl,by rw[List.length_append];rfl,by rw[Ae.o];go_num,by go_num,HN.o⟩
      case measure=>simp[intOf];omega
     | false=>
      have Ax:((u[0].toNat:Int) != 35)=false:=by
       rw[V y]
       show(!((s[k].toNat:Int)==35))=false
       rw[show(35:Int)=((35:Nat):Int)from rfl,j0f _ 35 (by decide)];exact hn
      have Ae:Hid (many ((E++[(k,W)]).map (·.2))=mm):=by
       show _=_;rw[List.map_append]
       have:=Z.o
       rw[hn]at this;exact this
      clear hn V Z;go_wp2_with fail;refine(q7c u _ (by omega)).mono ?_;rintro e z⟨rfl,H⟩;have G:Hid (q3u s L k E A P a X z):=U.o.later H;have Az:=G.o.b.size;clear U R H;obtain⟨i0,Ah,An,Ao,Ap⟩:=info_parts z3r;go_wp2_with(at_builtin;refine wpList_append_lies _ rfl _ _ 72 rfl L.heap.size 9 i0 _ 1 16 Tryz.underlying72 Ah An Ao Ap rfl (by decide) _ _ _ rfl (World.ownsRow.alloc G.o.ws _) ⟨z,0,none⟩ 1 1 [.string u] rfl rfl (cell_one_new z _ _) (by intro u Q;simp at Q;subst Q;rfl) (by decide) (by unfold maxLen;omega) (by omega) (by simp;omega) (z.heap.size+1) (by simp) ?_);intro g2 M l I C d g;have K:=(G.o.b.alloc (by omega) (.cells #[.string u] 9)).grown C (by simp;omega) (fun j hj=>(World.ownsRow.lt G.o.ws j hj).1);have R:=(show Hid (Below _ _ _)from K);have S:Hid (l.ownsRow L.heap.size 3 1 (.slice P E.length X) E.length (q1w (E.map (·.1)))):=z7s (World.ownsRow.alloc G.o.ps _) (World.ownsRow.alloc G.o.ws _) (by decide) C;have Ag:=(show Hid (l.ownsRow _ _ _ _ _ _)from I);have Ay:=K.size;clear I C K d g;obtain⟨i1,Ai,Ak,Al,Am⟩:=info_parts z5i;go_wp2_with(at_builtin;refine wpList_append_lies _ rfl _ _ 73 rfl L.heap.size 3 i1 _ 1 8 Tryz.underlying73 Ai Ak Al Am rfl (by decide) _ _ _ rfl (World.ownsRow.alloc S.o _) ⟨l,0,none⟩ 1 1 [.int .i64 (k:Int)] rfl rfl (cell_one_new l _ _) (by intro u Q;simp at Q;subst Q;rfl) (by decide) (by unfold maxLen;omega) (by omega) (by simp;omega) (l.heap.size+1) (by simp) ?_);intro g3 N w5 J D f h;have H:=(R.o.alloc (by omega) (.cells #[.int .i64 (k:Int)] 3)).grown D (by simp;omega) (fun j hj=>(World.ownsRow.lt S.o j hj).1);have c:=z7s (World.ownsRow.alloc Ag.o _) (World.ownsRow.alloc S.o _) (by decide) D
      have HN:Hid (q3u s L (k+u.size) (E++[(k,W)]) (some ⟨g2,0,none⟩) (some ⟨g3,0,none⟩) M N w5):=by
       show q3u _ _ _ _ _ _ _ _ _;rw[<-o.o,<-HW.o];refine G.o.next O HS.o Aq.o H ?_ ?_
       ·rw[HW.o,HU.o];exact c
       ·exact J
      clear J D f h H c;go_wp2
      go_roundw
      case rel=>exact⟨k+u.size,E++[(k,W)],some ⟨g2,0,none⟩,some ⟨g3,0,none⟩,M,N,by rw[List.length_append];rfl,by rw[List.length_append];rfl,by rw[Ae.o],by go_num,HN.o⟩
      case measure=>simp[intOf];omega
  ·have Au:¬(k:Int)<(s.size:Int):=by omega
   have HX:Hid (lxF (btL s) 0=none/\lxW (btL s) 0=E):=j4x HR.o O
   have HL:Hid ((q2x (btL s)).length=E.length/\many (q2x (btL s))=mm):=by
    refine⟨?_,?_⟩
    ·rw[q2x,HX.o.2,List.length_map]
    ·rw[q2x,HX.o.2];exact Ad.o
   by_cases Aa:300<mm
   ·have Av:(300:Int)<(mm:Int):=by omega
    have n:Hid (q6h (btL s)=3/\z7d (btL s)=0):=j4u (by rw[q0b];exact t) HX.o.1 (by rw[HL.o.2];exact Aa);go_wp2;refine bodyPost_ret (v:=.tuple #[.slice none 0 0,.slice none 0 0,.int .i64 0,.iface 50 (.int .i64 3)]) (by simp[results,Tryz.results85,go_sem]) rfl ?_;exact⟨.inl ⟨by rw[n.o.1];decide,by rw[n.o.1,n.o.2,k5e];rfl⟩,by rw[Y.o];exact Ac.o⟩
   ·have Av:¬(300:Int)<(mm:Int):=by omega
    have n:Hid (q6h (btL s)=0/\z7d (btL s)=0):=j4v (by rw[q0b];exact t) HX.o.1 (by rw[HL.o.2];exact Aa);go_wp2;refine bodyPost_ret (v:=.tuple #[.slice A E.length a,.slice P E.length X,.int .i64 0,.nilIface]) (by simp[results,Tryz.results85,go_sem]) rfl ?_;refine⟨.inr ⟨n.o.1,A,P,a,X,by rw[HL.o.1],k6h (B:=L.heap.size) ?_ (by rw[Y.o];omega),k6h (B:=L.heap.size) ?_ (by rw[Y.o];omega)⟩,by rw[Y.o];exact Ac.o⟩
    ·show wr.ownsRow _ _ _ _ _ _;rw[List.length_map,HL.o.1,q2x,HX.o.2,List.map_map];exact HR.o.ws
    ·show wr.ownsRow _ _ _ _ _ _;rw[<-k7i,HL.o.1,z5t,HX.o.2];exact HR.o.ps
theorem j9d(s:ByteArray)(w:World):Calls prog 85 #[.string s] w fun e w'=>z6j s w e w'/\Below w w w':=by
 by_cases h:(btL s).length<=60000
 ·exact k4e s w h
 ·have A:Hid (q6h (btL s)=3/\z7d (btL s)=0):=j4t (by omega);have B:60000<(s.size:Int):=by rw[q0b]at h;omega
  clear h;go_in;go_wp2;refine bodyPost_ret (v:=.tuple #[.slice none 0 0,.slice none 0 0,.int .i64 0,.iface 50 (.int .i64 3)]) (by simp[results,Tryz.results85,go_sem]) rfl ?_;exact⟨.inl ⟨by rw[A.o.1];decide,by rw[A.o.1,A.o.2,k5e];rfl⟩,Below.refl _ _⟩
def z4i(ds:List Td):Prop:=∀x∈ds,x.tx.size<=140737488351232
theorem j7z(x:Td)(w:World):Calls prog 221 #[tdV x] w fun e w'=>e=.returned (.int .i64 (kdZ x))/\Below w w w':=by
 obtain⟨A,J,n⟩:=x;have B:∀O:Obj,Below w w (w.alloc O):=fun O=>(Below.refl _ w).alloc Zl O
 by_cases C:A=3
 ·subst C;go_in;go_wp2;go_ret;exact⟨by simp[kdZ],B _⟩
 by_cases D:A=4
 ·subst D;go_in;go_wp2;go_ret;exact⟨by simp[kdZ],B _⟩
 by_cases E:A=5
 ·subst E;go_in;go_wp2;go_ret;exact⟨by simp[kdZ,kdT],B _⟩
 by_cases G:A=6
 ·subst G;go_in;go_wp2;go_ret;exact⟨by simp[kdZ,kdT],B _⟩
 by_cases H:A=7
 ·subst H;go_in;go_wp2;go_ret;exact⟨by simp[kdZ,kdT],B _⟩
 by_cases I:A=8
 ·subst I;go_in;go_wp2;go_ret;exact⟨by simp[kdZ,kdT],B _⟩
 have K:Hid (kdZ ⟨A,J,n⟩=0):=by show kdZ ⟨A,J,n⟩=0;simp[kdZ,kdT,C,D,E,G,H,I]
 have L:(A==3)=false:=by simp[C]
 have M:(A==4)=false:=by simp[D]
 have N:(A==5)=false:=by simp[E]
 have P:(A==6)=false:=by simp[G]
 have Q:(A==7)=false:=by simp[H]
 have R:(A==8)=false:=by simp[I]
 clear C D E G H I;go_in;go_wp2;go_ret;exact⟨by rw[K.o];rfl,B _⟩
theorem v4r(x:Td)(h:q0l x=0)(w:World):Calls prog 221 #[.agg #[.int .i64 x.op,.string x.tx,.int .i64 x.n]] w fun e w'=>e=.returned (.int .i64 (kdT x:Int))/\Below w w w':=by
 have:=j7z x w
 rw[y4v h]at this;exact this
def v7w(o:Option Nat)(j:Nat)(b:Bool):Prop:=o=if b=true then some j else none
def v5s(ds:List Td)(i:Nat)(e:Ending):Prop:=∃(j:Nat)(b:Bool),e=.returned (.tuple #[.int .i64 (j:Int),.bool b])/\v7w (z1n ds i 1) j b
theorem v7w.yes{o:Option Nat}{j:Nat}(h:o=some j):v7w o j true:=h
theorem v7w.no{o:Option Nat}{j:Nat}(h:o=none):v7w o j false:=h
theorem k9v(ds:List Td)(a:Option Addr)(J:Nat)(hl:ds.length<=40)(hk:∀x∈ds,q0l x=0)(i:Nat)(hi:i<=ds.length)(w:World)(hN:Tds w a ds):
  Calls prog 194 #[.slice a ds.length J,.int .i64 i] w fun e w'=>v5s ds i e/\Below w w w':=by
 have X:Hid (Tds w a ds):=hN;have O:Hid (∀x∈ds,q0l x=0):=hk;clear hN hk;go_in;go_wp2
 go_loopw [1,6] (fun z m wr=>Below w w wr/\∃k q:Nat,k<=ds.length/\q<=1+6*k/\z=.int .i64 (k:Int)/\m=.int .i64 (q:Int)/\z1n ds i 1=z1n ds k q) (fun z _ _=>ds.length-(intOf z).toNat)
 case atStart=>exact⟨Below.refl _ _,i,1,hi,by omega,rfl,rfl,rfl⟩
 case round=>
  obtain⟨E,k,q,Z,h,rfl,rfl,V⟩:=hrel;have H:Hid (z1n ds i 1=z1n ds k q):=V;have A:Hid (Below w w wr):=E;clear V E;by_cases K:q=0
  ·subst K
   have I:Hid (z1n ds i 1=some k):=by
    show _=_;rw[H.o,j3e]
   go_wp2;go_ret2;exact⟨⟨k,true,rfl,v7w.yes I.o⟩,A.o⟩
  ·obtain⟨p,rfl⟩:∃p,q=p+1:=⟨q-1,by omega⟩;have C:((p+1:Nat):Int)=(p:Int)+1:=by omega
   have c:(0:Int)<(p:Int)+1:=by omega
   have N:((p:Int)+1==0)=false:=beq_false_of_ne (by omega);by_cases B:k<ds.length
   ·have M:(k:Int)<(ds.length:Int):=by omega
    obtain⟨b,o,Y,g,R,S,U⟩:=(X.o.W A.o) k B;subst Y;have L:=y4u (O.o _ (List.getElem_mem B));have D:Hid (∀W:World,Calls prog 221 #[.agg #[.int .i64 ds[k].op,.string ds[k].tx,.int .i64 ds[k].n]] W fun e w'=>e=.returned (.int .i64 (kdT ds[k]:Int))/\Below W W w'):=fun W=>v4r _ (O.o _ (List.getElem_mem B)) W
    have P:Hid (z1n ds i 1=z1n ds (k+1) (kdT ds[k]+p)):=by
     show _=_;rw[H.o,j3d ds k p B]
    generalize kdT ds[k]=d at L D P;generalize ds[k].op=xo at R D;generalize ds[k].tx=xt at S D;generalize ds[k].n=xn at U D;rw[C];clear K N C;go_wp2_with fail;refine(D.o _).mono ?_;rintro e f⟨rfl,Q⟩;have G:Hid (Below w w f):=q0g A.o Zl Q;clear Q R S U;go_wp2
    go_roundw
    case rel=>exact⟨G.o,k+1,d+p,by omega,by omega,by go_num,by go_num,P.o⟩
    case measure=>simp[intOf];omega
   ·have M:¬(k:Int)<(ds.length:Int):=by omega
    have I:Hid (z1n ds i 1=none):=by
     show _=_;rw[H.o,z2a ds k p (by omega)]
    rw[C];clear K C;go_wp2;go_ret2;exact⟨⟨k,false,rfl,v7w.no I.o⟩,A.o⟩
theorem v4v{w:World}{a:Option Addr}{c:Nat}{x:Td}{r:List Td}(h:Tds w a (x::r))(hc:r.length+1<=c):
  ∃A,(∀W:World,(Instr.slice 82 (.slice a (r.length+1) c) (some (.int .i64 1)) none none).run prog W=.ok (.slice A r.length (c-1)) W)/\Tds w A r:=by
 obtain⟨b,o,rfl,J,_,_,_⟩:=h 0 (by simp);refine⟨if c=1 then some ⟨b,o,none⟩else some ⟨b,o+3,none⟩,fun W=>?_,?_⟩
 ·have H:=run_slice_l (P:=prog) W 82 (some ⟨b,o,none⟩) (r.length+1) c Tryz.underlying82 .i64 1 (by omega) (by omega);rw[H];have L:(sizeOf (prog.elem 82)).run prog W=.ok 3 W:=by kernel_rfl
  rw[L];have I:(⟨b,o,none⟩:Addr).add 3=⟨b,o+3,none⟩:=rfl;simp[Result.andThen,sliced,I]
 ·by_cases e:c=1
  ·have:r=[]:=List.eq_nil_of_length_eq_zero (by omega)
   subst this;exact fun i E=>by simp at E
  ·rw[if_neg e];intro i E;obtain⟨M,N,G,K,B,C,D⟩:=h (i+1) (by simp;omega);cases G;rw[show o+(i+1)*3=o+3+i*3 by omega]at B C D;exact⟨b,o+3,rfl,J,B,C,D⟩
theorem y6d{x:Td}(h:q0l x=0):1<=x.op/\x.op<=9:=by
 unfold q0l at h
 split at h
 ·cases h
 ·omega
def q6k(ds:List Td):Bool:=decide (z1n ds 0 1=some ds.length)&&j8g ds
theorem j7s:q6k []=false:=by
 have:z1n [] 0 1=none:=z2a _ _ _ Zl
 simp[q6k,this]
theorem j0d{ds:List Td}(hl:ds.length<=40)(ha:∀x∈ds,q0l x=0):q0c ds=if q6k ds=true then 0 else 2:=by
 rw[j8h hl ha];simp only[q6k,Bool.and_eq_true,decide_eq_true_eq]
theorem j8a(ds:List Td)(a:Option Addr)(E:Nat)(hl:ds.length<=40)(hk:∀x∈ds,q0l x=0)(w:World)(hc:ds.length<=E)(hN:Tds w a ds):
  Calls prog 152 #[.slice a ds.length E] w fun e w'=>e=.returned (.bool (q6k ds))/\Below w w w':=by
 cases ds with
 | nil=>
  rw[j7s];clear hk hN hl hc;go_in;go_wp2;go_ret;exact⟨rfl,Below.refl _ _⟩
 | cons x r=>
  have m:Hid (Tds w a (x::r)):=hN;have l:Hid (∀y∈x::r,q0l y=0):=hk;obtain⟨b,o,ea,hb,p,_,_⟩:=hN 0 (by simp);have hx:=y6d (hk x (by simp));have S:(x::r).length=r.length+1:=rfl;rw[S]at hl hc⊢;have hp:¬(r.length:Int)+1=0:=by omega
  have Ad:((r.length:Int)+1==0)=false:=beq_false_of_ne hp;have Ac:(0:Int)<(r.length:Int)+1:=by omega
  have R:w.cell? ⟨b,o,none⟩=some (.int .i64 x.op):=by simpa using p
  clear p hN;subst ea;by_cases h7:7<=x.op
  ·have N:Hid (exB x.op=false):=by show exB x.op=false;simp[exB];omega
   obtain⟨A,g,u⟩:=v4v m.o hc;have v:Hid (Tds w A r):=u;clear u;generalize Ae:x.op=xo at R N;go_in;go_wp2_with fail;refine(q9m xo _).mono ?_;rintro e X⟨rfl,rfl⟩;rw[N.o];go_wp2_with fail
   go_loopw [20] (fun i wr=>Below w w wr/\∃k:Nat,k<=r.length/\i=.int .i64 (k:Int)/\∀y∈r.take k,y.op<7) (fun i _=>r.length-(intOf i).toNat)
   case atStart=>exact⟨Below.refl _ _,0,Nat.zero_le _,rfl,by simp⟩
   case round=>
    obtain⟨G,k,Ab,rfl,I⟩:=hrel;have J:Hid (Below w w wr):=G;have L:Hid (∀O:Obj,Below w w (wr.alloc O)):=fun O=>G.alloc G.size O
    clear G;have h:Hid (∀y∈r.take k,y.op<7):=I;clear I g;by_cases K:k<r.length
    ·have f:(k:Int)<(r.length:Int):=by omega
     obtain⟨b1,o1,e1,Aa,q,s,t⟩:=(v.o.W J.o) k K;subst e1;have V:=y6d (l.o r[k] (by simp));by_cases H:r[k].op<7
     ·have P:Hid (exB r[k].op=true):=by show exB r[k].op=true;simp[exB];omega
      have Y:Hid (∀y∈r.take (k+1),y.op<7):=by
       intro y B;rw[List.take_succ_eq_append_getElem K]at B;rcases List.mem_append.1 B with B|B
       ·exact h.o y B
       ·simp at B;subst B;exact H
      clear H V;generalize r[k].op=yo at q P;generalize r[k].tx=yt at s;generalize r[k].n=yn at t;go_wp2_with fail;refine(q9m yo _).mono ?_;rintro e X⟨rfl,rfl⟩;rw[P.o];go_wp2
      go_roundw
      case rel=>exact⟨L.o _,k+1,by omega,by go_num,Y.o⟩
      case measure=>simp[intOf];omega
     ·have P:Hid (exB r[k].op=false):=by show exB r[k].op=false;simp[exB];omega
      have D:Hid (q6k (x::r)=false):=by
       show _=_
       have:j8g (x::r)=false:=by
        simp only[j8g,Bool.and_eq_false_iff,List.all_eq_false];exact .inr ⟨r[k],List.getElem_mem K,by simp[H]⟩
       simp[q6k,this]
      clear H V;generalize r[k].op=yo at q P;generalize r[k].tx=yt at s;generalize r[k].n=yn at t;go_wp2_with fail;refine(q9m yo _).mono ?_;rintro e X⟨rfl,rfl⟩;rw[P.o];go_wp2;go_ret;exact⟨by rw[D.o];rfl,L.o _⟩
    ·have f:¬(k:Int)<(r.length:Int):=by omega
     have M:Hid (j8g (x::r)=true):=by
      show _=_;simp only[j8g,Bool.and_eq_true,decide_eq_true_eq,List.all_eq_true];refine⟨by omega,fun y V=>h.o y ?_⟩;rw[List.take_of_length_le (by omega)];exact V
     have Z:Hid (Calls prog 194 #[.slice (some ⟨b,o,none⟩) (r.length+1) E,.int .i64 0] wr fun e w'=>v5s (x::r) 0 e/\Below wr wr w'):=k9v (x::r) _ E hl l.o 0 (Nat.zero_le _) wr (m.o.W J.o);go_wp2_with fail;refine Z.o.mono ?_;rintro e X⟨⟨j,z,rfl,C⟩,Q⟩;have c:=q0g J.o Zl Q;clear Q;cases z with
     | false=>
      have C:z1n (x::r) 0 1=none:=C
      have D:Hid (q6k (x::r)=false):=by
       show _=_;simp[q6k,C]
      clear C;go_wp2;go_ret;exact⟨by rw[D.o];rfl,c⟩
     | true=>
      have C:z1n (x::r) 0 1=some j:=C;by_cases U:(j:Int)=(r.length:Int)+1
      ·have D:Hid (q6k (x::r)=true):=by
        show _=_
        have:j=r.length+1:=by omega
        simp[q6k,C,this,M.o]
       have d:((j:Int)==(r.length:Int)+1)=true:=beq_iff_eq.2 U;clear C U;go_wp2;go_ret;exact⟨by rw[D.o];rfl,c⟩
      ·have D:Hid (q6k (x::r)=false):=by
        show _=_
        have:¬j=r.length+1:=by omega
        simp[q6k,C,this]
       have d:((j:Int)==(r.length:Int)+1)=false:=beq_false_of_ne U;clear C U;go_wp2;go_ret;exact⟨by rw[D.o];rfl,c⟩
  ·have N:Hid (exB x.op=true):=by show exB x.op=true;simp[exB];omega
   have D:Hid (q6k (x::r)=false):=by
    show _=_
    have:j8g (x::r)=false:=by simp[j8g,h7]
    simp[q6k,this]
   generalize x.op=xo at R N;go_in;go_wp2_with fail;refine(q9m xo _).mono ?_;rintro e X⟨rfl,rfl⟩;rw[N.o];go_wp2;go_ret;exact⟨by rw[D.o];rfl,Below.refl _ _⟩
theorem q5z(ds:List Td)(a:Option Addr)(B:Nat)(w:World)(hc:ds.length<=B)(hN:Tds w a ds)(H:z4i ds):Calls prog 119 #[.slice a ds.length B] w fun e w'=>e=.returned (q0s (q0c ds))/\Below w w w':=by
 have X:Hid (Tds w a ds):=hN;have N:Hid (z4i ds):=H;clear hN H;by_cases f:40<(ds.length:Int)
 ·rw[j0b (by omega),k5e];go_in;go_wp2;go_ret;exact⟨rfl,Below.refl _ _⟩
 ·have O:ds.length<=40:=by omega
  go_in;go_wp2
  go_loopw [12] (fun i wr=>Below w w wr/\∃k:Nat,k<=ds.length/\i=.int .i64 k/\∀x∈ds.take k,q0l x=0) (fun i _=>ds.length-(intOf i).toNat)
  case atStart=>exact⟨Below.refl _ _,0,Nat.zero_le _,rfl,by simp⟩
  case round=>
   obtain⟨K,k,h,rfl,D⟩:=hrel;have L:Hid (∀x∈ds.take k,q0l x=0):=D;have R:Hid (Tds wr a ds):=X.o.W K;clear D;by_cases C:k<ds.length
   ·obtain⟨b,o,Y,g,Z,c,d⟩:=R.o k C;have I:=N.o _ (List.getElem_mem C);subst Y;by_cases J:q0l ds[k]=0
    ·have G:Hid (q0l ds[k]=0):=J;clear J;go_wp2_with fail;refine(k1d ds[k] _ I).mono ?_;rintro e V⟨rfl,A⟩;rw[G.o,q0q];have E:=q8i K Zl A;clear A;go_wp2
     go_roundw
     case rel=>exact⟨E,k+1,by omega,by go_num,k9x C L.o G.o⟩
     case measure=>simp[intOf];omega
    ·have G:Hid (q0l ds[k]≠0):=J;clear J;go_wp2_with fail;refine(k1d ds[k] _ I).mono ?_;rintro e V⟨rfl,A⟩;rw[q0h G.o];have E:=q8i K Zl A;clear A;go_wp2;go_ret;refine⟨?_,E⟩;rw[j0c O C L.o G.o,q0h G.o];rfl
   ·have Q:Hid (∀x∈ds,q0l x=0):=by
     have:=L.o
     rw[List.take_of_length_le (by omega)]at this;exact this
    have M:Hid (q0c ds=if q6k ds=true then 0 else 2):=j0d O Q.o;have S:Hid (Calls prog 152 #[.slice a ds.length B] wr fun e w'=>e=.returned (.bool (q6k ds))/\Below wr wr w'):=j8a ds a B O Q.o wr hc R.o;generalize q6k ds=sb at M S;go_wp2_with fail;refine S.o.mono ?_;rintro e V⟨rfl,U⟩;have P:=q0g K Zl U;clear U;cases sb with
    | true=>
     go_wp2;go_ret;exact⟨by rw[M.o];rfl,P⟩
    | false=>
     go_wp2;go_ret;exact⟨by rw[M.o];rfl,P⟩
theorem k1e(a:Addr)(n A:Nat)(op:Int)(w:World)(hn:0<n){b o:Nat}(ha:a=⟨b,o,none⟩)(hc:w.cell? ⟨b,o,none⟩=some (.int .i64 op)):Calls prog 120 #[.slice (some a) n A] w fun e w'=>e=.returned (.bool (op==9))/\w=w':=by
 subst ha;have B:(0:Int)<(n:Int):=by omega
 go_in;go_wp2;go_ret;exact⟨rfl,rfl⟩
theorem k1c(ps:List (List Td))(a:Option Addr)(Ab:Nat)(w:World)(_hc:ps.length<=Ab)(hP:Prg w a ps)(Af:∀t∈ps,z4i t):Calls prog 87 #[.slice a ps.length Ab] w fun e w'=>e=.returned (.tuple #[.int .i64 ((q0o ps).1:Int),q0s (q0o ps).2])/\Below w w w':=by
 have HP:Hid (Prg w a ps):=hP;have Ai:Hid (∀t∈ps,z4i t):=Af;clear hP Af;by_cases Ao:20<(ps.length:Int)
 ·have m:Hid (q0o ps=(0,3)):=by show q0o ps=_;rw[q0o,if_pos (by omega)]
  go_in;go_wp2;go_ret2;exact⟨by rw[m.o];rfl,Below.refl _ _⟩
 have HF:Hid (q0o ps=q4i 0 0 ps):=by show q0o ps=_;rw[q0o,if_neg (by omega)]
 go_in;go_wp2
 go_loopw [13] (fun i wr=>Below w w wr/\∃k:Nat,k<=ps.length/\i=.int .i64 k/\q0o ps=q4i (q6j ps k) k (ps.drop k)/\∀j(h:j<ps.length),j<k->q0c ps[j]=0) (fun i _=>ps.length-(intOf i).toNat)
 case atStart=>exact⟨Below.refl _ _,0,Nat.zero_le _,rfl,HF.o,fun j _ h=>by omega⟩
 case round=>
  obtain⟨Ac,k,hk,rfl,hF,f⟩:=hrel;have K:Hid (Below w w wr):=Ac;have HG:Hid (q0o ps=q4i (q6j ps k) k (ps.drop k)):=hF;have HA:Hid (∀j(h:j<ps.length),j<k->q0c ps[j]=0):=f;clear Ac hF f;by_cases S:k<ps.length
  ·obtain⟨b,o,a',u,ea,hb,d,c2,hT⟩:=(HP.o.W K.o) k S;subst ea;have Ad:(k:Int)<(ps.length:Int):=by omega
   have c:Calls prog 119 #[.slice a' ps[k].length u] wr fun e w'=>e=.returned (q0s (q0c ps[k]))/\Below wr wr w':=q5z ps[k] a' u wr c2 hT (Ai.o _ (List.getElem_mem S))
   have V:Hid (q0c ps[k]=0->∀j(h:j<ps.length),j<k+1->q0c ps[j]=0):=fun h0 j h hj=>by
    by_cases Aj:j=k
    ·subst Aj;exact h0
    ·exact HA.o j h (by omega)
   have L:Hid (q0c ps[k]=0->0<ps[k].length/\∃U Y,a'=some ⟨U,Y,none⟩/\U<wr.heap.size/\wr.cell? ⟨U,Y,none⟩=some (.int .i64 (opT ps[k]))):=fun h0=>by
    have A:=z8g h0;obtain⟨U,Y,e1,p,d1,_,_⟩:=hT 0 A;exact⟨A,U,Y,e1,p,by rw[k3o A];simpa using d1⟩
   have J:Hid (q0c ps[k]≠0->q0o ps=(k,q0c ps[k])):=fun h=>HG.o.trans (j7b S h)
   have D:Hid (q0c ps[k]=0->opT ps[k]=9/\q6j ps k=9->q0o ps=(k,2)):=fun h h2=>HG.o.trans (j7c S h h2)
   have C:Hid (q0c ps[k]=0->¬(opT ps[k]=9/\q6j ps k=9)->q0o ps=q4i (q6j ps (k+1)) (k+1) (ps.drop (k+1))):=fun h h2=>HG.o.trans (k9h S h h2)
   have O:Hid (∀j,k=j+1->∃a1 v Q,wr.cell? ⟨b,o+j,none⟩=some (.slice a1 v Q)/\0<v/\∃H Z,a1=some ⟨H,Z,none⟩/\H<wr.heap.size/\wr.cell? ⟨H,Z,none⟩=some (.int .i64 (q6j ps k))):=fun j hj=>by
    have r:j<ps.length:=by omega
    obtain⟨bj,oj,aj,cj,ej,_,q1,_,qT⟩:=(HP.o.W K.o) j r;simp only[Option.some.injEq,Addr.mk.injEq,and_true]at ej;obtain⟨rfl,rfl⟩:=ej;have A:=z8g (HA.o j r (by omega));obtain⟨H,Z,e2,q,d2,_,_⟩:=qT 0 A;refine⟨aj,ps[j].length,cj,q1,A,H,Z,e2,q,?_⟩;rw[hj,z5u r,k3o A];simpa using d2
   have P:Hid (Calls prog 119 #[.slice a' ps[k].length u] wr fun e w'=>e=.returned (q0s (q0c ps[k]))/\Below wr wr w'):=c;clear hT c c2;generalize ps[k].length=nl at d P L;generalize opT ps[k]=op0 at L D C;generalize q0c ps[k]=E at P V L J D C;by_cases he:E=0
   ·subst he;obtain⟨Am,U,Y,rfl,p,d1⟩:=L.o rfl;have g:=hid (V.o rfl);have M:Hid (op0=9/\q6j ps k=9->q0o ps=(k,2)):=D.o rfl;have B:Hid (¬(op0=9/\q6j ps k=9)->q0o ps=q4i (q6j ps (k+1)) (k+1) (ps.drop (k+1))):=C.o rfl;clear D C;have An:(0:Int)<(nl:Int):=by omega
    have l:=hid d;have Ag:=hid d1;clear L J V d d1;by_cases s:k=0
    ·have z:Hid (q0o ps=q4i (q6j ps (k+1)) (k+1) (ps.drop (k+1))):=B.o (by simp[q6j,s]);have Ak:¬(0:Int)<(k:Int):=by omega
     have d:=l.o;clear M B s;go_wp2_with fail;refine P.o.mono ?_;rintro e N⟨rfl,H⟩;rw[q0q];have I:Hid (Below w w N):=q0g K.o Zl H;clear H d;go_wp2
     go_roundw
     case rel=>exact⟨I.o,k+1,by omega,by go_num,z.o,g.o⟩
     case measure=>simp[intOf];omega
    ·obtain⟨j,rfl⟩:∃j,k=j+1:=⟨k-1,by omega⟩;obtain⟨a1,v,Q,q1,Al,H,Z,rfl,q,d2⟩:=O.o j rfl;have R:((j+1:Nat):Int)=(j:Int)+1:=by omega
     have Ak:(0:Int)<(j:Int)+1:=by omega
     have Ap:(j:Int)<(ps.length:Int):=by omega
     have Aq:(j:Int)+1<(ps.length:Int):=by omega
     have x:Hid (∀W:World,Below wr wr W->W.cell? ⟨b,o+(j+1),none⟩=some (.slice (some ⟨U,Y,none⟩) nl u)/\W.cell? ⟨U,Y,none⟩=some (.int .i64 op0)/\W.cell? ⟨b,o+j,none⟩=some (.slice (some ⟨H,Z,none⟩) v Q)/\W.cell? ⟨H,Z,none⟩=some (.int .i64 (q6j ps (j+1)))):=fun W hW=>
      ⟨((q0t hW).1 _ _ hb).trans l.o,((q0t hW).1 _ _ p).trans Ag.o,((q0t hW).1 _ _ hb).trans q1,((q0t hW).1 _ _ q).trans d2⟩
     have d:=l.o;generalize q6j ps (j+1)=pv at M B x;rw[R]at Ad⊢;clear q1 d2 O R s;go_wp2_with fail;refine P.o.mono ?_;rintro e N⟨rfl,n⟩;rw[q0q];have I:Hid (Below w w N):=q0g K.o Zl n;obtain⟨k1,k2,k3,k4⟩:=x.o N n;clear n d;have Ah:Hid (Calls prog 120 #[.slice (some ⟨U,Y,none⟩) nl u] N fun e w'=>e=.returned (.bool (op0==9))/\N=w'):=k1e ⟨U,Y,none⟩ nl u op0 N Am rfl k2;have Aa:Hid (Calls prog 120 #[.slice (some ⟨H,Z,none⟩) v Q] N fun e w'=>e=.returned (.bool (pv==9))/\N=w'):=k1e ⟨H,Z,none⟩ v Q pv N Al rfl k4;clear k2 k4;go_wp2_with fail;refine Ah.o.mono ?_;rintro e w3⟨rfl,rfl⟩;by_cases h9:op0=9
     ·subst h9;have G:((9:Int)==9)=true:=rfl;rw[G];clear G;go_wp2_with fail;refine Aa.o.mono ?_;rintro e w3⟨rfl,rfl⟩;by_cases X:pv=9
      ·subst X;have m:Hid (q0o ps=(j+1,2)):=M.o (by simp);have G:((9:Int)==9)=true:=rfl;rw[G];clear M B G;go_wp2;go_ret2;exact⟨by rw[m.o];rfl,I.o⟩
      ·have z:Hid (q0o ps=q4i (q6j ps (j+1+1)) (j+1+1) (ps.drop (j+1+1))):=B.o (fun h=>X h.2);have Ae:(pv==9)=false:=by simp[X]
       rw[Ae];clear M B X Ae;go_wp2
       go_roundw
       case rel=>exact⟨I.o,j+1+1,by omega,by go_num,z.o,g.o⟩
       case measure=>simp[intOf];omega
     ·have z:Hid (q0o ps=q4i (q6j ps (j+1+1)) (j+1+1) (ps.drop (j+1+1))):=B.o (fun h=>h9 h.1);have G:(op0==9)=false:=by simp[h9]
      rw[G];clear M B h9 G;go_wp2
      go_roundw
      case rel=>exact⟨I.o,j+1+1,by omega,by go_num,z.o,g.o⟩
      case measure=>simp[intOf];omega
   ·have m:Hid (q0o ps=(k,E)):=J.o he;have y:Hid (q0s E=.iface 50 (.int .i64 E)):=q0h he;clear L J V D C he;go_wp2_with fail;refine P.o.mono ?_;rintro e N⟨rfl,H⟩;rw[y.o];have I:Hid (Below w w N):=q0g K.o Zl H;clear H d;go_wp2;go_ret2;exact⟨by rw[m.o,y.o];rfl,I.o⟩
  ·have m:Hid (q0o ps=(0,0)):=by
    show q0o ps=_;rw[HG.o,List.drop_eq_nil_of_le (by omega)];rfl
   have Ad:¬(k:Int)<(ps.length:Int):=by omega
   go_wp2;go_ret2;exact⟨by rw[m.o];rfl,K.o⟩
end Go.Proofs.YtelcnplcpboonaaGreatDoor
