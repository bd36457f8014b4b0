import Derived.Test.YtfdppahhbpfnoaaGreatDoorPb20
import Derived.Deep.QuietTactic
import Derived.Lib.AppendIntMem
import Derived.Lib.ItoaNum
import Derived.Test.YtfdppahhbpfnoaaGreatDoorRows
import Derived.ChangeSame
import Derived.ChangeVars
import Derived.RowKit
import Derived.LaidLaws
import Derived.LaidHandle
import Derived.Stop.Joined
import Derived.Test.YtfdppahhbpfnoaaGreatDoorPb17
open Go.Proofs.Tryz
namespace Go.Proofs.YtfdppahhbpfnoaaGreatDoor
open Go Go.RowKit
set_option maxRecDepth 100000
set_option maxHeartbeats 4000000
theorem q8d(s:ByteArray)(w:World)(h:s.size<=281474976710656):
  Calls prog 78 #[.string s] w fun e w'=>e=.returned (.string s)/\Below w w w':=by
 go_in;go_wp2_with fail;refine(clone_sh s _ h).mono ?_;rintro e B⟨rfl,A⟩;go_wp2;go_ret;exact⟨rfl,A⟩
theorem v9f(c:UInt8):(btL (⟨#[32,10]⟩:ByteArray)).any (·==c)=spB c:=by
 show((32==c)||((10==c)||false))=(c==32||c==10)
 rw[Bool.or_false,BEq.comm (a:=(32:UInt8)),BEq.comm (a:=(10:UInt8))]
theorem q3y.later{s:ByteArray}{w:World}{i:Nat}{dn:List (Nat × List UInt8)}{A P:Option Addr}{ac pc:Nat}{wr wr':World}(h:q3y s w i dn A P ac pc wr)(hb:Below wr wr wr'):q3y s w i dn A P ac pc wr':=
 {b:=h.b.trans (hb.mono h.b.size),le:=h.le,ln:=h.ln,eq:=h.eq,ws:=q2s h.ws hb,ps:=q2s h.ps hb}
theorem y5p{s:ByteArray}{k:Nat}(h:k<s.size):0<(s.extract k s.size).size/\∀h0:0<(s.extract k s.size).size,(s.extract k s.size)[0]=s[k]:=by
 have B:0<(s.extract k s.size).size:=by rw[ByteArray.size_extract];omega
 refine⟨B,fun h0=>?_⟩;have A:=q5z h0;rw[k7s,q1j h,List.cons.injEq]at A;exact A.1.symm
theorem j6h{s:ByteArray}{k:Nat}(h:k<s.size)(hs:s.size<=60000)(A:spB s[k]=false)(W:World):
  Calls prog 77 #[.string (s.extract k s.size)] W fun e w'=>e=.returned (.tuple #[.string (wbS (tkW ((btL s).drop k))),.bool (tOk s k)])/\Below W W w':=by
 obtain⟨B,C⟩:=y5p h
 have:=j4o (s.extract k s.size) W B (by rw[ByteArray.size_extract];omega) (by rw[C B];exact A)
 unfold z0x at this;rw[k7s]at this;exact this
theorem y4f{l:List UInt8}{c:UInt8}{z:List UInt8}(h:l=c::z)(h0:0<(wbS l).size):(wbS l)[0]=c:=by
 subst h;rfl
theorem v0z{s:ByteArray}{k:Nat}(h:k<s.size)(A:spB s[k]=false):0<(wbS (tkW ((btL s).drop k))).size/\∀h0:0<(wbS (tkW ((btL s).drop k))).size,(wbS (tkW ((btL s).drop k)))[0]=s[k]:=by
 have C:∃z,tkW ((btL s).drop k)=s[k]::z:=by
  rw[tkW,q1j h];have E:=q4p s[k] ((btL s).drop (k+1));obtain⟨m,D⟩:∃m,q0r (s[k]::(btL s).drop (k+1))=m+1:=⟨_,(Nat.sub_add_cancel E).symm⟩;rw[D,List.take_succ_cons];exact z1y (j1q A) _
 obtain⟨z,B⟩:=C;exact⟨by rw[q3o,B];simp,fun h0=>y4f B h0⟩
theorem q3y.next{s:ByteArray}{w:World}{i:Nat}{dn:List (Nat × List UInt8)}{A P:Option Addr}{ac pc:Nat}{wr:World}(h:q3y s w i dn A P ac pc wr)(hi:i<s.size)(hs:spB s[i]=false)(ho:tOk s i=true){A' P':Option Addr}{B C:Nat}{w':World}(hb:Below w w w')
  (h1:w'.ownsRow w.heap.size 9 1 (.slice A' (dn.length+1) B) (dn.length+1) (strCells (dn.map fun x=>wbS x.2)++[.string (wbS (tkW ((btL s).drop i)))])) (h2:w'.ownsRow w.heap.size 3 1 (.slice P' (dn.length+1) C) (dn.length+1) (q2c (dn.map (·.1))++[.int .i64 (i:Int)])):
  q3y s w (i+(tkW ((btL s).drop i)).length) (dn++[(i,tkW ((btL s).drop i))]) A' P' B C w':=by
 have D:=h.word hi hs ho hb h1 h2
 have H:1<=(tkW ((btL s).drop i)).length:=by
  rw[tOk,q1j hi]at ho;rw[q1j hi];exact y3y hs ho
 have G:(tkW ((btL s).drop i)).length+i<=s.size:=by
  have:=z1x ((btL s).drop i)
  rw[List.length_drop,q0c]at this;omega
 have e:=D.eq;have E:=v4k ((btL s).drop i) i;rw[List.drop_drop,List.drop_drop]at E;refine{b:=D.b,le:=by omega,ln:=by have:=h.ln;simp;omega,eq:=?_,ws:=D.ws,ps:=D.ps};rw[e,lxW,lxF,lxW,lxF,E];rfl
theorem k8v{w:World}{B B' e A n:Nat}{v:Value}{xs:List Value}(h:w.ownsRow B e A v n xs)(hB:B'<=B):w.ownsRow B' e A v n xs:=by
 refine⟨h.1,?_⟩;rcases h.2 with E|⟨g,c,D,G,H,C⟩
 ·exact .inl E
 ·exact .inr ⟨g,c,D,G,by omega,C⟩
def z7o(s:ByteArray)(w:World)(e:Ending)(w':World):Prop:=
 (q7a (btL s)≠0/\e=.returned (.tuple #[.slice none 0 0,.slice none 0 0,.int .i64 ((k2a (btL s):Nat):Int),q1m (q7a (btL s))]))\/
 (q7a (btL s)=0/\∃A P ac pc,e=.returned (.tuple #[.slice A (q2p (btL s)).length ac,.slice P (q2p (btL s)).length pc,.int .i64 0,.nilIface])/\q2r w (.slice A (q2p (btL s)).length ac) ((q2p (btL s)).map wbS) w'/\z3d w.heap.size (.slice P (q2p (btL s)).length pc) (z9u (btL s)) w')
theorem k6t(s:ByteArray)(w:World)(hl:(btL s).length<=60000):Calls prog 40 #[.string s] w fun e w'=>z7o s w e w'/\Below w w w':=by
 have t:s.size<=60000:=by rw[<-q0c];exact hl
 clear hl;have A0:¬60000<(s.size:Int):=by omega
 go_in;go_wp2_with fail;refine(k2v _ _).mono ?_;rintro e L⟨rfl,Aj⟩;have HO:Hid (z0z L w.heap.size ⟨#[32,10]⟩):=by rw[Aj];exact z0z.new _ _
 have Ab:Hid (Below w w L):=by rw[Aj];exact Zb.alloc Zl _
 have r:=HO.o.1;generalize Ar:w.heap.size=bk at HO Ab r⊢;have Y:Hid (w.heap.size=bk):=Ar;clear Aj Ar;go_wp2_with fail
 go_loopw [2,3,7,8] (fun x p m i wr=>∃(k:Nat)(E:List (Nat × List UInt8))(A P:Option Addr)(a X:Nat),x=.slice A E.length a/\p=.slice P E.length X/\m=.int .i64 ((many (E.map (·.2)):Nat):Int)/\i=.int .i64 (k:Int)/\q3y s L k E A P a X wr) (fun _ _ _ i _=>s.size-(intOf i).toNat)
 case atStart=>exact⟨0,[],none,none,0,0,rfl,rfl,rfl,rfl,{b:=Below.refl _ _,le:=Nat.zero_le _,ln:=Nat.le_refl _,eq:=rfl,ws:=World.ownsRow_nil _ _ _ _,ps:=World.ownsRow_nil _ _ _ _}⟩
 case round=>
  obtain⟨k,E,A,P,a,X,rfl,rfl,rfl,rfl,hR⟩:=hrel;have HR:Hid (q3y s L k E A P a X wr):=hR;have Af:Hid (z0z wr bk ⟨#[32,10]⟩):=HO.o.W r hR.b;have Ac:Hid (Below bk w wr):=Ab.o.trans (hR.b.mono (Nat.le_of_lt r));have A3:=hR.le;have A4:=hR.ln
  have Aw:many (E.map (·.2))<=60000:=by
   have h1:many (E.map (·.2))<=(E.map (·.2)).length:=List.length_filter_le _ _;rw[List.length_map]at h1;omega
  clear hR;generalize As:many (E.map (·.2))=mm at Aw;have Ad:Hid (many (E.map (·.2))=mm):=As;clear As;by_cases O:k<s.size
  ·have Au:(k:Int)<(s.size:Int):=by omega
   cases hs:spB s[k]with
   | true=>
    have HN:Hid (q3y s L (k+1) E A P a X wr):=HR.o.space O hs;have HP:=(show Hid (_=_)from v9f s[k]);go_wp2_with fail;refine(q8g s[k] Af.o).mono ?_;rintro e w2⟨rfl,rfl⟩;rw[HP.o,hs];clear hs;go_wp2
    go_roundw
    case rel=>exact⟨k+1,E,A,P,a,X,rfl,rfl,by rw[Ad.o],by go_num,HN.o⟩
    case measure=>simp[intOf];omega
   | false=>
    have HP:=(show Hid (_=_)from v9f s[k]);have HS:Hid (spB s[k]=false):=hs;have A2:(k:Int)<=(s.size:Int):=by omega
    clear hs;go_wp2_with fail;refine(q8g s[k] Af.o).mono ?_;rintro e w2⟨rfl,rfl⟩;rw[HP.o,HS.o];go_wp2_with fail;refine(j6h O t HS.o _).mono ?_;rintro e w2⟨rfl,K⟩;have U:Hid (q3y s L k E A P a X w2):=HR.o.later K;have R:Hid (Below bk w w2):=Ab.o.trans (U.o.b.mono (Nat.le_of_lt r));clear HR Ac Af K;cases q:tOk s k with
    | false=>
     have n:Hid (q7a (btL s)=5/\k2a (btL s)=k):=v4a (by rw[q0c];exact t) (j6c U.o O HS.o q);generalize Q:wbS (tkW ((btL s).drop k))=u;clear q Q;go_wp2;refine bodyPost_ret (v:=.tuple #[.slice none 0 0,.slice none 0 0,.int .i64 (k:Int),.iface 23 (.int .i64 5)]) (by simp[results,Tryz.results40,go_sem]) rfl ?_;exact⟨.inl ⟨by rw[n.o.1];decide,by rw[n.o.1,n.o.2,v7n]⟩,by rw[Y.o];exact R.o⟩
    | true=>
     have Aq:Hid (tOk s k=true):=q;obtain⟨y,V⟩:=v0z O HS.o
     have At:(wbS (tkW ((btL s).drop k))).size+k<=s.size:=by
      have:=z1x ((btL s).drop k)
      rw[List.length_drop,q0c]at this;rw[q3o];omega
     have Z:Hid (many (E.map (·.2)++[tkW ((btL s).drop k)])=mm+(if s[k] != 35 then 1 else 0)):=by
      show _=_;rw[z0a,Ad.o,v4n O HS.o]
     have o:Hid ((tkW ((btL s).drop k)).length=(wbS (tkW ((btL s).drop k))).size):=(q3o _).symm;generalize hW:tkW ((btL s).drop k)=W at Z o y V At⊢;have HW:Hid (tkW ((btL s).drop k)=W):=hW;generalize Q:wbS W=u at o y V At⊢;have HU:Hid (wbS W=u):=Q;have A1:(0:Int)<(u.size:Int):=by omega
     clear q hW Q;cases hn:(s[k] != 35)with
     | true=>
      have Ax:((u[0].toNat:Int) != 35)=true:=by
       rw[V y]
       show(!((s[k].toNat:Int)==35))=true
       rw[show(35:Int)=((35:Nat):Int)from rfl,k3l _ 35 (by decide)];exact hn
      have Ae:Hid (many ((E++[(k,W)]).map (·.2))=mm+1):=by
       show _=_;rw[List.map_append]
       have:=Z.o
       rw[hn]at this;exact this
      clear hn V Z;go_wp2_with fail;refine(q8d u _ (by omega)).mono ?_;rintro e z⟨rfl,H⟩;have G:Hid (q3y s L k E A P a X z):=U.o.later H;have Az:=G.o.b.size;clear U R H;obtain⟨i0,Ah,An,Ao,Ap⟩:=info_parts z4p;go_wp2_with(at_builtin;refine wpList_append_lies _ rfl _ _ 58 rfl L.heap.size 9 i0 _ 1 16 Tryz.underlying58 Ah An Ao Ap rfl (by decide) _ _ _ rfl (World.ownsRow.alloc G.o.ws _) ⟨z,0,none⟩ 1 1 [.string u] rfl rfl (cell_one_new z _ _) (by intro u Q;simp at Q;subst Q;rfl) (by decide) (by unfold maxLen;omega) (by omega) (by simp;omega) (z.heap.size+1) (by simp) ?_);intro g2 M l I C d g;have K:=(G.o.b.alloc (by omega) (.cells #[.string u] 9)).grown C (by simp;omega) (fun j hj=>(World.ownsRow.lt G.o.ws j hj).1);have R:=(show Hid (Below _ _ _)from K);have S:Hid (l.ownsRow L.heap.size 3 1 (.slice P E.length X) E.length (q2c (E.map (·.1)))):=z9s (World.ownsRow.alloc G.o.ps _) (World.ownsRow.alloc G.o.ws _) (by decide) C;have Ag:=(show Hid (l.ownsRow _ _ _ _ _ _)from I);have Ay:=K.size;clear I C K d g;obtain⟨i1,Ai,Ak,Al,Am⟩:=info_parts z6b;go_wp2_with(at_builtin;refine wpList_append_lies _ rfl _ _ 45 rfl L.heap.size 3 i1 _ 1 8 Tryz.underlying45 Ai Ak Al Am rfl (by decide) _ _ _ rfl (World.ownsRow.alloc S.o _) ⟨l,0,none⟩ 1 1 [.int .i64 (k:Int)] rfl rfl (cell_one_new l _ _) (by intro u Q;simp at Q;subst Q;rfl) (by decide) (by unfold maxLen;omega) (by omega) (by simp;omega) (l.heap.size+1) (by simp) ?_);intro g3 N w5 J D f h;have H:=(R.o.alloc (by omega) (.cells #[.int .i64 (k:Int)] 3)).grown D (by simp;omega) (fun j hj=>(World.ownsRow.lt S.o j hj).1);have c:=z9s (World.ownsRow.alloc Ag.o _) (World.ownsRow.alloc S.o _) (by decide) D
      have HN:Hid (q3y s L (k+u.size) (E++[(k,W)]) (some ⟨g2,0,none⟩) (some ⟨g3,0,none⟩) M N w5):=by
       show q3y _ _ _ _ _ _ _ _ _;rw[<-o.o,<-HW.o];refine G.o.next O HS.o Aq.o H ?_ ?_
       ·rw[HW.o,HU.o];exact c
       ·exact J
      clear J D f h H c;go_wp2
      go_roundw
      case rel=>exact⟨k+u.size,E++[(k,W)],some ⟨g2,0,none⟩,some ⟨g3,0,none⟩,M,N,by rw[List.length_append];rfl,by rw[List.length_append];rfl,by rw[Ae.o];go_num,by go_num,HN.o⟩
      case measure=>simp[intOf];omega
     | false=>
      have Ax:((u[0].toNat:Int) != 35)=false:=by
       rw[V y]
       show(!((s[k].toNat:Int)==35))=false
       rw[show(35:Int)=((35:Nat):Int)from rfl,k3l _ 35 (by decide)];exact hn
      have Ae:Hid (many ((E++[(k,W)]).map (·.2))=mm):=by
       show _=_;rw[List.map_append]
       have:=Z.o
       rw[hn]at this;exact this
      clear hn V Z;go_wp2_with fail;refine(q8d u _ (by omega)).mono ?_;rintro e z⟨rfl,H⟩;have G:Hid (q3y s L k E A P a X z):=U.o.later H;have Az:=G.o.b.size;clear U R H;obtain⟨i0,Ah,An,Ao,Ap⟩:=info_parts z4p;go_wp2_with(at_builtin;refine wpList_append_lies _ rfl _ _ 58 rfl L.heap.size 9 i0 _ 1 16 Tryz.underlying58 Ah An Ao Ap rfl (by decide) _ _ _ rfl (World.ownsRow.alloc G.o.ws _) ⟨z,0,none⟩ 1 1 [.string u] rfl rfl (cell_one_new z _ _) (by intro u Q;simp at Q;subst Q;rfl) (by decide) (by unfold maxLen;omega) (by omega) (by simp;omega) (z.heap.size+1) (by simp) ?_);intro g2 M l I C d g;have K:=(G.o.b.alloc (by omega) (.cells #[.string u] 9)).grown C (by simp;omega) (fun j hj=>(World.ownsRow.lt G.o.ws j hj).1);have R:=(show Hid (Below _ _ _)from K);have S:Hid (l.ownsRow L.heap.size 3 1 (.slice P E.length X) E.length (q2c (E.map (·.1)))):=z9s (World.ownsRow.alloc G.o.ps _) (World.ownsRow.alloc G.o.ws _) (by decide) C;have Ag:=(show Hid (l.ownsRow _ _ _ _ _ _)from I);have Ay:=K.size;clear I C K d g;obtain⟨i1,Ai,Ak,Al,Am⟩:=info_parts z6b;go_wp2_with(at_builtin;refine wpList_append_lies _ rfl _ _ 45 rfl L.heap.size 3 i1 _ 1 8 Tryz.underlying45 Ai Ak Al Am rfl (by decide) _ _ _ rfl (World.ownsRow.alloc S.o _) ⟨l,0,none⟩ 1 1 [.int .i64 (k:Int)] rfl rfl (cell_one_new l _ _) (by intro u Q;simp at Q;subst Q;rfl) (by decide) (by unfold maxLen;omega) (by omega) (by simp;omega) (l.heap.size+1) (by simp) ?_);intro g3 N w5 J D f h;have H:=(R.o.alloc (by omega) (.cells #[.int .i64 (k:Int)] 3)).grown D (by simp;omega) (fun j hj=>(World.ownsRow.lt S.o j hj).1);have c:=z9s (World.ownsRow.alloc Ag.o _) (World.ownsRow.alloc S.o _) (by decide) D
      have HN:Hid (q3y s L (k+u.size) (E++[(k,W)]) (some ⟨g2,0,none⟩) (some ⟨g3,0,none⟩) M N w5):=by
       show q3y _ _ _ _ _ _ _ _ _;rw[<-o.o,<-HW.o];refine G.o.next O HS.o Aq.o H ?_ ?_
       ·rw[HW.o,HU.o];exact c
       ·exact J
      clear J D f h H c;go_wp2
      go_roundw
      case rel=>exact⟨k+u.size,E++[(k,W)],some ⟨g2,0,none⟩,some ⟨g3,0,none⟩,M,N,by rw[List.length_append];rfl,by rw[List.length_append];rfl,by rw[Ae.o],by go_num,HN.o⟩
      case measure=>simp[intOf];omega
  ·have Au:¬(k:Int)<(s.size:Int):=by omega
   have HX:Hid (lxF (btL s) 0=none/\lxW (btL s) 0=E):=j6d HR.o O
   have HL:Hid ((q2p (btL s)).length=E.length/\many (q2p (btL s))=mm):=by
    refine⟨?_,?_⟩
    ·rw[q2p,HX.o.2,List.length_map]
    ·rw[q2p,HX.o.2];exact Ad.o
   by_cases Aa:300<mm
   ·have Av:(300:Int)<(mm:Int):=by omega
    have n:Hid (q7a (btL s)=3/\k2a (btL s)=0):=j6a (by rw[q0c];exact t) HX.o.1 (by rw[HL.o.2];exact Aa);go_wp2;refine bodyPost_ret (v:=.tuple #[.slice none 0 0,.slice none 0 0,.int .i64 0,.iface 23 (.int .i64 3)]) (by simp[results,Tryz.results40,go_sem]) rfl ?_;exact⟨.inl ⟨by rw[n.o.1];decide,by rw[n.o.1,n.o.2,k7r];rfl⟩,by rw[Y.o];exact Ac.o⟩
   ·have Av:¬(300:Int)<(mm:Int):=by omega
    have n:Hid (q7a (btL s)=0/\k2a (btL s)=0):=j6b (by rw[q0c];exact t) HX.o.1 (by rw[HL.o.2];exact Aa);go_wp2;refine bodyPost_ret (v:=.tuple #[.slice A E.length a,.slice P E.length X,.int .i64 0,.nilIface]) (by simp[results,Tryz.results40,go_sem]) rfl ?_;refine⟨.inr ⟨n.o.1,A,P,a,X,by rw[HL.o.1],k8v (B:=L.heap.size) ?_ (by rw[Y.o];omega),k8v (B:=L.heap.size) ?_ (by rw[Y.o];omega)⟩,by rw[Y.o];exact Ac.o⟩
    ·show wr.ownsRow _ _ _ _ _ _;rw[List.length_map,HL.o.1,q2p,HX.o.2,List.map_map];exact HR.o.ws
    ·show wr.ownsRow _ _ _ _ _ _;rw[<-v1c,HL.o.1,z9u,HX.o.2];exact HR.o.ps
theorem v1b(s:ByteArray)(w:World):Calls prog 40 #[.string s] w fun e w'=>z7o s w e w'/\Below w w w':=by
 by_cases h:(btL s).length<=60000
 ·exact k6t s w h
 ·have A:Hid (q7a (btL s)=3/\k2a (btL s)=0):=j5z (by omega);have B:60000<(s.size:Int):=by rw[q0c]at h;omega
  clear h;go_in;go_wp2;refine bodyPost_ret (v:=.tuple #[.slice none 0 0,.slice none 0 0,.int .i64 0,.iface 23 (.int .i64 3)]) (by simp[results,Tryz.results40,go_sem]) rfl ?_;exact⟨.inl ⟨by rw[A.o.1];decide,by rw[A.o.1,A.o.2,k7r];rfl⟩,Below.refl _ _⟩
theorem g0g{i q n:Nat}(h:i+q<=n):((i:Int)+(q:Int)==(n:Int))=(q==n-i):=by
 by_cases e:q=n-i
 ·rw[beq_iff_eq.2 e,beq_iff_eq.2 (by omega)]
 ·rw[beq_false_of_ne e,beq_false_of_ne (by omega)]
theorem v8h{ws:List ByteArray}{i q:Nat}(h1:1<=q)(h2:i+q<=ws.length):((ws.drop i).take q).length=q/\(ws.drop i).take q≠[]:=by
 have e:((ws.drop i).take q).length=q:=by rw[List.length_take,List.length_drop];omega
 exact⟨e,fun h=>by rw[h]at e;simp at e;omega⟩
theorem y2g{ws:List ByteArray}{b0 o0:Nat}{w wr:World}(hW:Wds w (some ⟨b0,o0,none⟩) ws)(hF:Few ws)(hb:Below w w wr)(i q c n:Nat)(h1:1<=q)(h2:i+q<=ws.length):
  Calls prog 158 #[.slice (some ⟨b0,o0+i,none⟩) q c] (wr.drewN n) fun e w'=>e=.returned (.int .i64 (ln ((ws.drop i).take q)))/\wr.drewN n=w':=
 v6u q _ (v8h h1 h2).1 _ c _ (v8h h1 h2).2 ((hF.drop i).take q) (Wds.W ((z5g.drop hW i).take q) (q3b hb n))
theorem j6r{wd:Nat}{ws:List ByteArray}{bL bF i q bv sv nq:Nat}{w:World}(h:Mid wd ws bL bF i (q-1) w)(hi:i<ws.length)(hq:1<=q)(ho:fOf wd (ws.drop i) q=bv+sv)(h1:q=1\/bv+sv<=z4h (fOf wd (ws.drop i)) (q-1)):
  Mid wd ws bL bF i (q+1-1) (((w.drewN nq).setCell ⟨bL,i,none⟩ (.int .i64 ((bv:Int)+(sv:Int)))).setCell ⟨bF,i,none⟩ (.int .i64 (q:Int))):=by
 obtain⟨m,rfl⟩:∃m,q=m+1:=⟨q-1,by omega⟩;simp only[Nat.add_sub_cancel]at h h1⊢;have C:Mid wd ws bL bF i m (w.drewN nq):=h.kept rfl rfl
 have:=C.put hi (by rw[ho];omega)
 rw[ho]at this;have A:((bv+sv:Nat):Int)=(bv:Int)+(sv:Int):=by omega
 have B:((m+1:Nat):Int)=(m:Int)+1:=by omega
 rw[A]at this;rw[B];exact this
theorem v4o{wd:Nat}{ws:List ByteArray}{bL bF i q nq:Nat}{w:World}(h:Mid wd ws bL bF i (q-1) w)(hq:1<=q)(h1:¬fOf wd (ws.drop i) q<=z4h (fOf wd (ws.drop i)) (q-1))(h2:¬q=1):Mid wd ws bL bF i (q+1-1) (w.drewN nq):=by
 obtain⟨m,rfl⟩:∃m,q=m+1:=⟨q-1,by omega⟩;simp only[Nat.add_sub_cancel]at h h1⊢;have A:Mid wd ws bL bF i m (w.drewN nq):=h.kept rfl rfl;exact A.skip (by omega)
theorem k1y(ws:List ByteArray)(a:Option Addr)(cap wd:Nat)(w:World)(hc:ws.length<=cap)(hF:Few ws)(hw:wd<=100)(hW:Wds w a ws):
  Calls prog 105 #[.slice a ws.length cap,.int .i64 wd] w fun e w'=>(∃A c,e=.returned (.slice A (z1f wd ws).length c)/\z3d w.heap.size (.slice A (z1f wd ws).length c) (z1f wd ws) w')/\Below w w w':=by
 have hl:=hF.1;have HW:Hid (Wds w a ws):=hW;have y:Hid (Few ws):=hF
 have Aq:∀W:World,(Instr.makeSlice 45 (.int .i64 ((ws.length:Int)+1)) (.int .i64 ((ws.length:Int)+1))).run prog W=.ok (.slice (some ⟨W,0,none⟩) (ws.length+1) (ws.length+1)) (W.alloc (.cells (madeCells #[.int .i64 0] (ws.length+1)) 3)):=fun W=>by
  have:=run_make_row' 45 3 _ 8 Tryz.underlying45 z6b rfl .i64 .i64 (ws.length+1) (by omega) (by omega) W
  have e:((ws.length+1:Nat):Int)=(ws.length:Int)+1:=by omega
  rw[e]at this;exact this
 have Ar:∀W:World,(Instr.makeSlice 45 (.int .i64 (ws.length:Int)) (.int .i64 (ws.length:Int))).run prog W=.ok (.slice (some ⟨W,0,none⟩) ws.length ws.length) (W.alloc (.cells (madeCells #[.int .i64 0] ws.length) 3)):=fun W=>
  run_make_row' 45 3 _ 8 Tryz.underlying45 z6b rfl .i64 .i64 ws.length (by omega) (by omega) W
 have HM:Hid (Lst wd ws w.heap.size (w.heap.size+1) ws.length ((w.alloc (.cells (madeCells #[.int .i64 0] (ws.length+1)) 3)).alloc (.cells (madeCells #[.int .i64 0] ws.length) 3))):=Lst.made wd ws w;clear hW hF;go_in;go_wp2
 go_loopw [7] (fun i wr=>Below w w wr/\∃k:Nat,k<=ws.length/\i=.int .i64 ((k:Int)-1)/\Lst wd ws w.heap.size (w.heap.size+1) k wr) (fun i _=>(intOf i+1).toNat)
 case atStart=>exact⟨((Below.refl _ w).alloc Zl _).alloc (by simp) _,ws.length,Nat.le_refl _,by go_num,HM.o⟩
 case round=>
  obtain⟨g,k,hk,rfl,hL⟩:=hrel;have HB:Hid (Below w w wr):=g;have t:Hid (Lst wd ws w.heap.size (w.heap.size+1) k wr):=hL;clear g hL;by_cases o:k=0
  ·subst o;have Ak:¬((0:Int)<=((0:Nat):Int)-1):=by omega
   have Af:w.heap.size+2<=wr.heap.size:=t.o.rf.lt;go_wp2
   go_loopw [10,11] (fun l i wx=>Below (w.heap.size+2) wr wx/\∃(k:Nat)(C:List Nat)(A:Option Addr)(c:Nat),k<=ws.length/\C.length<=k/\i=.int .i64 (k:Int)/\l=.slice A C.length c/\z3d (w.heap.size+2) (.slice A C.length c) C wx/\z1f wd ws=C++z1f wd (ws.drop k)) (fun _ i _=>ws.length-(intOf i).toNat)
   case atStart=>exact⟨Below.refl _ _,0,[],none,0,Nat.zero_le _,Nat.le_refl _,rfl,rfl,World.ownsRow_nil _ _ _ _,rfl⟩
   case round=>
    rename_i wo0 wo1 wo2;obtain⟨I,k,C,A,c,An,Ao,rfl,rfl,hO,hcut⟩:=hrel;have V:Hid (Below (w.heap.size+2) _ wr):=I;have H:Hid (z3d (w.heap.size+2) (.slice A C.length c) C wr):=hO;have HC:Hid (z1f wd ws=C++z1f wd (ws.drop k)):=hcut;have z:Hid (Lst wd ws w.heap.size (w.heap.size+1) 0 wr):=t.o.kept (I.block _ (by omega)) (I.block _ (by omega));have Au:=I.size;clear I hO hcut;by_cases E:k<ws.length
    ·have R:(k:Int)<(ws.length:Int):=by omega
     have Q:ws.drop k≠[]:=fun e=>by
      have:=congrArg List.length e
      rw[List.length_drop,List.length_nil]at this;omega
     have c1:=z.o.cf k (Nat.zero_le _) E
     have X:Hid (z1f wd ws=(C++[agF wd (ws.drop k)])++z1f wd (ws.drop (k+agF wd (ws.drop k)))):=by
      show z1f wd ws=_;rw[HC.o,q5k wd Q,List.drop_drop,List.append_assoc];rfl
     obtain⟨Ac,m⟩:=q8u wd Q;rw[List.length_drop]at m;have Y:Hid (∀W:World,Lst wd ws w.heap.size (w.heap.size+1) 0 W->W.cell? ⟨w.heap.size+1,k,none⟩=some (.int .i64 ((agF wd (ws.drop k):Nat):Int))):=fun W h=>h.cf k (Nat.zero_le _) E
     generalize agF wd (ws.drop k)=av at c1 X Ac m Y;clear Q;obtain⟨i0,Ad,Ag,Ah,Ai⟩:=info_parts z6b;go_wp2_with(at_builtin;refine wpList_append_lies _ rfl _ _ 45 rfl (w.heap.size+2) 3 i0 _ 1 8 Tryz.underlying45 Ad Ag Ah Ai rfl (by decide) _ _ _ rfl (World.ownsRow.alloc H.o _) ⟨wr,0,none⟩ 1 1 [.int .i64 (av:Int)] rfl rfl (cell_one_new wr _ _) (by intro u hu;simp at hu;subst hu;rfl) (by decide) (by unfold maxLen;omega) (by omega) (by simp;omega) (wr.heap.size+1) (by simp) ?_);intro g2 N w2 J D f r;have K:=(V.o.alloc (by omega) (.cells #[.int .i64 (av:Int)] 3)).grown D (by simp;omega) (fun j hj=>(World.ownsRow.lt H.o j hj).1);have x:=(show Hid (Below _ _ _)from K);have c2:=Y.o w2 (t.o.kept (K.block _ (by omega)) (K.block _ (by omega)))
     have Aa:Hid (z3d (w.heap.size+2) (.slice (some ⟨g2,0,none⟩) (C.length+1) N) (C++[av]) w2):=by
      show w2.ownsRow _ _ _ _ _ _;rw[z2d,List.length_append];exact J
     clear J D K f r;go_wp2
     go_roundw
     case rel=>exact⟨x.o,k+av,C++[av],some ⟨g2,0,none⟩,N,by omega,by simp;omega,by go_num,by rw[List.length_append];rfl,by rw[List.length_append];exact Aa.o,X.o⟩
     case measure=>simp[intOf];omega
    ·have Ap:¬(k:Int)<(ws.length:Int):=by omega
     have HE:Hid (z1f wd ws=C):=by
      show z1f wd ws=C;rw[HC.o,List.drop_eq_nil_of_le (by omega),q6a,List.append_nil]
     go_wp2;go_ret;rw[HE.o];exact⟨⟨A,c,rfl,Joins.ownsRow_le H.o (by omega)⟩,HB.o.trans (V.o.mono (by omega))⟩
  ·obtain⟨i,rfl⟩:∃i,k=i+1:=⟨k-1,by omega⟩;have R:(((i+1:Nat):Int)-1)=(i:Int):=by omega
   rw[R];have v:i<ws.length:=by omega
   clear R o;go_wp2
   go_loopw [8] (fun n wx=>Below w w wx/\∃q:Nat,1<=q/\i+q<=ws.length+1/\n=.int .i64 (q:Int)/\Mid wd ws w.heap.size (w.heap.size+1) i (q-1) wx) (fun n _=>(ws.length+1-(intOf n).toNat))
   case atStart=>exact⟨HB.o,1,by omega,by omega,by go_num,Mid.start t.o⟩
   case round=>
    rename_i wy;obtain⟨g,q,M,As,rfl,hM⟩:=hrel;have G:Hid (Below w w wr):=g;have B:Hid (Mid wd ws w.heap.size (w.heap.size+1) i (q-1) wr):=hM;clear g hM;by_cases E:i+q<=ws.length
    ·obtain⟨b0,o0,ea,Al⟩:=HW.o.some (show 0<ws.length by omega);subst ea;have Aj:(i:Int)+(q:Int)<=(ws.length:Int):=by omega
     have At:=y7s b0 o0 ws.length cap i q (by omega) (by omega);have P:wr.cell? ⟨w,i+q,none⟩=some (.int .i64 ((best wd (ws.drop (i+q)):Nat):Int)):=B.o.l.cl (i+q) (by omega) E
     have Z:Hid (∀n,Calls prog 158 #[.slice (some ⟨b0,o0+i,none⟩) q (cap-i)] (wr.drewN n) fun e w'=>e=.returned (.int .i64 (ln ((ws.drop i).take q)))/\w'=wr.drewN n):=fun n=>
      (y2g HW.o y.o G.o i q (cap-i) n M E).mono fun _ _ h=>⟨h.1,h.2.symm⟩
     have O:Hid (∀n,Calls prog 157 #[.int .i64 (ln ((ws.drop i).take q)),.int .i64 wd,.bool ((i:Int)+(q:Int)==(ws.length:Int))] (wr.drewN n) fun e w'=>e=.returned (.int .i64 (bd (ln ((ws.drop i).take q)) wd (q==ws.length-i)))/\w'=wr.drewN n):=fun n=>by
      rw[g0g E];exact(v6q _ wd _ _ ((y.o.drop i).take q).ln hw).mono fun _ _ h=>⟨h.1,h.2.symm⟩
     have H:Hid (fOf wd (ws.drop i) q=bd (ln ((ws.drop i).take q)) wd (q==ws.length-i)+best wd (ws.drop (i+q))):=y5q wd ws i q;have L:=y5r hw (y.o.drop i) q;rw[H.o]at L;generalize ln ((ws.drop i).take q)=lv at Z O H L;generalize bd lv wd (q==ws.length-i)=bv at O H L;generalize best wd (ws.drop (i+q))=sv at P H L;go_wp2_with fail
     go_quiet (first|(go_at_call 158;exact Calls.quiet_of_same (Z.o _))|(go_at_call 157;exact Calls.quiet_of_same (O.o _)))
     obtain⟨y1,e1⟩:=B.o.l.rl.cell (show i<ws.length+1 by omega);obtain⟨y2,e2⟩:=B.o.l.rf.cell v;have f1:wr.frozen? ⟨w,i,none⟩=false:=B.o.l.rl.frozen;have f2:wr.frozen? ⟨w.heap.size+1,i,none⟩=false:=B.o.l.rf.frozen;have Af:w.heap.size+1<wr.heap.size:=B.o.l.rf.lt;by_cases U:q=1
     ·have Ae:((q:Int)==1)=true:=by simp[U]
      have d:=hid (j6r (nq:=nq) B.o v M H.o (.inl U));clear U;go_wp2
      go_roundw
      case rel=>exact⟨j2v (q3b G.o nq) Zl (by omega),q+1,by omega,by omega,by go_num,d.o⟩
      case measure=>simp[intOf];omega
     ·have Ae:((q:Int)==1)=false:=by simp;omega
      have Ab:=(B.o.c (by omega)).1;generalize s:z4h (fOf wd (ws.drop i)) (q-1)=mv at Ab;have b:Hid (z4h (fOf wd (ws.drop i)) (q-1)=mv):=s;clear s e1;by_cases S:bv+sv<=mv
      ·have d:=hid (j6r (nq:=nq) B.o v M H.o (.inr (by rw[b.o];exact S)));have p:(bv:Int)+(sv:Int)<=(mv:Int):=by omega
       clear U S;go_wp2
       go_roundw
       case rel=>exact⟨j2v (q3b G.o nq) Zl (by omega),q+1,by omega,by omega,by go_num,d.o⟩
       case measure=>simp[intOf];omega
      ·have d:=hid (v4o (nq:=nq) B.o M (by rw[H.o,b.o];omega) U);have p:¬(bv:Int)+(sv:Int)<=(mv:Int):=by omega
       clear U S;go_wp2
       go_roundw
       case rel=>exact⟨q3b G.o nq,q+1,by omega,by omega,by go_num,d.o⟩
       case measure=>simp[intOf];omega
    ·have Am:¬(i:Int)+(q:Int)<=(ws.length:Int):=by omega
     have HD:Hid (Lst wd ws w.heap.size (w.heap.size+1) i wr):=B.o.done v (by omega);go_wp2
     go_roundw
     case rel=>exact⟨G.o,i,by omega,by go_num,HD.o⟩
     case measure=>simp[intOf]
theorem y1d(n:Nat):Lib.decDigits n=q2n n:=by
 induction n using Nat.strongRecOn with
 | ind n ih=>
  rw[Lib.decDigits,q2n];by_cases h:n<10
  ·rw[dif_pos h,dif_pos (by omega)]
  ·rw[dif_neg h,dif_neg (by omega),ih (n / 10) (by omega)]
theorem k7z(n:Int)(h0:0<=n)(h1:n<=999999)(w:World)(ht:z7n w):Calls prog 131 #[.int .i64 n] w fun e w'=>e=.returned (.string (wbS (q2n n.toNat)))/\Below w w w':=by
 refine(itoa_sh n (by omega) (by omega) w ht).mono ?_;rintro e w'⟨rfl,k,A,rfl⟩;refine⟨?_,Lib.below_grow _ _ Zl _ _⟩;rw[Lib.itoa,if_neg (by omega),y1d];rfl
abbrev ExC(w0:World)(b:Nat)(x:Td)(k:Fo):Prop:=∀(bs:List UInt8)(rest:List Td)(w:World),bs.length+(q3r x k.R).length<=500000->WyE w0 b bs (x::(k.N++rest)) w->
 Calls prog 85 #[.pointer (some ⟨b,0,none⟩)] w fun e w'=>e=.returned (.tuple #[])/\WyE w0 b (bs++q3r x k.R) rest w'
def v9r(w0:World)(b:Nat):Fo->Prop
 | .nil=>True
 | .cons x k n=>ExC w0 b x k/\v9r w0 b n
theorem v6i{w0:World}{b:Nat}(ht:z7n w0)(n:Int)(h0:0<=n)(h9:n<=999999)(tx:ByteArray):ExC w0 b ⟨1,tx,n⟩ .nil:=by
 intro J B w P O;obtain⟨A,c,h⟩:=O;have H:Hid (Calls prog 83 #[.pointer (some ⟨b,0,none⟩)] w fun e C=>e=.returned (tdV ⟨1,tx,n⟩)/\WyE w0 b J B C):=q4r h;have K:Hid (q3r ⟨1,tx,n⟩ Fo.nil.R=q2n n.toNat):=rfl;rw[K.o]at P⊢;have L:Hid (z7n w0):=ht;clear h ht;go_in;go_wp2_with fail;refine H.o.mono ?_;rintro e D⟨rfl,Q,U,E⟩;have G:Hid (∀W:World,Below D D W->Calls prog 131 #[.int .i64 n] W fun e C=>e=.returned (.string (wbS (q2n n.toNat)))/\Below W W C):=fun W hb=>k7z n h0 h9 W ((L.o.W E.bl).W hb)
 have I:Hid (∀W:World,Below D D W->Calls prog 38 #[.pointer (some ⟨b,0,none⟩),.string (wbS (q2n n.toNat))] W fun e C=>(∃z,e=.returned (.tuple #[z,.nilIface]))/\WyE w0 b (J++q2n n.toNat) B C):=fun W hb=>by
  refine(q4s (E.grew hb) (wbS (q2n n.toNat)) (by omega) (by rw[<-q0c,y9w];omega)).mono ?_;rintro e C⟨rfl,h,_⟩;exact⟨⟨_,rfl⟩,_,_,h⟩
 generalize wbS (q2n n.toNat)=S at G I;clear E H;go_wp2_with fail
 go_region_with (first|(go_at_call 131;refine(G.o _ (z2o D _)).mono ?_;rintro e V⟨rfl,M⟩)|(go_at_call 38;refine(I.o _ (q0d (z2o D _) Zl M)).mono ?_;rintro e X⟨⟨z,rfl⟩,N⟩))
 all_goals
  go_wp2
  go_end0
  exact⟨rfl,N⟩
theorem v0v{w0:World}{b:Nat}(tx:ByteArray)(n:Int):ExC w0 b ⟨2,tx,n⟩ .nil:=by
 intro G B w M L;obtain⟨A,c,h⟩:=L;have E:Hid (Calls prog 83 #[.pointer (some ⟨b,0,none⟩)] w fun e C=>e=.returned (tdV ⟨2,tx,n⟩)/\WyE w0 b G B C):=q4r h;have I:Hid (q3r ⟨2,tx,n⟩ Fo.nil.R=btL tx):=rfl;rw[I.o]at M⊢;clear h;go_in;go_wp2_with fail;refine E.o.mono ?_;rintro e D⟨rfl,N,O,H⟩
 have J:Hid (∀W:World,Below D D W->Calls prog 38 #[.pointer (some ⟨b,0,none⟩),.string tx] W fun e C=>(∃z,e=.returned (.tuple #[z,.nilIface]))/\WyE w0 b (G++btL tx) B C):=fun W hb=>by
  refine(q4s (H.grew hb) tx (by omega) (by rw[<-q0c];omega)).mono ?_;rintro e C⟨rfl,h,_⟩;exact⟨⟨_,rfl⟩,_,_,h⟩
 clear H E;go_wp2_with fail
 go_region_with (go_at_call 38;refine(J.o _ (z2o D _)).mono ?_;rintro e P⟨⟨z,rfl⟩,K⟩)
 all_goals
  go_wp2
  go_end0
  exact⟨rfl,K⟩
abbrev KdC(w0:World)(b:Nat)(F:Fo)(o z:UInt8):Prop:=∀(bs:List UInt8)(rest:List Td)(w:World),bs.length+(cmx F.R).length+2<=500000->WyE w0 b bs (F.N++rest) w->
 Calls prog 132 #[.pointer (some ⟨b,0,none⟩),.int .i64 (F.len:Int),.int .u8 (o.toNat:Int),.int .u8 (z.toNat:Int)] w fun e w'=>e=.returned (.tuple #[])/\WyE w0 b (bs++o::(cmx F.R++[z])) rest w'
theorem v0u{w0:World}{b:Nat}{F:Fo}(tx:ByteArray)(hK:KdC w0 b F 91 93):ExC w0 b ⟨4,tx,(F.len:Int)⟩ F:=by
 intro C B w I M;obtain⟨A,c,h⟩:=M;have G:Hid (Calls prog 83 #[.pointer (some ⟨b,0,none⟩)] w fun e w'=>e=.returned (tdV ⟨4,tx,(F.len:Int)⟩)/\WyE w0 b C (F.N++B) w'):=q4r h;have J:Hid (q3r ⟨4,tx,(F.len:Int)⟩ F.R=91::(cmx F.R++[93])):=rfl;rw[J.o]at I⊢;have E:Hid (KdC w0 b F 91 93):=hK;clear h hK;simp only[List.length_cons,List.length_append,List.length_nil]at I;go_in;go_wp2_with fail;refine G.o.mono ?_;rintro e D⟨rfl,O,P,H⟩;have K:Hid (∀W:World,Below D D W->Calls prog 132 #[.pointer (some ⟨b,0,none⟩),.int .i64 (F.len:Int),.int .u8 91,.int .u8 93] W fun e w'=>e=.returned (.tuple #[])/\WyE w0 b (C++91::(cmx F.R++[93])) B w'):=fun W hb=>E.o C B W (by omega) ⟨_,_,H.grew hb⟩
 clear H G E;go_wp2_with fail;refine(K.o _ (q2m D _)).mono ?_;rintro e Q⟨rfl,L⟩;go_wp2
 go_end0
 exact⟨rfl,L⟩
theorem v0t{w0:World}{b:Nat}{F:Fo}(tx:ByteArray)(hK:KdC w0 b F 40 41):ExC w0 b ⟨3,tx,(F.len:Int)⟩ F:=by
 intro I B w Q K;obtain⟨A,c,h⟩:=K;have O:Hid (Calls prog 83 #[.pointer (some ⟨b,0,none⟩)] w fun e D=>e=.returned (tdV ⟨3,tx,(F.len:Int)⟩)/\WyE w0 b I (F.N++B) D):=q4r h;have M:Hid (q3r ⟨3,tx,(F.len:Int)⟩ F.R=btL tx++40::(cmx F.R++[41])):=rfl;rw[M.o]at Q⊢;have L:Hid (KdC w0 b F 40 41):=hK;clear h hK;simp only[List.length_cons,List.length_append,List.length_nil]at Q;go_in;go_wp2_with fail;refine O.o.mono ?_;rintro e E⟨rfl,a,d,J⟩
 have U:Hid (∀W:World,Below E E W->Calls prog 38 #[.pointer (some ⟨b,0,none⟩),.string tx] W fun e D=>(∃z,e=.returned (.tuple #[z,.nilIface]))/\WyE w0 b (I++btL tx) (F.N++B) D/\Lib.OthersKept 5 (some b) W D):=fun W hb=>by
  refine(q4s (J.grew hb) tx (by omega) (by rw[<-q0c];omega)).mono ?_;rintro e D⟨rfl,h,Y⟩;exact⟨⟨_,rfl⟩,⟨_,_,h⟩,Y⟩
 have G:Hid (∀W:World,WyE w0 b (I++btL tx) (F.N++B) W->Calls prog 132 #[.pointer (some ⟨b,0,none⟩),.int .i64 (F.len:Int),.int .u8 40,.int .u8 41] W fun e D=>e=.returned (.tuple #[])/\WyE w0 b ((I++btL tx)++40::(cmx F.R++[41])) B D):=fun W K=>L.o _ B W (by rw[List.length_append];omega) K
 have X:b<E.heap.size:=J.x.lt;clear J O L;generalize F.len=fn at G M⊢;go_wp2_with fail
 go_region_with (go_at_call 38;refine(U.o _ (z2o E _)).mono ?_;rintro e S⟨⟨z,rfl⟩,V,H⟩)
 all_goals
  have C:S.heap[E.heap.size]?=some (.cells #[.int .i64 3,.string tx,.int .i64 (fn:Int)] 47 (0,0)):=H _ _ (heap_alloc_new E _) (by simp;omega) (fun c fz e=>by cases e);have Z:S.cell? ⟨E,2,none⟩=some (.int .i64 (fn:Int)):=by rw[Lib.cell_of_heap C];rfl
  clear C H;go_wp2_with fail;refine(G.o _ V).mono ?_;rintro e f⟨rfl,P⟩;go_wp2
  go_end0
  rw[List.append_assoc]at P;exact⟨rfl,P⟩
end Go.Proofs.YtfdppahhbpfnoaaGreatDoor
namespace Go.Proofs.YtfdppahhbpfnoaaGreatDoor
open Go.ChangeShapes Go.WideShapes Go.RowKit
theorem Tryz.own:ownKnob prog.godebug=none:=by kernel_rfl
theorem Tryz.size:prog.types.size=371:=by kernel_rfl
def k1w(P:Program)(os:Os):World:=
 let w0:=World.holding P os ⟨#[],#[],[]⟩
 {w0 with heap:=w0.heap.modify 0 fun
   | .cells _ t frozen=>.cells #[.iface 227 (.agg #[.pointer (some ⟨12,29,none⟩)])] t frozen
   | o=>o}
end Go.Proofs.YtfdppahhbpfnoaaGreatDoor
namespace Go.Proofs.YtfdppahhbpfnoaaGreatDoor
open Go Go.RowKit
set_option maxRecDepth 100000
set_option maxHeartbeats 1000000
theorem k6c(c:Int)(h:c=0\/c=1)(w:World):Calls prog 50 #[.int .i64 c] w fun e w'=>e=.returned (.bool false)/\w=w':=by
 rcases h with rfl|rfl
 all_goals
  go_in;go_wp2;go_ret;exact⟨rfl,rfl⟩
theorem k2r(c:Int)(h0:c≠0)(h1:c≠1)(w:World):Calls prog 50 #[.int .i64 c] w fun e w'=>e=.returned (.bool true)/\w=w':=by
 have A:(c != 0)=true:=by simp[h0]
 have B:(c != 1)=true:=by simp[h1]
 clear h0 h1;go_in;go_wp2;go_ret;exact⟨rfl,rfl⟩
theorem q9v(ws:List Int)(wa:Option Addr)(wc:Nat)(w:World)(hI:q7w w wa ws)(hl:ws.length<=9223372036854775807):
  Calls prog 89 #[.slice wa ws.length wc,.func (.func 50) #[] #[]] w fun e w'=>((q2g ws/\e=.returned (.int .i64 (-1)))\/(¬q2g ws/\∃k:Nat,e=.returned (.int .i64 k)))/\w=w':=by
 have L:Hid (q7w w wa ws):=hI;clear hI;go_in;go_wp2_with fail
 go_loopw [8] (fun i wr=>wr=w/\∃k:Nat,k<=ws.length/\i=.int .i64 k/\∀j(h:j<ws.length),j<k->ws[j]=0\/ws[j]=1) (fun i _=>ws.length-(intOf i).toNat)
 case atStart=>exact⟨rfl,0,Nat.zero_le _,rfl,fun j _ I=>by omega⟩
 case round=>
  obtain⟨rfl,k,R,rfl,C⟩:=hrel;have K:Hid (∀j(h:j<ws.length),j<k->ws[j]=0\/ws[j]=1):=C;clear C;by_cases E:k<ws.length
  ·obtain⟨P,S,M,N,Q⟩:=L.o k E;subst M;by_cases A:ws[k]=0\/ws[k]=1
   ·have G:Hid (∀j(h:j<ws.length),j<k+1->ws[j]=0\/ws[j]=1):=fun j h I=>by
     by_cases J:j=k
     ·subst J;exact A
     ·exact K.o j h (by omega)
    have D:Hid (ws[k]=0\/ws[k]=1):=A;clear A;go_wp2_with fail;refine(k6c _ D.o _).mono ?_;rintro e O⟨rfl,rfl⟩;go_wp2
    go_roundw
    case rel=>exact⟨by trivial,k+1,by omega,by go_num,G.o⟩
    case measure=>simp[intOf];omega
   ·have D:Hid (¬(ws[k]=0\/ws[k]=1)):=A;clear A;go_wp2_with fail;refine(k2r _ (fun h=>D.o (.inl h)) (fun h=>D.o (.inr h)) _).mono ?_;rintro e O⟨rfl,rfl⟩;go_wp2;go_ret;exact⟨.inr ⟨fun B=>D.o (B _ (List.getElem_mem E)),k,rfl⟩,rfl⟩
  ·have B:q2g ws:=fun c hc=>by
    obtain⟨j,I,rfl⟩:=List.getElem_of_mem hc;exact K.o j I (by omega)
   have H:Hid (q2g ws):=B;clear B;go_wp2;go_ret;exact⟨.inl ⟨H.o,rfl⟩,rfl⟩
theorem y9x(ws:List Int)(wa:Option Addr)(wc:Nat)(w:World)(hI:q7w w wa ws)(hl:ws.length<=9223372036854775807)(h:q2g ws):
  Calls prog 49 #[.slice wa ws.length wc,.func (.func 50) #[] #[]] w fun e w'=>e=.returned (.bool false)/\w=w':=by
 have B:Hid (q7w w wa ws):=hI;have H:Hid (q2g ws):=h;clear hI h;go_in;go_wp2_with fail;refine(q9v ws wa wc _ B.o hl).mono ?_;rintro e C⟨A,rfl⟩;rcases A with⟨_,rfl⟩|⟨A,_⟩
 ·go_wp2;go_ret;exact⟨rfl,rfl⟩
 ·exact absurd H.o A
theorem y5f(ws:List Int)(wa:Option Addr)(wc:Nat)(w:World)(hI:q7w w wa ws)(hl:ws.length<=9223372036854775807)(h:¬q2g ws):
  Calls prog 49 #[.slice wa ws.length wc,.func (.func 50) #[] #[]] w fun e w'=>e=.returned (.bool true)/\w=w':=by
 have B:Hid (q7w w wa ws):=hI;have H:Hid (¬q2g ws):=h;clear hI h;go_in;go_wp2_with fail;refine(q9v ws wa wc _ B.o hl).mono ?_;rintro e D⟨A,rfl⟩;rcases A with⟨A,_⟩|⟨_,k,rfl⟩
 ·exact absurd A H.o
 ·have C:(0:Int)<=(k:Int):=by omega
  go_wp2;go_ret;exact⟨rfl,rfl⟩
def q0q(ws:List Int):List Value:=ws.map (.int .i64)
theorem k1u(ws:List Int):(q0q ws).length=ws.length*1:=by simp[q0q]
theorem k1t(a b:List Int):q0q (a++b)=q0q a++q0q b:=by simp[q0q]
theorem z9q{B:Nat}{w:World}{a:Option Addr}{n cap m:Nat}{ws:List Int}(h:w.ownsRow B 3 1 (.slice a n cap) m (q0q ws)):m=ws.length/\n=ws.length/\ws.length<=cap/\q7w w a ws/\(a=none->ws=[]/\cap=0):=by
 have I:m=ws.length:=by have:=h.1;rw[k1u]at this;omega
 rcases h.2 with⟨C,O⟩|⟨g,c,K,C,_,J,L,_,M,A⟩
 ·simp only[Value.slice.injEq]at C;obtain⟨rfl,rfl,rfl⟩:=C;have N:ws=[]:=List.eq_nil_of_length_eq_zero (by omega);subst N;exact⟨I,rfl,Nat.le_refl _,fun i E=>by simp at E,fun _=>⟨rfl,rfl⟩⟩
 ·simp only[Value.slice.injEq]at C;obtain⟨rfl,rfl,rfl⟩:=C;refine⟨I,I,by omega,?_,fun h=>by cases h⟩;intro i E
  have H:g<w.heap.size:=by
   rcases Nat.lt_or_ge g w.heap.size with D|D
   ·exact D
   ·simp[Array.getElem?_eq_none D]at J
  refine⟨g,0,rfl,H,?_⟩;have G:(q0q ws)[i]?=some (.int .i64 ws[i]):=by simp[q0q,E]
  rw[<-A]at G;rw[List.getElem?_take_of_lt (by omega)]at G;rw[Nat.zero_add];simp only[World.cell?,J];simpa using G
end Go.Proofs.YtfdppahhbpfnoaaGreatDoor
