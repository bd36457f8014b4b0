/- Texts as one: WayS, WayQ, LayZ, FilQ, IntB, FilK, FilA, RWds, FilB, RowO, FilJ. -/
import Derived.Test.YtchdplceopegoaaGreatDoorPs07
import Derived.Deep.OwnRows
import Derived.Deep.AppendLies
import Derived.OwnWalk
import Derived.Lib.SmallJoins
namespace Go.Proofs.YtchdplceopegoaaGreatDoor
def z0v (f g:Nat→List Int→Except Int (List UInt8 × List Int)) (deep:Nat) (ws:List Int):Except Int (List UInt8 × List Int):=
 match f deep ws with
 | .error e=>.error e
 | .ok (s,ws1)=>match g deep ws1 with
  | .error e=>.error e
  | .ok (t,ws2)=>.ok (s++t,ws2)
def q9j (f:Nat→List Int→Except Int (List UInt8 × List Int)) (sA:ByteArray) (fl:Bool) (deep:Nat) (ws:List Int):Except Int (List UInt8 × List Int):=
 match ws with
 | []=>.error 2
 | c::ws=>if c=1 then f deep ws else if fl=true then .ok (sA.data.toList,ws) else .error 4
def q6m (f g:Nat→List Int→Except Int (List UInt8 × List Int)) (deep:Nat) (ws:List Int):Except Int (List UInt8 × List Int):=
 match ws with
 | []=>.error 2
 | c::ws=>if c=0 then f deep ws else g deep ws
theorem j8o {t:Tr} {s:List UInt8} (h:t.Wf) (e:t.flat=some s):s.length≤20*t.nodes.length:=by
 have:=z3e t h
 rw [e] at this
 exact this
theorem q6o:∀ (t:Tr) (deep:Nat) (ws:List Int) (u:List UInt8) (v:List Int),t.Wf→t.lay deep ws = .ok (u,v)→deep+8*t.nodes.length≤3300→u.length≤4000*t.nodes.length
 | .leaf x,deep,ws,u,v,h,e,hd=>by
  obtain ⟨_,_,_,_,h5,_⟩:=q1r h.1
  simp only [Tr.lay] at e
  simp only [Tr.nodes,List.length_cons,List.length_nil] at hd ⊢
  split at e
  ·rename_i h1
   cases e
   have:=q3x (h5 h1)
   rw [q0y]
   omega
  ·split at e
   ·cases e;simp
   ·cases e
    simp
    omega
 | .one x a,deep,ws,u,v,h,e,hd=>by
  obtain ⟨_,_,_,_,_,h6⟩:=q1r h.1
  simp only [Tr.lay] at e
  simp only [Tr.nodes,List.length_cons] at hd ⊢
  split at e
  ·rename_i h7
   have:=h6 h7
   have:=q6o a _ ws u v h.2.2 e (by omega)
   omega
  ·match ws,e with
   | c::ws,e=>
    simp only at e
    split at e
    ·have:=q6o a deep ws u v h.2.2 e (by omega)
     omega
    ·cases hf:a.flat with
     | none=>rw [hf] at e;cases e
     | some w=>
      rw [hf] at e
      cases e
      have:=j8o h.2.2 hf
      omega
 | .two x a b,deep,ws,u,v,h,e,hd=>by
  simp only [Tr.lay] at e
  simp only [Tr.nodes,List.length_cons,List.length_append] at hd ⊢
  split at e
  ·cases ha:a.lay deep ws with
   | error e0=>rw [ha] at e;cases e
   | ok p=>
    obtain ⟨s1,ws1⟩:=p
    rw [ha] at e
    simp only at e
    cases hb:b.lay deep ws1 with
    | error e0=>rw [hb] at e;cases e
    | ok q=>
     obtain ⟨s2,ws2⟩:=q
     rw [hb] at e
     cases e
     have:=q6o a deep ws s1 ws1 h.2.2.1 ha (by omega)
     have:=q6o b deep ws1 s2 _ h.2.2.2 hb (by omega)
     rw [List.length_append]
     omega
  ·match ws,e with
   | c::ws,e=>
    simp only at e
    split at e
    ·have:=q6o a deep ws u v h.2.2.1 e (by omega)
     omega
    ·have:=q6o b deep ws u v h.2.2.2 e (by omega)
     omega
theorem v6l {x:Nd} {a b:Tr} (h:x.op=6):Tr.lay (.two x a b)=z0v a.lay b.lay:=by
 funext deep ws
 simp only [Tr.lay,z0v,if_pos h]
 rfl
theorem k6q {x:Nd} {a b:Tr} (h:x.op=9):Tr.lay (.two x a b)=q6m a.lay b.lay:=by
 funext deep ws
 simp only [Tr.lay,q6m,if_neg (show ¬ x.op=6 by omega)]
 rfl
theorem j1w {x:Nd} {a:Tr} (h:x.op=8):Tr.lay (.one x a)=q9j a.lay a.line a.isFlat:=by
 funext deep ws
 simp only [Tr.lay,q9j,if_neg (show ¬ x.op=7 by omega)]
 cases ws with
 | nil=>rfl
 | cons c ws=>
  simp only [z9d,Tr.isFlat]
  cases a.flat with
  | none=>rfl
  | some s=>rfl
def shS (r:Except Int (List UInt8)):ByteArray:=match r with | .ok s=>⟨s.toArray⟩ | .error _=>⟨#[]⟩
def shE (r:Except Int (List UInt8)):Int:=match r with | .ok _=>0 | .error e=>e
theorem v0w {t:Tr} {ws:List Int} (h:q1z ws):t.show ws=match t.lay 0 ws with | .error e=>.error e | .ok (s,[])=>.ok s | .ok (_,_::_)=>.error 2:=by
 unfold Tr.show
 rw [if_pos (k8l.2 h)]
 rfl
noncomputable def q6r (ds:List Nd) (ws:List Int):Except Int (List UInt8):=if h:q2n ds=0 then (v2q ds h).show ws else .error (q2n ds)
theorem j4l {ds:List Nd} {ws:List Int} (h:q2n ds≠0):q6r ds ws = .error (q2n ds):=dif_neg h
theorem z5h {ds:List Nd} {ws:List Int} {t:Tr} (ht:t.Wf) (e:ds=t.nodes) (hl:ds.length≤400):q6r ds ws=t.show ws:=by
 have h:q2n ds=0:=by rw [e];exact q9z ht (by rw [←e];exact hl)
 rw [q6r,dif_pos h,z6f h ht e]
theorem q8l:∀ (t:Tr) (u:List Int),u∈t.ways→u.length≤t.nodes.length
 | .leaf _,u,h=>by simp [Tr.ways] at h;subst h;simp
 | .one x a,u,h=>by
  simp only [Tr.ways] at h
  simp only [Tr.nodes,List.length_cons]
  split at h
  ·have:=q8l a u h;omega
  ·rcases List.mem_append.1 h with h | h
   ·split at h
    ·simp at h;subst h;simp
    ·simp at h
   ·obtain ⟨v,hv,rfl⟩:=List.mem_map.1 h
    have:=q8l a v hv
    simp;omega
 | .two x a b,u,h=>by
  simp only [Tr.ways] at h
  simp only [Tr.nodes,List.length_cons,List.length_append]
  split at h
  ·obtain ⟨p,hp,hpq⟩:=List.mem_flatMap.1 h
   obtain ⟨q,hq,rfl⟩:=List.mem_map.1 hpq
   have h1:=q8l a p hp
   have h2:=q8l b q hq
   rw [List.length_append];omega
  ·rcases List.mem_append.1 h with h | h
   ·obtain ⟨v,hv,rfl⟩:=List.mem_map.1 h
    have:=q8l a v hv
    simp;omega
   ·obtain ⟨v,hv,rfl⟩:=List.mem_map.1 h
    have:=q8l b v hv
    simp;omega
end Go.Proofs.YtchdplceopegoaaGreatDoor
namespace Go.Proofs.YtchdplceopegoaaGreatDoor
open Go Go.RowKit
theorem j1x {t:List Td} (h:q8r t=0):q0c t=0∧opT t≠9∧q7k t=(q0s t).nodes∧(q0s t).nodes.length≤400:=by
 have h':=h
 unfold q8r at h
 split at h
 ·rename_i h0;exact absurd h h0
 ·rename_i h0
  split at h
  ·cases h
  ·rename_i h9
   split at h
   ·cases h
   ·rename_i hm
    exact ⟨by simpa using h0,h9,by rw [q7k,if_pos h'],by omega⟩
theorem j9a {t:List Td} (h:q8r t=0) (ws:List Int):q6r (q7k t) ws=(q0s t).show ws:=by
 obtain ⟨h0,h9,hd,hl⟩:=j1x h
 exact z5h (z8l h0 h9).w hd (by rw [hd];exact hl)
def dnS (s:ByteArray):ByteArray:=wbS ((btL s).filter dnB)
theorem v6j {t:List Td} (h:q8r t=0) {ws:List Int} {r:List UInt8} (hs:(q0s t).show ws = .ok r):dnS (wbS r)=dnS (wbS (q3c t))∧r.length≤2000000:=by
 obtain ⟨h0,h9,hd,hl⟩:=j1x h
 have ho:=z8l h0 h9
 refine ⟨?_,?_⟩
 ·show wbS (r.filter dnB)=wbS ((q3c t).filter dnB)
  rw [j0h h0 h9 hs]
 ·unfold Tr.show at hs
  split at hs
  ·cases hy:(q0s t).lay 0 ws with
   | error e=>rw [hy] at hs;cases hs
   | ok p=>
    obtain ⟨r',ws'⟩:=p
    rw [hy] at hs
    have h1:=q6o _ 0 ws r' ws' ho.w hy (by omega)
    cases ws' with
    | nil=>
     cases hs
     have:4000*(q0s t).nodes.length≤2000000:=by omega
     omega
    | cons a b=>cases hs
  ·cases hs
theorem y0g {s:ByteArray} {k:Nat} (h:k<s.size):s[k]∈s.data.toList:=by
 have hl:k<s.data.toList.length:=by rw [←Lib.size_eq];exact h
 exact List.getElem_mem hl
theorem v0d {s:ByteArray} (h1:1≤s.size) (h2:s.size≤20) (h:∀ k (h:k<s.size),q7w s[k]=true):okW s=true:=by
 simp only [okW,h1,h2,decide_true,Bool.true_and,List.all_eq_true]
 intro b hb
 obtain ⟨i,hi,rfl⟩:=List.getElem_of_mem hb
 exact h i (by rw [Lib.size_eq];exact hi)
theorem v8l {s:ByteArray} {k:Nat} (h:k<s.size) (hb:q7w s[k]=false):okW s=false:=by
 cases e:okW s with
 | false=>rfl
 | true=>
  simp only [okW,Bool.and_eq_true,List.all_eq_true] at e
  have:=e.2 s[k] (y0g h)
  rw [hb] at this
  cases this
theorem k2t {b:UInt8} (h:q7w b=false):(b.toNat:Int)<33∨(¬ (b.toNat:Int)<33∧126<(b.toNat:Int)):=by
 simp [q7w] at h
 omega
theorem k7s {b:UInt8} (h:q7w b=true):¬ (b.toNat:Int)<33∧¬ 126<(b.toNat:Int):=by
 simp [q7w] at h
 omega
theorem q8n {ws:List ByteArray} (h:60<ws.length):q1e ws=3:=by rw [q1e,if_pos h]
theorem k7v {ws:List ByteArray} {k:Nat} (hl:ws.length≤60) (hk:k<ws.length) (h:okW ws[k]=false):q1e ws=5:=by
 rw [q1e,if_neg (by omega),if_neg]
 intro e
 have:=List.all_eq_true.1 e ws[k] (List.getElem_mem hk)
 rw [h] at this
 cases this
theorem k7u {ws:List ByteArray} (hl:ws.length≤60) (h:∀ j (h:j<ws.length),okW ws[j]=true):q1e ws=0:=by
 rw [q1e,if_neg (by omega),if_pos]
 rw [List.all_eq_true]
 intro x hx
 obtain ⟨j,hj,rfl⟩:=List.getElem_of_mem hx
 exact h j hj
def q2h (B:Nat) (w:World) (a:Option Addr) (ws:List Int):Prop:=
 ∀ i (h:i<ws.length),∃ b o,a=some ⟨b,o,none⟩∧b<B∧w.cell? ⟨b,o+i,none⟩=some (.int .i64 ws[i])
theorem q2h.below {B:Nat} {w w':World} {a:Option Addr} {ws:List Int} (h:q2h B w a ws) (hb:Below B w w'):q2h B w' a ws:=by
 intro i hi
 obtain ⟨b,o,e,hlt,c1⟩:=h i hi
 exact ⟨b,o,e,hlt,(hb.cell (p:=⟨b,_,none⟩) hlt).trans c1⟩
theorem q2h.rest {B:Nat} {w:World} {b o:Nat} {x:Int} {ws:List Int} (h:q2h B w (some ⟨b,o,none⟩) (x::ws)):q2h B w (some ⟨b,o+1,none⟩) ws:=by
 intro i hi
 obtain ⟨b',o',e,hlt,c1⟩:=h (i+1) (by simp;omega)
 simp only [Option.some.injEq,Addr.mk.injEq,and_true] at e
 obtain ⟨rfl,rfl⟩:=e
 refine ⟨b,o+1,rfl,hlt,?_⟩
 rw [show o+1+i=o+(i+1) by omega];exact c1
theorem q2h.slid {B:Nat} {w:World} {b o cap:Nat} {x:Int} {ws:List Int} (h:q2h B w (some ⟨b,o,none⟩) (x::ws)) (hc:ws.length+1≤cap) :
  q2h B w (if cap=1 then some ⟨b,o,none⟩ else some ⟨b,o+1,none⟩) ws:=by
 by_cases h1:cap=1
 ·have:ws=[]:=List.eq_nil_of_length_eq_zero (by omega)
  subst this
  exact fun i hi=>by simp at hi
 ·rw [if_neg h1];exact h.rest
abbrev z4d (w:World) (a:Option Addr) (ws:List Int):Prop:=q2h w.heap.size w a ws
theorem q2h.up {B B':Nat} {w:World} {a:Option Addr} {ws:List Int} (h:q2h B w a ws) (hB:B≤B'):q2h B' w a ws:=by
 intro i hi
 obtain ⟨b,o,e,hlt,c1⟩:=h i hi
 exact ⟨b,o,e,by omega,c1⟩
theorem z4d.below {w w':World} {a:Option Addr} {ws:List Int} (h:z4d w a ws) (hb:Below w.heap.size w w'):z4d w' a ws:=(q2h.below h hb).up hb.size
set_option maxRecDepth 100000
set_option maxHeartbeats 1000000
theorem z3y (s:ByteArray) (w:World):Calls Tryz.prog 150 #[.string s] w fun e w'=>e = .returned (.bool (okW s))∧w=w':=by
 by_cases h1:(s.size:Int)<1
 ·have e:okW s=false:=by simp [okW];omega
  rw [e]
  clear e
  go_enter Tryz.func150,Tryz.ntmps150
  go_wp2
  go_ret
  exact ⟨rfl,rfl⟩
 by_cases h2:20<(s.size:Int)
 ·have e:okW s=false:=by simp [okW];omega
  rw [e]
  clear e
  go_enter Tryz.func150,Tryz.ntmps150
  go_wp2
  go_ret
  exact ⟨rfl,rfl⟩
 go_enter Tryz.func150,Tryz.ntmps150
 go_wp2
 go_loopw [14] (fun i wr=>wr=w∧∃ k:Nat,k≤s.size∧i = .int .i64 k∧∀ j (h:j<s.size),j<k→q7w s[j]=true) (fun i _=>s.size - (intOf i).toNat)
 case atStart=>exact ⟨rfl,0,Nat.zero_le _,rfl,fun j _ hj=>by omega⟩
 case round=>
  obtain ⟨rfl,k,hk,rfl,hall⟩:=hrel
  have HA:Hid (∀ j (h:j<s.size),j<k→q7w s[j]=true):=hall
  clear hall
  by_cases hlt:k<s.size
  ·cases hb:q7w s[k] with
   | false=>
    have HE:Hid (okW s=false):=v8l hlt hb
    have hc:=k2t hb
    clear hb
    rcases hc with hc | ⟨hc,hd⟩
    ·go_wp2
     go_ret
     exact ⟨by rw [HE.out];rfl,rfl⟩
    ·go_wp2
     go_ret
     exact ⟨by rw [HE.out];rfl,rfl⟩
   | true=>
    have HB:Hid (q7w s[k]=true):=hb
    obtain ⟨hc,hd⟩:=k7s hb
    clear hb
    go_wp2
    go_roundw
    case rel=>
     refine ⟨by trivial,k+1,by omega,by go_num,?_⟩
     intro j h hj
     by_cases hjk:j=k
     ·subst hjk;exact HB.out
     ·exact HA.out j h (by omega)
    case measure=>simp [intOf];omega
  ·have HE:Hid (okW s=true):=v0d (by omega) (by omega) fun j h=>HA.out j h (by omega)
   go_wp2
   go_ret
   exact ⟨by rw [HE.out];rfl,rfl⟩
theorem q5g (ws:List ByteArray) (a:Option Addr) (cap:Nat) (w:World) (hW:Wds w a ws) :
  Calls Tryz.prog 111 #[.slice a ws.length cap] w fun e w'=>e = .returned (q1f (q1e ws))∧w=w':=by
 have HW:Hid (Wds w a ws):=hW
 clear hW
 by_cases h1:60<(ws.length:Int)
 ·have HE:Hid (q1e ws=3):=q8n (by omega)
  go_enter Tryz.func111,Tryz.ntmps111
  go_wp2
  go_ret
  exact ⟨by rw [HE.out];rfl,rfl⟩
 go_enter Tryz.func111,Tryz.ntmps111
 go_wp2
 go_loopw [11] (fun i wr=>wr=w∧∃ k:Nat,k≤ws.length∧i = .int .i64 k∧∀ j (h:j<ws.length),j<k→okW ws[j]=true) (fun i _=>ws.length - (intOf i).toNat)
 case atStart=>exact ⟨rfl,0,Nat.zero_le _,rfl,fun j _ hj=>by omega⟩
 case round=>
  obtain ⟨rfl,k,hk,rfl,hall⟩:=hrel
  have HA:Hid (∀ j (h:j<ws.length),j<k→okW ws[j]=true):=hall
  clear hall
  by_cases hlt:k<ws.length
  ·obtain ⟨b0,o0,ea,hb0,c0⟩:=HW.out k hlt
   subst ea
   cases hb:okW ws[k] with
   | false=>
    have HE:Hid (q1e ws=5):=k7v (by omega) hlt hb
    have HB:Hid (okW ws[k]=false):=hb
    generalize ws[k]=x at c0 HB
    clear hb
    go_wp2_with fail
    refine (z3y _ _).mono ?_
    rintro e w2 ⟨rfl,rfl⟩
    rw [HB.out]
    go_wp2
    go_ret
    exact ⟨by rw [HE.out];rfl,rfl⟩
   | true=>
    have HB:Hid (okW ws[k]=true):=hb
    have HA':Hid (∀ j (h:j<ws.length),j<k+1→okW ws[j]=true):=fun j h hj=>by
     by_cases hjk:j=k
     ·subst hjk;exact hb
     ·exact HA.out j h (by omega)
    generalize ws[k]=x at c0 HB
    clear hb
    go_wp2_with fail
    refine (z3y _ _).mono ?_
    rintro e w2 ⟨rfl,rfl⟩
    rw [HB.out]
    go_wp2
    go_roundw
    case rel=>exact ⟨by trivial,k+1,by omega,by go_num,HA'.out⟩
    case measure=>simp [intOf];omega
  ·have HE:Hid (q1e ws=0):=k7u (by omega) fun j h=>HA.out j h (by omega)
   go_wp2
   go_ret
   exact ⟨by rw [HE.out];rfl,rfl⟩
theorem j6n (ws:List ByteArray) (a:Option Addr) (cap:Nat) (wd:Int) (w:World) (hW:Wds w a ws) :
  Calls Tryz.prog 119 #[.slice a ws.length cap,.int .i64 wd] w fun e w'=>e = .returned (q1f (q5k ws wd))∧w=w':=by
 have HW:Hid (Wds w a ws):=hW
 clear hW
 by_cases h0:q1e ws=0
 ·have H0:Hid (q1e ws=0):=h0
  clear h0
  by_cases h1:wd<1
  ·have HE:Hid (q5k ws wd=1):=by
    show q5k ws wd=1
    rw [q5k,if_neg (by rw [H0.out];simp),if_pos (.inl h1)]
   go_enter Tryz.func119,Tryz.ntmps119
   go_wp2_with fail
   refine (q5g ws a cap _ HW.out).mono ?_
   rintro e w2 ⟨rfl,rfl⟩
   rw [H0.out,q0q]
   go_wp2
   go_ret
   exact ⟨by rw [HE.out];rfl,rfl⟩
  by_cases h2:100<wd
  ·have HE:Hid (q5k ws wd=1):=by
    show q5k ws wd=1
    rw [q5k,if_neg (by rw [H0.out];simp),if_pos (.inr h2)]
   go_enter Tryz.func119,Tryz.ntmps119
   go_wp2_with fail
   refine (q5g ws a cap _ HW.out).mono ?_
   rintro e w2 ⟨rfl,rfl⟩
   rw [H0.out,q0q]
   go_wp2
   go_ret
   exact ⟨by rw [HE.out];rfl,rfl⟩
  ·have HE:Hid (q5k ws wd=0):=by
    show q5k ws wd=0
    rw [q5k,if_neg (by rw [H0.out];simp),if_neg (by omega)]
   go_enter Tryz.func119,Tryz.ntmps119
   go_wp2_with fail
   refine (q5g ws a cap _ HW.out).mono ?_
   rintro e w2 ⟨rfl,rfl⟩
   rw [H0.out,q0q]
   go_wp2
   go_ret
   exact ⟨by rw [HE.out];rfl,rfl⟩
 ·have HE:Hid (q5k ws wd=q1e ws):=by
   show q5k ws wd=q1e ws
   rw [q5k,if_pos h0]
  have HN:Hid (q1f (q1e ws) = .iface 24 (.int .i64 (q1e ws))):=q0h h0
  clear h0
  go_enter Tryz.func119,Tryz.ntmps119
  go_wp2_with fail
  refine (q5g ws a cap _ HW.out).mono ?_
  rintro e w2 ⟨rfl,rfl⟩
  rw [HN.out]
  go_wp2
  go_ret
  exact ⟨by rw [HE.out,HN.out];rfl,rfl⟩
theorem j6m (ws:List ByteArray) (a:Option Addr) (cap:Nat) (w:World) (h0:ws≠[]) (hF:Few ws) (hW:Wds w a ws) :
  Calls Tryz.prog 156 #[.slice a ws.length cap] w fun e w'=>e = .returned (.int .i64 (ln ws))∧w=w':=by
 have HW:Hid (Wds w a ws):=hW
 have hp:0<ws.length:=List.length_pos_iff.2 h0
 have hl:=hF.1
 have HE:Hid ((ln ws:Int)=(ws.length:Int) - 1+tot ws):=by
  show (ln ws:Int)=_
  simp only [ln];omega
 have HF:Hid (Few ws):=hF
 clear hW hF h0
 go_enter Tryz.func156,Tryz.ntmps156
 go_wp2
 go_loopw [3,11] (fun s i wr=>wr=w∧∃ k:Nat,k≤ws.length∧i = .int .i64 k∧s = .int .i64 ((ws.length:Int) - 1+tot (ws.take k))) (fun _ i _=>ws.length - (intOf i).toNat)
 case atStart=>exact ⟨rfl,0,Nat.zero_le _,rfl,by simp [tot]⟩
 case round=>
  obtain ⟨rfl,k,hk,rfl,rfl⟩:=hrel
  by_cases hlt:k<ws.length
  ·obtain ⟨b0,o0,ea,hb0,c0⟩:=HW.out k hlt
   subst ea
   have HS:Hid (tot (ws.take (k+1))=tot (ws.take k)+ws[k].size):=v1l hlt
   have ht:=(HF.out.take k).tot
   have hx:=HF.out.2 _ (List.getElem_mem hlt)
   generalize ws[k]=x at c0 HS hx
   generalize tot (ws.take k)=t0 at HS ht
   go_wp2
   go_roundw
   case rel=>exact ⟨by trivial,k+1,by omega,by go_num,by rw [HS.out];go_num⟩
   case measure=>simp [intOf];omega
  ·have hke:k=ws.length:=by omega
   subst hke
   have HT:Hid (tot (ws.take ws.length)=tot ws):=by show _=_;rw [List.take_length]
   go_wp2
   go_ret
   exact ⟨by rw [HE.out,←HT.out];rfl,rfl⟩
theorem v4u {n wd:Nat} {last:Bool} (h:wd<n):(bd n wd last:Int)=1000*((n:Int) - wd):=by
 rw [bd,if_pos h];omega
theorem v4t {n wd:Nat} (h:¬ wd<n):bd n wd true=0:=by rw [bd,if_neg h];rfl
theorem j7h {n wd:Nat} (h:¬ wd<n):(bd n wd false:Int)=((wd:Int) - n)*((wd:Int) - n):=by
 rw [bd,if_neg h]
 simp only [Bool.false_eq_true,if_false]
 rw [Int.natCast_mul]
 congr 1<;>omega
theorem v1v (n wd:Nat) (last:Bool) (w:World) (hn:n≤1260) (hw:wd≤100) :
  Calls Tryz.prog 155 #[.int .i64 n,.int .i64 wd,.bool last] w fun e w'=>e = .returned (.int .i64 (bd n wd last))∧w=w':=by
 by_cases h:wd<n
 ·have HE:Hid ((bd n wd last:Int)=1000*((n:Int) - wd)):=v4u h
  have h':(wd:Int) - n<0:=by omega
  clear h
  go_enter Tryz.func155,Tryz.ntmps155
  go_wp2
  go_ret
  exact ⟨by rw [HE.out];go_num,rfl⟩
 ·cases last with
  | true=>
   have HE:Hid (bd n wd true=0):=v4t h
   have h':¬ (wd:Int) - n<0:=by omega
   clear h
   go_enter Tryz.func155,Tryz.ntmps155
   go_wp2
   go_ret
   exact ⟨by rw [HE.out];rfl,rfl⟩
  | false=>
   have HE:Hid ((bd n wd false:Int)=((wd:Int) - n)*((wd:Int) - n)):=j7h h
   have h':¬ (wd:Int) - n<0:=by omega
   obtain ⟨m,hm⟩:∃ m:Int,m=(wd:Int) - n:=⟨_,rfl⟩
   have h1:IntKind.i64.wrap ((wd:Int) - n)=(wd:Int) - n:=by rw [IntKind.wrap_i64];omega
   have h2:IntKind.i64.wrap (((wd:Int) - n)*((wd:Int) - n))=((wd:Int) - n)*((wd:Int) - n):=by
    have a1:0≤((wd:Int) - n)*((wd:Int) - n):=Int.mul_nonneg (by omega) (by omega)
    have a2:((wd:Int) - n)*((wd:Int) - n)≤100*100:=Int.mul_le_mul (by omega) (by omega) (by omega) (by omega)
    rw [IntKind.wrap_i64];omega
   clear h hm
   go_enter Tryz.func155,Tryz.ntmps155
   go_wp2
   go_ret
   exact ⟨by rw [HE.out];rfl,rfl⟩
theorem v8t (a:Option Addr) (n c k:Nat) (hk:k≤c) (W:World) :
  (Instr.slice 51 (.slice a n c) none (some (.int .i64 (k:Int))) none).run Tryz.prog W = .ok (.slice a k c) W:=by
 rw [run_slice_h W 51 a n c Tryz.underlying51 .i64 (k:Int) (by omega) (by omega)]
 have hz:(sizeOf (Tryz.prog.elem 51)).run Tryz.prog W = .ok 1 W:=by kernel_rfl
 rw [hz]
 simp [Result.andThen,sliced,Addr.add]
theorem v8u {B:Nat} {w:World} {b o c k:Nat} {ws:List ByteArray} (h:z2p B w (some ⟨b,o,none⟩) ws) (hk:k≤ws.length) (hc:ws.length≤c) :
  ∃ A,(∀ W:World,(Instr.slice 51 (.slice (some ⟨b,o,none⟩) ws.length c) (some (.int .i64 (k:Int))) none none).run Tryz.prog W = .ok (.slice A (ws.drop k).length (c - k)) W)∧z2p B w A (ws.drop k):=by
 refine ⟨if c=k then some ⟨b,o,none⟩ else some ⟨b,o+k,none⟩,fun W=>?_,?_⟩
 ·rw [run_slice_l W 51 _ ws.length c Tryz.underlying51 .i64 (k:Int) (by omega) (by omega)]
  have hz:(sizeOf (Tryz.prog.elem 51)).run Tryz.prog W = .ok 1 W:=by kernel_rfl
  rw [hz]
  have ha:(⟨b,o,none⟩:Addr).add k=⟨b,o+k,none⟩:=by
   unfold Addr.add
   split
   ·rename_i h;subst h;rfl
   ·rfl
  simp [Result.andThen,sliced,ha]
 ·by_cases e:c=k
  ·have:ws.drop k=[]:=List.drop_eq_nil_of_le (by omega)
   rw [this]
   exact z2p.nil _ _ _
  ·rw [if_neg e]
   exact h.drop k
theorem y2u (b o n c i k:Nat) (hi:i<c) (hk:i+k≤c) (W:World) :
  (Instr.slice 51 (.slice (some ⟨b,o,none⟩) n c) (some (.int .i64 (i:Int))) (some (.int .i64 ((i:Int)+(k:Int)))) none).run Tryz.prog W = .ok (.slice (some ⟨b,o+i,none⟩) k (c - i)) W:=by
 rw [run_slice_lh W 51 _ n c Tryz.underlying51 .i64 .i64 (i:Int) ((i:Int)+(k:Int)) (by omega) (by omega) (by omega)]
 have hz:(sizeOf (Tryz.prog.elem 51)).run Tryz.prog W = .ok 1 W:=by kernel_rfl
 rw [hz]
 have ha:(⟨b,o,none⟩:Addr).add i=⟨b,o+i,none⟩:=by
  unfold Addr.add
  split
  ·rename_i h;subst h;rfl
  ·rfl
 have e1:((i:Int)+(k:Int)).toNat=i+k:=by omega
 have e2:¬ c=i:=by omega
 have e3:i+k - i=k:=by omega
 simp [Result.andThen,sliced,ha,e1,e2,e3]
theorem z4t:(Tryz.prog.info? 3).map (fun i=>(i.zero,i.size,i.bytes))=some (some (.int .i64 0),1,8):=by kernel_rfl
theorem z5j:(Tryz.prog.info? 9).map (fun i=>(i.zero,i.size,i.bytes))=some (some (.string ⟨#[]⟩),1,16):=by kernel_rfl
def k0q (w:World) (b n:Nat):Prop:=∃ cs T,w.heap[b]? = some (.cells cs T (0,0))∧cs.size=n
theorem k0q.lt {w:World} {b n:Nat} (h:k0q w b n):b<w.heap.size:=by
 obtain ⟨cs,T,h,_⟩:=h
 rcases Nat.lt_or_ge b w.heap.size with h' | h'
 ·exact h'
 ·simp [Array.getElem?_eq_none h'] at h
theorem k0q.cell {w:World} {b n i:Nat} (h:k0q w b n) (hi:i<n):∃ y,w.cell? ⟨b,i,none⟩=some y:=by
 obtain ⟨cs,T,h,hs⟩:=h
 refine ⟨cs[i],?_⟩
 simp [World.cell?,h]
theorem k0q.frozen {w:World} {b n i:Nat} (h:k0q w b n):w.frozen? ⟨b,i,none⟩=false:=by
 obtain ⟨cs,T,h,hs⟩:=h
 simp [World.frozen?,h]
theorem k0q.kept {w w':World} {b n:Nat} (h:k0q w b n) (hb:w'.heap[b]? = w.heap[b]?):k0q w' b n:=by
 obtain ⟨cs,T,h,hs⟩:=h
 exact ⟨cs,T,hb.trans h,hs⟩
theorem k0q.set {w:World} {b n c i:Nat} {v:Value} (h:k0q w b n):k0q (w.setCell ⟨c,i,none⟩ v) b n:=by
 by_cases e:c=b
 ·subst e
  obtain ⟨cs,T,h,hs⟩:=h
  exact ⟨cs.setIfInBounds i v,T,by simp [World.setCell,Array.getElem?_modify,h],by simpa using hs⟩
 ·exact h.kept (Below.heap_setCell _ _ _ _ (Ne.symm e))
theorem j2s {n j:Nat} (z:Value) (h:j<n):(madeCells #[z] n)[j]? = some z:=by
 simp [madeCells,h,Nat.mod_one]
def q1v (ks:List Nat):List Value:=ks.map fun (k:Nat)=>.int .i64 (k:Int)
theorem z1m (a b:List Nat):q1v (a++b)=q1v a++q1v b:=by simp [q1v]
def z2l (B:Nat) (v:Value) (ks:List Nat) (w:World):Prop:=w.ownsRow B 3 1 v ks.length (q1v ks)
theorem z5w {B:Nat} {w w':World} (h:Below B w w') (n:Nat):Below B w (w'.drewN n):=h.trans ⟨rfl,rfl,rfl,Nat.le_refl _,fun _ _=>rfl⟩
theorem k8t {B:Nat} {w w':World} {b1 o1 b2 o2:Nat} {v1 v2:Value} (h:Below B w w') (h1:B≤b1) (h2:B≤b2):Below B w ((w'.setCell ⟨b1,o1,none⟩ v1).setCell ⟨b2,o2,none⟩ v2):=
 (h.setCell (p:=⟨b1,o1,none⟩) h1 _).setCell (p:=⟨b2,o2,none⟩) h2 _
theorem k6u {B:Nat} {w:World} {A:Option Addr} {n c:Nat} {ks:List Nat} (h:z2l B (.slice A n c) ks w) (j:Nat) (hj:j<ks.length):∃ g,A=some ⟨g,0,none⟩∧g<w.heap.size∧w.cell? ⟨g,j,none⟩=some (.int .i64 ((ks[j]:Nat):Int)):=by
 rcases h.2 with ⟨hv,h0⟩ | ⟨g,c,cur,hv,_,hg,hnc,_,hsz,htake⟩
 ·omega
 ·simp only [Value.slice.injEq] at hv
  obtain ⟨rfl,rfl,rfl⟩:=hv
  refine ⟨g,rfl,(Array.getElem?_eq_some_iff.1 hg).1,?_⟩
  have hk:(q1v ks)[j]? = some (.int .i64 ((ks[j]:Nat):Int)):=by simp [q1v,hj]
  rw [←htake] at hk
  rw [List.getElem?_take_of_lt (by omega)] at hk
  simp only [World.cell?,hg]
  simpa using hk
theorem q1w {w w':World} {B e size n:Nat} {v:Value} {xs:List Value} (h:w.ownsRow B e size v n xs) (hb:Below w.heap.size w w'):w'.ownsRow B e size v n xs:=by
 refine ⟨h.1,?_⟩
 rcases h.2 with h0 | ⟨g,c,cur,rfl,hB,hg,rest⟩
 ·exact .inl h0
 ·exact .inr ⟨g,c,cur,rfl,hB,(hb.block g (Array.getElem?_eq_some_iff.1 hg).1).trans hg,rest⟩
def strCells (xs:List ByteArray):List Value:=xs.map fun x=>.string x
theorem q3k (a b:List ByteArray):strCells (a++b)=strCells a++strCells b:=by simp [strCells]
def q1x (B:Nat) (v:Value) (xs:List ByteArray) (w:World):Prop:=w.ownsRow B 9 1 v xs.length (strCells xs)
theorem z3n {B:Nat} {w:World} {A:Option Addr} {n c:Nat} {xs:List ByteArray} (h:q1x B (.slice A n c) xs w):Wds w A xs:=by
 intro j hj
 rcases h.2 with ⟨hv,h0⟩ | ⟨g,c,cur,hv,_,hg,hnc,_,hsz,htake⟩
 ·omega
 ·simp only [Value.slice.injEq] at hv
  obtain ⟨rfl,rfl,rfl⟩:=hv
  refine ⟨g,0,rfl,(Array.getElem?_eq_some_iff.1 hg).1,?_⟩
  have hk:(strCells xs)[j]? = some (.string xs[j]):=by simp [strCells,hj]
  rw [←htake] at hk
  rw [List.getElem?_take_of_lt (by omega)] at hk
  rw [Nat.zero_add]
  simp only [World.cell?,hg]
  simpa using hk
theorem j3q {w:World} {B e size n k:Nat} {v:Value} {xs:List Value} (h:w.ownsRow B e size v n xs) (hk:v.ownBlock=some k):∃ cur,w.heap[k]? = some (.cells cur e (0,0)):=by
 rcases h.2 with ⟨rfl,_⟩ | ⟨g,c,cur,rfl,_,hg,_⟩
 ·simp [Value.ownBlock] at hk
 ·simp only [Value.ownBlock,Option.some.injEq] at hk
  subst hk
  exact ⟨cur,hg⟩
theorem z7g {w w':World} {B B' e e' size size' n n':Nat} {v v':Value} {xs xs':List Value} (h:w.ownsRow B e size v n xs) (h':w.ownsRow B' e' size' v' n' xs') (he:e≠e') (hg:w.grownBy w' v'.ownBlock):w'.ownsRow B e size v n xs:=by
 refine h.kept hg ?_
 cases hv:v.ownBlock with
 | none=>exact .inl rfl
 | some k=>
  refine .inr fun e0=>?_
  obtain ⟨c1,h1⟩:=j3q h hv
  obtain ⟨c2,h2⟩:=j3q h' e0.symm
  rw [h1] at h2
  cases h2
  exact he rfl
theorem v1z (n:Nat) (ws:List ByteArray) (hn:ws.length=n) (a:Option Addr) (cap:Nat) (w:World) (h0:ws≠[]) (hF:Few ws) (hW:Wds w a ws) :
  Calls Tryz.prog 156 #[.slice a n cap] w fun e w'=>e = .returned (.int .i64 (ln ws))∧w=w':=by
 subst hn;exact j6m ws a cap w h0 hF hW
end Go.Proofs.YtchdplceopegoaaGreatDoor
