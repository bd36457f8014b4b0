/- Texts as one: TreY, AppO, TreK. -/
import Derived.Test.YtchdplceopegoaaGreatDoorPs12
import Derived.Laws.AppendOwn
import Derived.Laws.AppendOwnNone
namespace Go.Proofs.YtchdplceopegoaaGreatDoor
open Go Go.RowKit
set_option maxRecDepth 100000
set_option maxHeartbeats 8000000
theorem q3d (s:ByteArray) (w:World):Calls Tryz.prog 114 #[.string s] w fun e w'=>e = .returned (.bool (q0x s))∧w=w':=by
 by_cases h1:(s.size:Int)<1
 ·have HE:Hid (q0x s=false):=k1x (by omega)
  go_enter Tryz.func114,Tryz.ntmps114
  go_wp2
  go_ret
  exact ⟨by rw [HE.out];rfl,rfl⟩
 by_cases h2:8<(s.size:Int)
 ·have HE:Hid (q0x s=false):=k6s (by omega)
  go_enter Tryz.func114,Tryz.ntmps114
  go_wp2
  go_ret
  exact ⟨by rw [HE.out];rfl,rfl⟩
 by_cases h3:s=⟨#[108,101,116]⟩
 ·subst h3
  go_enter Tryz.func114,Tryz.ntmps114
  go_wp2
  go_ret
  exact ⟨by rfl,rfl⟩
 have HL:Hid (¬ s=⟨#[108,101,116]⟩):=h3
 have hnb:¬ s.toList=[108,101,116]:=by
  rw [ByteArray.toList_eq]
  intro e
  exact h3 (v3c.1 e)
 have hnc:(s.toList == [108,101,116])=false:=beq_false_of_ne hnb
 clear h3
 go_enter Tryz.func114,Tryz.ntmps114
 go_wp2_with fail
 go_loopw [18] (fun i wr=>wr=w∧∃ k:Nat,k≤s.size∧i = .int .i64 k∧∀ j (h:j<s.size),j<k→q3g s[j]=true) (fun i _=>s.size - (intOf i).toNat)
 case atStart=>exact ⟨rfl,0,Nat.zero_le _,rfl,fun j _ hj=>by omega⟩
 case round=>
  obtain ⟨rfl,k,hk,rfl,hall⟩:=hrel
  have HA:Hid (∀ j (h:j<s.size),j<k→q3g s[j]=true):=hall
  clear hall
  by_cases hlt:k<s.size
  ·cases hb:q3g s[k] with
   | false=>
    have HE:Hid (q0x s=false):=j2x hlt hb
    by_cases hc:(s[k].toNat:Int)<97
    ·clear hb
     go_wp2
     go_ret
     exact ⟨by rw [HE.out];rfl,rfl⟩
    ·have hd:(122:Int)<(s[k].toNat:Int):=by
      simp [q3g] at hb
      omega
     clear hb
     go_wp2
     go_ret
     exact ⟨by rw [HE.out];rfl,rfl⟩
   | true=>
    have HA':Hid (∀ j (h:j<s.size),j<k+1→q3g s[j]=true):=fun j h hj=>by
     by_cases hjk:j=k
     ·subst hjk;exact hb
     ·exact HA.out j h (by omega)
    have hc:¬ (s[k].toNat:Int)<97∧¬ (122:Int)<(s[k].toNat:Int):=by
     simp [q3g] at hb
     omega
    obtain ⟨hc,hd⟩:=hc
    clear hb
    go_wp2
    go_roundw
    case rel=>exact ⟨by trivial,k+1,by omega,by go_num,HA'.out⟩
    case measure=>simp [intOf];omega
  ·have HE:Hid (q0x s=true):=j2w (by omega) (by omega) HL.out fun j h=>HA.out j h (by omega)
   go_wp2
   go_ret
   exact ⟨by rw [HE.out];rfl,rfl⟩
def grM (op:Int):Int:=if op=1 then 999999 else if op=3∨op=4 then 6 else 0
def grH (op:Int):Bool:=decide (op=1∨op=3∨op=4)
theorem q0d (op M:Int) (H:Bool) (hM:grM op=M) (hH:grH op=H) (w:World):Calls Tryz.prog 110 #[.int .i64 op] w fun e w'=>e = .returned (.tuple #[.int .i64 M,.bool H])∧w=w':=by
 subst hM hH
 by_cases h1:op=1
 ·subst h1
  go_enter Tryz.func110,Tryz.ntmps110
  go_wp2
  go_ret2
  exact ⟨rfl,rfl⟩
 by_cases h3:op=3
 ·subst h3
  go_enter Tryz.func110,Tryz.ntmps110
  go_wp2
  go_ret2
  exact ⟨rfl,rfl⟩
 by_cases h4:op=4
 ·subst h4
  go_enter Tryz.func110,Tryz.ntmps110
  go_wp2
  go_ret2
  exact ⟨rfl,rfl⟩
 have HM:Hid (grM op=0):=by show grM op=0;simp [grM,h1,h3,h4]
 have HH:Hid (grH op=false):=by show grH op=false;simp [grH,h1,h3,h4]
 have g1:(op == 1)=false:=by simp [h1]
 have g3:(op == 3)=false:=by simp [h3]
 have g4:(op == 4)=false:=by simp [h4]
 clear h1 h3 h4
 go_enter Tryz.func110,Tryz.ntmps110
 go_wp2
 go_ret2
 exact ⟨by rw [HM.out,HH.out];rfl,rfl⟩
def y4e (op:Int):Bool:=op == 2 || op == 3 || op == 7
theorem q0f (op:Int) (H:Bool) (hH:y4e op=H) (w:World):Calls Tryz.prog 113 #[.int .i64 op] w fun e w'=>e = .returned (.bool H)∧w=w':=by
 subst hH
 by_cases h2:op=2
 ·subst h2
  go_enter Tryz.func113,Tryz.ntmps113
  go_wp2
  go_ret
  exact ⟨rfl,rfl⟩
 by_cases h3:op=3
 ·subst h3
  go_enter Tryz.func113,Tryz.ntmps113
  go_wp2
  go_ret
  exact ⟨rfl,rfl⟩
 by_cases h7:op=7
 ·subst h7
  go_enter Tryz.func113,Tryz.ntmps113
  go_wp2
  go_ret
  exact ⟨rfl,rfl⟩
 have HH:Hid (y4e op=false):=by show y4e op=false;simp [y4e,h2,h3,h7]
 have g1:(op == 2)=false:=by simp [h2]
 have g3:(op == 3)=false:=by simp [h3]
 have g4:(op == 7)=false:=by simp [h7]
 clear h2 h3 h7
 go_enter Tryz.func113,Tryz.ntmps113
 go_wp2
 go_ret
 exact ⟨by rw [HH.out];rfl,rfl⟩
def exB (op:Int):Bool:=decide (1≤op) && decide (op≤6)
theorem q9x (op:Int) (w:World):Calls Tryz.prog 115 #[.int .i64 op] w fun e w'=>e = .returned (.bool (exB op))∧w=w':=by
 by_cases h1:1≤op
 ·by_cases h6:op≤6
  ·have HH:Hid (exB op=true):=by show exB op=true;simp [exB,h1,h6]
   go_enter Tryz.func115,Tryz.ntmps115
   go_wp2
   go_ret
   exact ⟨by rw [HH.out];rfl,rfl⟩
  ·have HH:Hid (exB op=false):=by show exB op=false;simp [exB,h6]
   go_enter Tryz.func115,Tryz.ntmps115
   go_wp2
   go_ret
   exact ⟨by rw [HH.out];rfl,rfl⟩
 ·have HH:Hid (exB op=false):=by show exB op=false;simp [exB,h1]
  go_enter Tryz.func115,Tryz.ntmps115
  go_wp2
  go_ret
  exact ⟨by rw [HH.out];rfl,rfl⟩
theorem k0d (x:Td) (w:World) (hs:x.tx.size≤140737488351232):Calls Tryz.prog 82 #[tdV x] w fun e w'=>e = .returned (q1f (q0n x))∧Below w.heap.size w w':=by
 obtain ⟨op,tx,n⟩:=x
 have hs:tx.size≤140737488351232:=hs
 have hb:∀ O:Obj,Below w.heap.size w (w.alloc O):=fun O=>(Below.refl _ w).alloc (Nat.le_refl _) O
 by_cases h0:op<1
 ·have HE:Hid (q0n ⟨op,tx,n⟩=1):=y1w h0
  have hg1:grM op=0:=by unfold grM;rw [if_neg (by omega),if_neg (by omega)]
  have hg2:grH op=false:=decide_eq_false (by omega)
  go_enter Tryz.func82,Tryz.ntmps82
  go_wp2_with fail
  refine (q0d op 0 false hg1 hg2 _).mono ?_
  rintro e w2 ⟨rfl,rfl⟩
  go_wp2
  go_ret
  exact ⟨by rw [HE.out];rfl,hb _⟩
 by_cases h1:9<op
 ·have HE:Hid (q0n ⟨op,tx,n⟩=1):=y1x h0 h1
  have hg1:grM op=0:=by unfold grM;rw [if_neg (by omega),if_neg (by omega)]
  have hg2:grH op=false:=decide_eq_false (by omega)
  go_enter Tryz.func82,Tryz.ntmps82
  go_wp2_with fail
  refine (q0d op 0 false hg1 hg2 _).mono ?_
  rintro e w2 ⟨rfl,rfl⟩
  go_wp2
  go_ret
  exact ⟨by rw [HE.out];rfl,hb _⟩
 have hop:op=1∨op=2∨op=3∨op=4∨op=5∨op=6∨op=7∨op=8∨op=9:=by omega
 clear h0 h1
 rcases hop with rfl | rfl | rfl | rfl | rfl | rfl | rfl | rfl | rfl
 ·by_cases h0:n<0
  ·have HE:Hid (q0n ⟨1,tx,n⟩=1):=y1y h0
   go_enter Tryz.func82,Tryz.ntmps82
   go_wp2_with fail
   refine (q0d 1 999999 true rfl rfl _).mono ?_
   rintro e w2 ⟨rfl,rfl⟩
   go_wp2
   go_ret
   exact ⟨by rw [HE.out];rfl,hb _⟩
  ·by_cases h1:999999<n
   ·have HE:Hid (q0n ⟨1,tx,n⟩=1):=y1z h0 h1
    go_enter Tryz.func82,Tryz.ntmps82
    go_wp2_with fail
    refine (q0d 1 999999 true rfl rfl _).mono ?_
    rintro e w2 ⟨rfl,rfl⟩
    go_wp2
    go_ret
    exact ⟨by rw [HE.out];rfl,hb _⟩
   ·by_cases h2:0<(tx.size:Int)
    ·have HE:Hid (q0n ⟨1,tx,n⟩=2):=y2a h0 h1 h2
     have q1:=q7q h2
     have q2:(tx.toList != [])=true:=by simp [bne,q1]
     go_enter Tryz.func82,Tryz.ntmps82
     go_wp2_with fail
     refine (q0d 1 999999 true rfl rfl _).mono ?_
     rintro e w2 ⟨rfl,rfl⟩
     go_wp2_with fail
     refine (q0f 1 false rfl _).mono ?_
     rintro e w2 ⟨rfl,rfl⟩
     go_wp2
     go_ret
     exact ⟨by rw [HE.out];rfl,hb _⟩
    ·have HE:Hid (q0n ⟨1,tx,n⟩=0):=y2b h0 h1 h2
     have e0:=q5d h2
     subst e0
     go_enter Tryz.func82,Tryz.ntmps82
     go_wp2_with fail
     refine (q0d 1 999999 true rfl rfl _).mono ?_
     rintro e w2 ⟨rfl,rfl⟩
     go_wp2_with fail
     refine (q0f 1 false rfl _).mono ?_
     rintro e w2 ⟨rfl,rfl⟩
     go_wp2_with fail
     refine (q0f 1 false rfl _).mono ?_
     rintro e w2 ⟨rfl,rfl⟩
     go_wp2
     go_ret
     exact ⟨by rw [HE.out];rfl,hb _⟩
 ·by_cases h0:n=0
  ·cases h1:q0x tx with
   | true=>
    have HE:Hid (q0n ⟨2,tx,n⟩=0):=y2d h0 h1
    subst h0
    have HM:Hid (q0x tx=true):=h1
    clear h1
    go_enter Tryz.func82,Tryz.ntmps82
    go_wp2_with fail
    refine (q0d 2 0 false rfl rfl _).mono ?_
    rintro e w2 ⟨rfl,rfl⟩
    go_wp2_with fail
    refine (q0f 2 true rfl _).mono ?_
    rintro e w2 ⟨rfl,rfl⟩
    go_wp2_with fail
    refine (q0f 2 true rfl _).mono ?_
    rintro e w2 ⟨rfl,rfl⟩
    go_wp2_with fail
    refine (q3d tx _).mono ?_
    rintro e w2 ⟨rfl,rfl⟩
    rw [HM.out]
    go_wp2
    go_ret
    exact ⟨by rw [HE.out];rfl,hb _⟩
   | false=>
    have HE:Hid (q0n ⟨2,tx,n⟩=5):=y2e h0 h1
    subst h0
    have HM:Hid (q0x tx=false):=h1
    clear h1
    go_enter Tryz.func82,Tryz.ntmps82
    go_wp2_with fail
    refine (q0d 2 0 false rfl rfl _).mono ?_
    rintro e w2 ⟨rfl,rfl⟩
    go_wp2_with fail
    refine (q0f 2 true rfl _).mono ?_
    rintro e w2 ⟨rfl,rfl⟩
    go_wp2_with fail
    refine (q0f 2 true rfl _).mono ?_
    rintro e w2 ⟨rfl,rfl⟩
    go_wp2_with fail
    refine (q3d tx _).mono ?_
    rintro e w2 ⟨rfl,rfl⟩
    rw [HM.out]
    go_wp2
    go_ret
    exact ⟨by rw [HE.out];rfl,hb _⟩
  ·have HE:Hid (q0n ⟨2,tx,n⟩=2):=y2c h0
   have q3:(n == 0)=false:=by simp [h0]
   have q4:(n != 0)=true:=by simp [h0]
   go_enter Tryz.func82,Tryz.ntmps82
   go_wp2_with fail
   refine (q0d 2 0 false rfl rfl _).mono ?_
   rintro e w2 ⟨rfl,rfl⟩
   go_wp2
   go_ret
   exact ⟨by rw [HE.out];rfl,hb _⟩
 ·by_cases h0:n<0
  ·have HE:Hid (q0n ⟨3,tx,n⟩=1):=y2f h0
   go_enter Tryz.func82,Tryz.ntmps82
   go_wp2_with fail
   refine (q0d 3 6 true rfl rfl _).mono ?_
   rintro e w2 ⟨rfl,rfl⟩
   go_wp2
   go_ret
   exact ⟨by rw [HE.out];rfl,hb _⟩
  ·by_cases h1:6<n
   ·have HE:Hid (q0n ⟨3,tx,n⟩=1):=v7m h0 h1
    go_enter Tryz.func82,Tryz.ntmps82
    go_wp2_with fail
    refine (q0d 3 6 true rfl rfl _).mono ?_
    rintro e w2 ⟨rfl,rfl⟩
    go_wp2
    go_ret
    exact ⟨by rw [HE.out];rfl,hb _⟩
   ·cases h2:q0x tx with
    | true=>
     have HE:Hid (q0n ⟨3,tx,n⟩=0):=v7n h0 h1 h2
     have HM:Hid (q0x tx=true):=h2
     clear h2
     go_enter Tryz.func82,Tryz.ntmps82
     go_wp2_with fail
     refine (q0d 3 6 true rfl rfl _).mono ?_
     rintro e w2 ⟨rfl,rfl⟩
     go_wp2_with fail
     refine (q0f 3 true rfl _).mono ?_
     rintro e w2 ⟨rfl,rfl⟩
     go_wp2_with fail
     refine (q0f 3 true rfl _).mono ?_
     rintro e w2 ⟨rfl,rfl⟩
     go_wp2_with fail
     refine (q3d tx _).mono ?_
     rintro e w2 ⟨rfl,rfl⟩
     rw [HM.out]
     go_wp2
     go_ret
     exact ⟨by rw [HE.out];rfl,hb _⟩
    | false=>
     have HE:Hid (q0n ⟨3,tx,n⟩=5):=v7o h0 h1 h2
     have HM:Hid (q0x tx=false):=h2
     clear h2
     go_enter Tryz.func82,Tryz.ntmps82
     go_wp2_with fail
     refine (q0d 3 6 true rfl rfl _).mono ?_
     rintro e w2 ⟨rfl,rfl⟩
     go_wp2_with fail
     refine (q0f 3 true rfl _).mono ?_
     rintro e w2 ⟨rfl,rfl⟩
     go_wp2_with fail
     refine (q0f 3 true rfl _).mono ?_
     rintro e w2 ⟨rfl,rfl⟩
     go_wp2_with fail
     refine (q3d tx _).mono ?_
     rintro e w2 ⟨rfl,rfl⟩
     rw [HM.out]
     go_wp2
     go_ret
     exact ⟨by rw [HE.out];rfl,hb _⟩
 ·by_cases h0:n<0
  ·have HE:Hid (q0n ⟨4,tx,n⟩=1):=v7p h0
   go_enter Tryz.func82,Tryz.ntmps82
   go_wp2_with fail
   refine (q0d 4 6 true rfl rfl _).mono ?_
   rintro e w2 ⟨rfl,rfl⟩
   go_wp2
   go_ret
   exact ⟨by rw [HE.out];rfl,hb _⟩
  ·by_cases h1:6<n
   ·have HE:Hid (q0n ⟨4,tx,n⟩=1):=v7q h0 h1
    go_enter Tryz.func82,Tryz.ntmps82
    go_wp2_with fail
    refine (q0d 4 6 true rfl rfl _).mono ?_
    rintro e w2 ⟨rfl,rfl⟩
    go_wp2
    go_ret
    exact ⟨by rw [HE.out];rfl,hb _⟩
   ·by_cases h2:0<(tx.size:Int)
    ·have HE:Hid (q0n ⟨4,tx,n⟩=2):=v7r h0 h1 h2
     have q1:=q7q h2
     have q2:(tx.toList != [])=true:=by simp [bne,q1]
     go_enter Tryz.func82,Tryz.ntmps82
     go_wp2_with fail
     refine (q0d 4 6 true rfl rfl _).mono ?_
     rintro e w2 ⟨rfl,rfl⟩
     go_wp2_with fail
     refine (q0f 4 false rfl _).mono ?_
     rintro e w2 ⟨rfl,rfl⟩
     go_wp2
     go_ret
     exact ⟨by rw [HE.out];rfl,hb _⟩
    ·have HE:Hid (q0n ⟨4,tx,n⟩=0):=v7s h0 h1 h2
     have e0:=q5d h2
     subst e0
     go_enter Tryz.func82,Tryz.ntmps82
     go_wp2_with fail
     refine (q0d 4 6 true rfl rfl _).mono ?_
     rintro e w2 ⟨rfl,rfl⟩
     go_wp2_with fail
     refine (q0f 4 false rfl _).mono ?_
     rintro e w2 ⟨rfl,rfl⟩
     go_wp2_with fail
     refine (q0f 4 false rfl _).mono ?_
     rintro e w2 ⟨rfl,rfl⟩
     go_wp2
     go_ret
     exact ⟨by rw [HE.out];rfl,hb _⟩
 ·by_cases h0:n=0
  ·by_cases h1:0<(tx.size:Int)
   ·have HE:Hid (q0n ⟨5,tx,n⟩=2):=v7u h0 h1
    subst h0
    have q1:=q7q h1
    have q2:(tx.toList != [])=true:=by simp [bne,q1]
    go_enter Tryz.func82,Tryz.ntmps82
    go_wp2_with fail
    refine (q0d 5 0 false rfl rfl _).mono ?_
    rintro e w2 ⟨rfl,rfl⟩
    go_wp2_with fail
    refine (q0f 5 false rfl _).mono ?_
    rintro e w2 ⟨rfl,rfl⟩
    go_wp2
    go_ret
    exact ⟨by rw [HE.out];rfl,hb _⟩
   ·have HE:Hid (q0n ⟨5,tx,n⟩=0):=v7v h0 h1
    subst h0
    have e0:=q5d h1
    subst e0
    go_enter Tryz.func82,Tryz.ntmps82
    go_wp2_with fail
    refine (q0d 5 0 false rfl rfl _).mono ?_
    rintro e w2 ⟨rfl,rfl⟩
    go_wp2_with fail
    refine (q0f 5 false rfl _).mono ?_
    rintro e w2 ⟨rfl,rfl⟩
    go_wp2_with fail
    refine (q0f 5 false rfl _).mono ?_
    rintro e w2 ⟨rfl,rfl⟩
    go_wp2
    go_ret
    exact ⟨by rw [HE.out];rfl,hb _⟩
  ·have HE:Hid (q0n ⟨5,tx,n⟩=2):=v7t h0
   have q3:(n == 0)=false:=by simp [h0]
   have q4:(n != 0)=true:=by simp [h0]
   go_enter Tryz.func82,Tryz.ntmps82
   go_wp2_with fail
   refine (q0d 5 0 false rfl rfl _).mono ?_
   rintro e w2 ⟨rfl,rfl⟩
   go_wp2
   go_ret
   exact ⟨by rw [HE.out];rfl,hb _⟩
 ·by_cases h0:n=0
  ·by_cases h1:0<(tx.size:Int)
   ·have HE:Hid (q0n ⟨6,tx,n⟩=2):=v7x h0 h1
    subst h0
    have q1:=q7q h1
    have q2:(tx.toList != [])=true:=by simp [bne,q1]
    go_enter Tryz.func82,Tryz.ntmps82
    go_wp2_with fail
    refine (q0d 6 0 false rfl rfl _).mono ?_
    rintro e w2 ⟨rfl,rfl⟩
    go_wp2_with fail
    refine (q0f 6 false rfl _).mono ?_
    rintro e w2 ⟨rfl,rfl⟩
    go_wp2
    go_ret
    exact ⟨by rw [HE.out];rfl,hb _⟩
   ·have HE:Hid (q0n ⟨6,tx,n⟩=0):=v7y h0 h1
    subst h0
    have e0:=q5d h1
    subst e0
    go_enter Tryz.func82,Tryz.ntmps82
    go_wp2_with fail
    refine (q0d 6 0 false rfl rfl _).mono ?_
    rintro e w2 ⟨rfl,rfl⟩
    go_wp2_with fail
    refine (q0f 6 false rfl _).mono ?_
    rintro e w2 ⟨rfl,rfl⟩
    go_wp2_with fail
    refine (q0f 6 false rfl _).mono ?_
    rintro e w2 ⟨rfl,rfl⟩
    go_wp2
    go_ret
    exact ⟨by rw [HE.out];rfl,hb _⟩
  ·have HE:Hid (q0n ⟨6,tx,n⟩=2):=v7w h0
   have q3:(n == 0)=false:=by simp [h0]
   have q4:(n != 0)=true:=by simp [h0]
   go_enter Tryz.func82,Tryz.ntmps82
   go_wp2_with fail
   refine (q0d 6 0 false rfl rfl _).mono ?_
   rintro e w2 ⟨rfl,rfl⟩
   go_wp2
   go_ret
   exact ⟨by rw [HE.out];rfl,hb _⟩
 ·by_cases h0:n=0
  ·cases h1:q0x tx with
   | true=>
    have HE:Hid (q0n ⟨7,tx,n⟩=0):=v8a h0 h1
    subst h0
    have HM:Hid (q0x tx=true):=h1
    clear h1
    go_enter Tryz.func82,Tryz.ntmps82
    go_wp2_with fail
    refine (q0d 7 0 false rfl rfl _).mono ?_
    rintro e w2 ⟨rfl,rfl⟩
    go_wp2_with fail
    refine (q0f 7 true rfl _).mono ?_
    rintro e w2 ⟨rfl,rfl⟩
    go_wp2_with fail
    refine (q0f 7 true rfl _).mono ?_
    rintro e w2 ⟨rfl,rfl⟩
    go_wp2_with fail
    refine (q3d tx _).mono ?_
    rintro e w2 ⟨rfl,rfl⟩
    rw [HM.out]
    go_wp2
    go_ret
    exact ⟨by rw [HE.out];rfl,hb _⟩
   | false=>
    have HE:Hid (q0n ⟨7,tx,n⟩=5):=v8b h0 h1
    subst h0
    have HM:Hid (q0x tx=false):=h1
    clear h1
    go_enter Tryz.func82,Tryz.ntmps82
    go_wp2_with fail
    refine (q0d 7 0 false rfl rfl _).mono ?_
    rintro e w2 ⟨rfl,rfl⟩
    go_wp2_with fail
    refine (q0f 7 true rfl _).mono ?_
    rintro e w2 ⟨rfl,rfl⟩
    go_wp2_with fail
    refine (q0f 7 true rfl _).mono ?_
    rintro e w2 ⟨rfl,rfl⟩
    go_wp2_with fail
    refine (q3d tx _).mono ?_
    rintro e w2 ⟨rfl,rfl⟩
    rw [HM.out]
    go_wp2
    go_ret
    exact ⟨by rw [HE.out];rfl,hb _⟩
  ·have HE:Hid (q0n ⟨7,tx,n⟩=2):=v7z h0
   have q3:(n == 0)=false:=by simp [h0]
   have q4:(n != 0)=true:=by simp [h0]
   go_enter Tryz.func82,Tryz.ntmps82
   go_wp2_with fail
   refine (q0d 7 0 false rfl rfl _).mono ?_
   rintro e w2 ⟨rfl,rfl⟩
   go_wp2
   go_ret
   exact ⟨by rw [HE.out];rfl,hb _⟩
 ·by_cases h0:n=0
  ·by_cases h1:0<(tx.size:Int)
   ·have HE:Hid (q0n ⟨8,tx,n⟩=2):=v8d h0 h1
    subst h0
    have q1:=q7q h1
    have q2:(tx.toList != [])=true:=by simp [bne,q1]
    go_enter Tryz.func82,Tryz.ntmps82
    go_wp2_with fail
    refine (q0d 8 0 false rfl rfl _).mono ?_
    rintro e w2 ⟨rfl,rfl⟩
    go_wp2_with fail
    refine (q0f 8 false rfl _).mono ?_
    rintro e w2 ⟨rfl,rfl⟩
    go_wp2
    go_ret
    exact ⟨by rw [HE.out];rfl,hb _⟩
   ·have HE:Hid (q0n ⟨8,tx,n⟩=0):=v8e h0 h1
    subst h0
    have e0:=q5d h1
    subst e0
    go_enter Tryz.func82,Tryz.ntmps82
    go_wp2_with fail
    refine (q0d 8 0 false rfl rfl _).mono ?_
    rintro e w2 ⟨rfl,rfl⟩
    go_wp2_with fail
    refine (q0f 8 false rfl _).mono ?_
    rintro e w2 ⟨rfl,rfl⟩
    go_wp2_with fail
    refine (q0f 8 false rfl _).mono ?_
    rintro e w2 ⟨rfl,rfl⟩
    go_wp2
    go_ret
    exact ⟨by rw [HE.out];rfl,hb _⟩
  ·have HE:Hid (q0n ⟨8,tx,n⟩=2):=v8c h0
   have q3:(n == 0)=false:=by simp [h0]
   have q4:(n != 0)=true:=by simp [h0]
   go_enter Tryz.func82,Tryz.ntmps82
   go_wp2_with fail
   refine (q0d 8 0 false rfl rfl _).mono ?_
   rintro e w2 ⟨rfl,rfl⟩
   go_wp2
   go_ret
   exact ⟨by rw [HE.out];rfl,hb _⟩
 ·by_cases h0:n=0
  ·have HE:Hid (q0n ⟨9,tx,n⟩=q2u tx):=by
    show _=_
    by_cases h:q2u tx=0
    ·rw [v8g h0 h,h]
    ·exact v8h h0 h
   subst h0
   go_enter Tryz.func82,Tryz.ntmps82
   go_wp2_with fail
   refine (q0d 9 0 false rfl rfl _).mono ?_
   rintro e w2 ⟨rfl,rfl⟩
   go_wp2_with fail
   refine (k7k tx _ hs).mono ?_
   rintro e w2 ⟨A,ws,c,rfl,hW,hE,b2⟩
   have B2:Below w.heap.size w w2:=z1k (Below.refl _ _) (Nat.le_refl _) b2
   clear b2
   go_wp2_with fail
   refine (q5g ws A c _ hW).mono ?_
   rintro e w3 ⟨rfl,rfl⟩
   rw [hE,←HE.out]
   go_wp2
   go_ret
   exact ⟨rfl,B2⟩
  ·have HE:Hid (q0n ⟨9,tx,n⟩=2):=v8f h0
   have q3:(n == 0)=false:=by simp [h0]
   have q4:(n != 0)=true:=by simp [h0]
   go_enter Tryz.func82,Tryz.ntmps82
   go_wp2_with fail
   refine (q0d 9 0 false rfl rfl _).mono ?_
   rintro e w2 ⟨rfl,rfl⟩
   go_wp2
   go_ret
   exact ⟨by rw [HE.out];rfl,hb _⟩
theorem z1z (b o k:Nat):(⟨b,o,none⟩:Addr).add k=⟨b,o+k,none⟩:=by
 unfold Addr.add
 split
 ·rename_i h;subst h;rfl
 ·rfl
theorem z5u {w:World} {ops:Array Oper} {rest:List Oper} {o:Oper} {a:Act} {Q:Exit→Act→World→Prop} (hgd:o.guard=none) (s x:Operand)
  (ho:o.op = .call { callee:=.builtin .append,args:=#[s,x],argTypes:=#[51,51] })
  (base:Nat) (v:Value) (xs:List ByteArray) (hs:a.eval s=v) (hown:q1x base v xs w)
  (wa:Option Addr) (n:Nat) (ws:List ByteArray) (hn:ws.length=n) (wc:Nat) (hx:a.eval x = .slice wa n wc) (hW:Wds w wa ws) (hnil:wa=none→n=0∧wc=0)
  (m:Nat) (hm:xs.length+n=m) (hb:m≤1000000) (hbase:base≤w.heap.size)
  (h:∀ A c w',q1x base (.slice A m c) (xs++ws) w'→w.grownBy w' v.ownBlock→wpList Tryz.prog ops Q rest (a.put o.dst (.slice A m c)) w'):wpList Tryz.prog ops Q (o::rest) a w:=by
 subst hn hm
 obtain ⟨i0,hi,hz0,hz1,hz2⟩:=info_parts z5j
 have h':∀ v' w',q1x base v' (xs++ws) w'→w.grownBy w' v.ownBlock→wpList Tryz.prog ops Q rest (a.put o.dst v') w':=by
  intro v' w' h1 h2
  obtain ⟨A,c,rfl⟩:∃ A c,v' = .slice A (xs.length+ws.length) c:=by
   rcases h1.2 with ⟨hv,h0⟩ | ⟨g,c,cur,hv,_⟩
   ·rw [List.length_append] at h0;exact ⟨none,0,by rw [hv,h0]⟩
   ·rw [List.length_append] at hv;exact ⟨_,c,hv⟩
  exact h A c w' h1 h2
 cases wa with
 | none=>
  obtain ⟨h0,rfl⟩:=hnil rfl
  obtain rfl:ws=[]:=List.eq_nil_of_length_eq_zero h0
  refine wpList_append_own_none hgd s x 51 ho base 9 i0 1 Tryz.underlying51 hi v xs.length (strCells xs) hs hown hx ?_
  refine h' v w ?_ ⟨rfl,rfl,rfl,Nat.le_refl _,fun _ _ _=>rfl⟩
  rw [List.append_nil]
  exact hown
 | some ad=>
  refine wpList_append_own w hgd s x 51 ho base 9 i0 _ 1 16 Tryz.underlying51 hi hz0 hz1 hz2 rfl (by decide) v xs.length (strCells xs) hs hown ad ws.length wc (strCells ws) hx (by simp [strCells]) ?_ ?_ (by unfold maxLen;omega) (by omega) hbase ?_
  ·intro j u hj
   have hlt:j<ws.length:=by have:=(List.getElem?_eq_some_iff.1 hj).1;simpa [strCells] using this
   obtain ⟨b,o,e,_,c⟩:=hW j hlt
   simp only [Option.some.injEq] at e
   subst e
   rw [z1z]
   have:u = .string ws[j]:=by simp [strCells,hlt] at hj;exact hj.symm
   rw [this]
   exact c
  ·intro u hu
   obtain ⟨x,_,rfl⟩:=List.mem_map.1 hu
   rfl
  ·intro v' w' h1 h2 _
   rw [←q3k] at h1
   refine h' v' w' ?_ h2
   show w'.ownsRow _ _ _ _ _ _
   rw [List.length_append]
   exact h1
def q3m (ks:List Int):List Value:=ks.map fun k=>.int .i64 k
theorem z1i (a b:List Int):q3m (a++b)=q3m a++q3m b:=by simp [q3m]
def z7x (B:Nat) (v:Value) (ks:List Int) (w:World):Prop:=w.ownsRow B 3 1 v ks.length (q3m ks)
theorem j7d {w:World} {ops:Array Oper} {rest:List Oper} {o:Oper} {a:Act} {Q:Exit→Act→World→Prop} (hgd:o.guard=none) (s x:Operand)
  (ho:o.op = .call { callee:=.builtin .append,args:=#[s,x],argTypes:=#[63,63] })
  (base:Nat) (v:Value) (xs:List Int) (hs:a.eval s=v) (hown:z7x base v xs w)
  (wa:Option Addr) (n:Nat) (ws:List Int) (hn:ws.length=n) (wc:Nat) (hx:a.eval x = .slice wa n wc) (hW:z4d w wa ws) (hnil:wa=none→n=0∧wc=0)
  (m:Nat) (hm:xs.length+n=m) (hb:m≤1000000) (hbase:base≤w.heap.size)
  (h:∀ A c w',z7x base (.slice A m c) (xs++ws) w'→w.grownBy w' v.ownBlock→wpList Tryz.prog ops Q rest (a.put o.dst (.slice A m c)) w'):wpList Tryz.prog ops Q (o::rest) a w:=by
 subst hn hm
 obtain ⟨i0,hi,hz0,hz1,hz2⟩:=info_parts z4t
 have h':∀ v' w',z7x base v' (xs++ws) w'→w.grownBy w' v.ownBlock→wpList Tryz.prog ops Q rest (a.put o.dst v') w':=by
  intro v' w' h1 h2
  obtain ⟨A,c,rfl⟩:∃ A c,v' = .slice A (xs.length+ws.length) c:=by
   rcases h1.2 with ⟨hv,h0⟩ | ⟨g,c,cur,hv,_⟩
   ·rw [List.length_append] at h0;exact ⟨none,0,by rw [hv,h0]⟩
   ·rw [List.length_append] at hv;exact ⟨_,c,hv⟩
  exact h A c w' h1 h2
 cases wa with
 | none=>
  obtain ⟨h0,rfl⟩:=hnil rfl
  obtain rfl:ws=[]:=List.eq_nil_of_length_eq_zero h0
  refine wpList_append_own_none hgd s x 63 ho base 3 i0 1 Tryz.underlying63 hi v xs.length (q3m xs) hs hown hx ?_
  refine h' v w ?_ ⟨rfl,rfl,rfl,Nat.le_refl _,fun _ _ _=>rfl⟩
  rw [List.append_nil]
  exact hown
 | some ad=>
  refine wpList_append_own w hgd s x 63 ho base 3 i0 _ 1 8 Tryz.underlying63 hi hz0 hz1 hz2 rfl (by decide) v xs.length (q3m xs) hs hown ad ws.length wc (q3m ws) hx (by simp [q3m]) ?_ ?_ (by unfold maxLen;omega) (by omega) hbase ?_
  ·intro j u hj
   have hlt:j<ws.length:=by have:=(List.getElem?_eq_some_iff.1 hj).1;simpa [q3m] using this
   obtain ⟨b,o,e,_,c⟩:=hW j hlt
   simp only [Option.some.injEq] at e
   subst e
   rw [z1z]
   have:u = .int .i64 ws[j]:=by simp [q3m,hlt] at hj;exact hj.symm
   rw [this]
   exact c
  ·intro u hu
   obtain ⟨x,_,rfl⟩:=List.mem_map.1 hu
   rfl
  ·intro v' w' h1 h2 _
   rw [←z1i] at h1
   refine h' v' w' ?_ h2
   show w'.ownsRow _ _ _ _ _ _
   rw [List.length_append]
   exact h1
end Go.Proofs.YtchdplceopegoaaGreatDoor
