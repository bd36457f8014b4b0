/- Texts as one: LawFormFits, As, Told, Laid, LaidS, LaidF. -/
import Derived.Test.YthjapabokcajhaaGreatDoorPf11
import Derived.Test.YthjapabokcajhaaGreatDoorPf40
import Derived.Test.YthjapabokcajhaaGreatDoorPf30
import Derived.Test.YthjapabokcajhaaGreatDoorPf42
import Derived.Test.YthjapabokcajhaaGreatDoorPf43
import Derived.KernelRfl
import Derived.Test.YthjapabokcajhaaGreatDoorProg
import Derived.WalkKit
import Derived.LaidEql
import Derived.Stop.Asserts
import Derived.RowKitTokens
import Derived.Test.YthjapabokcajhaaGreatDoorPf05
import Derived.Test.YthjapabokcajhaaGreatDoorRows
import Derived.ChangeSame
import Derived.ChangeVars
import Derived.JoinedOf
import Derived.RowKit
import Derived.LaidLaws
import Derived.LaidHandle
import Derived.Stop.Joined
import Derived.Test.YthjapabokcajhaaGreatDoorPf09
import Derived.Lay
import Derived.LaidMore
import Derived.LaidSub
import Derived.LaidOnce
namespace Go.Proofs.YthjapabokcajhaaGreatDoor
open Go Go.RowKit
set_option maxRecDepth 100000
set_option maxHeartbeats 8000000
def fxG:List Td:=[⟨8,⟨#[]⟩,0⟩,⟨1,⟨#[]⟩,7⟩]
theorem v1x:q0b fxG=0:=by decide +kernel
theorem j5t:q8r fxG ((10:Nat):Int)=0:=by decide +kernel
theorem j2w:q3x fxG=[55,59]:=by decide +kernel
theorem j9e:k8r fxG 10=⟨#[55,59,10]⟩:=by
 have h:=z6y (t:=fxG) (n:=10) j5t;rw[z8w v1x (by rw[j2w];decide),j2w]at h;exact h
abbrev v2v:Array Value:=#[.int .i64 8,.string ⟨#[]⟩,.int .i64 0,.int .i64 1,.string ⟨#[]⟩,.int .i64 7]
abbrev j0e:Obj:=.cells v2v 47
theorem q3t(w:World){k:Nat}{v:Value}(h:v2v[k]?=some v):(w.alloc j0e).cell? ⟨w.heap.size,k,none⟩=some v:=by
 have h1:(w.alloc j0e).heap[w.heap.size]?=some j0e:=by
  show(w.heap.push j0e)[w.heap.size]?=_
  simp
 simp only[World.cell?,Option.isSome_none,Bool.false_eq_true,if_false,h1];exact h
theorem z8f(w:World):Tds (w.alloc j0e) (some ⟨w.heap.size,0,none⟩) fxG:=by
 intro i hi;have hi':i<2:=hi;refine⟨w.heap.size,0,rfl,by rw[World.size_alloc];omega,?_⟩;rw[Nat.zero_add]
 match i,hi' with
 | 0,_=>exact⟨q3t w rfl,q3t w rfl,q3t w rfl⟩
 | 1,_=>exact⟨q3t w rfl,q3t w rfl,q3t w rfl⟩
theorem k6y{t:List Td}{a:Option Addr}{cap:Nat}{w:World}(hc:t.length<=cap)(hN:Tds w a t):Prg (w.alloc (.cells #[.slice a t.length cap] 22)) (some ⟨w.heap.size,0,none⟩) [t]:=by
 intro i hi;have hi0:i=0:=by simp at hi;exact hi
 subst hi0;refine⟨w.heap.size,0,a,cap,rfl,by rw[World.size_alloc];omega,?_,hc,hN.alloc _⟩
 have h1:(w.alloc (.cells #[.slice a t.length cap] 22)).heap[w.heap.size]?=some (.cells #[.slice a t.length cap] 22):=by
  show(w.heap.push _)[w.heap.size]?=_
  simp
 simp only[World.cell?,Option.isSome_none,Bool.false_eq_true,if_false,h1,Nat.zero_add];rfl
theorem j3u{t:List Td}(h:q0b t=0):q1i [t]=(0,0):=by
 rw[q1i,if_neg (by simp),q3u,if_neg (by simp[h]),if_neg (by simp)];rfl
theorem v0c(t:List Td):wbS (q2z [t])=wbS (q3x t)++(⟨#[10]⟩:ByteArray):=by
 have e:q2z [t]=q3x t++[10]:=by simp[q2z]
 rw[e];exact(q1q _ _).symm
theorem v1y{S:ByteArray}(h:Gd (btL S)){j:Nat}(hj:j+1<S.size):¬(S[j+1]=10/\S[j]'(by omega)=32):=by
 rintro⟨h1,h2⟩
 have e1:(btL S).drop j=S[j]'(by omega)::S[j+1]::(btL S).drop (j+2):=by
  rw[z2a (by omega),z2a hj]
 refine h ((btL S).take j) ((btL S).drop (j+2)) ?_;rw[h1,h2]at e1;rw[<-e1,List.take_append_drop]
theorem z7d(a b:Int)(W:World):(Instr.field 54 (.agg #[.int .i64 a,.int .i64 b]) 0).run Tryz.prog W=.ok (.int .i64 a) W:=by kernel_rfl
structure v3a(t:List Td)(n:Nat)(S:ByteArray):Prop where
 l:2<=S.size
 b:S.size<=4000000
 e:∀(h:S.size-1<S.size),S[S.size-1]=10
 g:Gd (btL S)
 f:(q3x t).length<=n->S=wbS (q3x t)++(⟨#[10]⟩:ByteArray)
theorem j8y{t:List Td}(h:q0b t=0)(hp:pgE t=0)(n:Nat):v3a t n (wbS (q5s n t)):=by
 obtain⟨ws,hfm⟩:=j9w (wd:=n) h;obtain⟨hg,r,hr,hne⟩:=j9d h hfm;have hl:=j7l h hp n;have hrl:=List.length_pos_iff.2 hne;have hsz:(wbS (q5s n t)).size=r.length+1:=by rw[q5u,hr,List.length_append];rfl
 refine⟨by omega,by rw[q5u];omega,fun hh=>?_,hg,fun hf=>?_⟩
 ·have e1:(btL (wbS (q5s n t)))[r.length]?=some 10:=by
   show(q5s n t)[r.length]?=some 10
   rw[hr];simp
  have e2:(wbS (q5s n t)).size-1=r.length:=by omega
  obtain⟨q1,q2⟩:=List.getElem?_eq_some_iff.1 e1;have e3:(wbS (q5s n t))[(wbS (q5s n t)).size-1]=(btL (wbS (q5s n t)))[(wbS (q5s n t)).size-1]'(by rw[q0h];omega):=rfl;rw[e3];simp only[e2];exact q2
 ·rw[z8w h hf];exact(q1q _ _).symm
theorem z4c(hO:v1h)(t:List Td)(a:Option Addr)(cap:Nat)(ws:List Int)(wa:Option Addr)(wc:Nat)(wd:Int)(w:World)(hc:t.length<=cap)(hN:Tds w a t)(hsz:j4g t)(ht:z7p w)(h:q8r t wd≠0):
  Calls Tryz.prog 5 #[.slice a t.length cap,.int .i64 wd,.slice wa ws.length wc] w fun e w'=>e=.returned (.bool true)/\Below w.heap.size w w':=by
 have HFX:Hid (Calls Tryz.prog 9 #[.slice (some ⟨w.heap.size,0,none⟩) 2 2,.int .i64 10] (w.alloc j0e) fun e w'=>e=.returned (.tuple #[.string ⟨#[55,59,10]⟩,.nilIface])/\Below w.heap.size w w'):=by
  refine(hO fxG _ 2 10 (w.alloc j0e) (by decide) (z8f w) (fun x hx=>by simp[fxG]at hx;rcases hx with rfl|rfl<;>decide) (ht.below (q7o w _))).mono ?_;rintro e w'⟨rfl,hb⟩;have e1:q8r fxG 10=0:=j5t;exact⟨by rw[j9e,e1,q0u],(q7o w _).trans (hb.mono (by rw[World.size_alloc];omega))⟩
 have HPO:Hid (∀W:World,Below w.heap.size w W->Calls Tryz.prog 9 #[.slice a t.length cap,.int .i64 wd] W fun e w'=>e=.returned (.tuple #[.string ⟨#[]⟩,.iface 23 (.int .i64 (q8r t wd))])/\Below W.heap.size W w'):=fun W hb=>by
  have h1:=hO t a cap wd W hc (hN.below hb) hsz.nine (ht.below hb);rw[z6x h,q0o h]at h1;exact h1
 have HTF:Hid (∀W:World,Below w.heap.size w W->Calls Tryz.prog 7 #[.slice a t.length cap] W fun e w'=>e=.returned (.int .i64 (q0b t))/\Below W.heap.size W w'):=fun W hb=>z0k t a cap W (hN.below hb) hsz
 by_cases h0:q0b t=0
 ·have HLD:Hid (∀W:World,Below w.heap.size w W->Calls Tryz.prog 15 #[.slice (some ⟨W.heap.size,0,none⟩) 1 1,.int .i64 wd] (W.alloc (.cells #[.slice a t.length cap] 22)) fun e w'=>e=.returned (.bool false)/\Below W.heap.size W w'):=fun W hb=>by
   have h1:=z6m (ps:=[t]) (fun u hu=>by simp at hu;rw[hu];exact h0) (by simp) wd (some ⟨W.heap.size,0,none⟩) 1 (W.alloc (.cells #[.slice a t.length cap] 22)) (k6y hc (hN.below hb))
   have hno:¬(fmE [t]=0/\¬(wd<10\/100<wd)):=by
    rintro⟨q1,q2⟩;rw[z6w q2 h0]at h;rw[k3u h]at q1;exact h q1
   rw[decide_eq_false hno]at h1;exact h1.mono fun e w' hh=>⟨hh.1,(q7o W _).trans (hh.2.mono (by rw[World.size_alloc];omega))⟩
  rw[h0]at HTF;generalize q8r t wd=E at HPO;clear hN hsz ht h h0 hO;go_in;go_wp2_with fail;refine HFX.out.mono ?_;rintro e w1⟨rfl,b1⟩;have HB1:Hid (Below w.heap.size w w1):=b1;clear b1 HFX;go_wp2_with fail;refine(HPO.out _ HB1.out).mono ?_;rintro e w2⟨rfl,b2⟩;have HB2:Hid (Below w.heap.size w w2):=q0g HB1.out (Nat.le_refl _) b2;clear b2 HPO;go_wp2_with fail;refine(HTF.out _ HB2.out).mono ?_;rintro e w3⟨rfl,b3⟩;have HB3:Hid (Below w.heap.size w w3):=q0g HB2.out (Nat.le_refl _) b3;clear b3 HTF;go_wp2_with fail;refine(HLD.out _ HB3.out).mono ?_;rintro e w4⟨rfl,b4⟩;have HB4:Hid (Below w.heap.size w w4):=q0g HB3.out (Nat.le_refl _) b4;clear b4 HLD;go_wp2;go_ret;exact⟨rfl,HB4.out⟩
 ·have he0:(q0b t==0)=false:=by simp[h0]
  have he1:(q0b t != 0)=true:=by simp[h0]
  generalize q8r t wd=E at HPO;generalize q0b t=F at HTF he0 he1;clear hN hsz ht h h0 hO;go_in;go_wp2_with fail;refine HFX.out.mono ?_;rintro e w1⟨rfl,b1⟩;have HB1:Hid (Below w.heap.size w w1):=b1;clear b1 HFX;go_wp2_with fail;refine(HPO.out _ HB1.out).mono ?_;rintro e w2⟨rfl,b2⟩;have HB2:Hid (Below w.heap.size w w2):=q0g HB1.out (Nat.le_refl _) b2;clear b2 HPO;go_wp2_with fail;refine(HTF.out _ HB2.out).mono ?_;rintro e w3⟨rfl,b3⟩;have HB3:Hid (Below w.heap.size w w3):=q0g HB2.out (Nat.le_refl _) b3;clear b3 HTF;go_wp2;go_ret;exact⟨rfl,HB3.out⟩
theorem z6j(hO:v1h)(t:List Td)(a:Option Addr)(cap:Nat)(ws:List Int)(wa:Option Addr)(wc:Nat)(n:Nat)(w:World)(hc:t.length<=cap)(hN:Tds w a t)(hsz:j4g t)(hwc:ws.length<=wc)(hwl:ws.length<=9223372036854775807)(hI:q8j w wa ws)(ht:z7p w)(h:q8r t (n:Int)=0)(h0:q0b t=0)(hp:pgE t=0):
  Calls Tryz.prog 5 #[.slice a t.length cap,.int .i64 (n:Int),.slice wa ws.length wc] w fun e w'=>e=.returned (.bool true)/\Below w.heap.size w w':=by
 have HFX:Hid (Calls Tryz.prog 9 #[.slice (some ⟨w.heap.size,0,none⟩) 2 2,.int .i64 10] (w.alloc j0e) fun e w'=>e=.returned (.tuple #[.string ⟨#[55,59,10]⟩,.nilIface])/\Below w.heap.size w w'):=by
  refine(hO fxG _ 2 10 (w.alloc j0e) (by decide) (z8f w) (fun x hx=>by simp[fxG]at hx;rcases hx with rfl|rfl<;>decide) (ht.below (q7o w _))).mono ?_;rintro e w'⟨rfl,hb⟩;have e1:q8r fxG 10=0:=j5t;exact⟨by rw[j9e,e1,q0u],(q7o w _).trans (hb.mono (by rw[World.size_alloc];omega))⟩
 have HPO:Hid (∀W:World,Below w.heap.size w W->Calls Tryz.prog 9 #[.slice a t.length cap,.int .i64 (n:Int)] W fun e w'=>e=.returned (.tuple #[.string (wbS (q5s n t)),.nilIface])/\Below W.heap.size W w'):=fun W hb=>by
  have h1:=hO t a cap (n:Int) W hc (hN.below hb) hsz.nine (ht.below hb);rw[z6y h,h,q0u]at h1;exact h1
 have HPR:Hid (∀W:World,Below w.heap.size w W->Calls Tryz.prog 17 #[.slice (some ⟨W.heap.size,0,none⟩) 1 1] (W.alloc (.cells #[.slice a t.length cap] 22)) fun e w'=>e=.returned (.tuple #[.string (wbS (q3x t)++(⟨#[10]⟩:ByteArray)),.nilIface])/\Below W.heap.size W w'):=fun W hb=>by
  have h3:=z5h [t] (some ⟨W.heap.size,0,none⟩) 1 (W.alloc (.cells #[.slice a t.length cap] 22)) (by simp) (k6y hc (hN.below hb)) (fun u hu=>by simp at hu;subst hu;exact hsz.nine) (((ht.below hb).below (q7o W _)).pow);rw[k6t (by rw[j3u h0]),j3u h0,v0c,q0u]at h3;exact h3.mono fun e w' hh=>⟨hh.1,(q7o W _).trans (hh.2.mono (by rw[World.size_alloc];omega))⟩
 have HLD:Hid (∀W:World,Below w.heap.size w W->Calls Tryz.prog 18 #[.slice a t.length cap] W fun e w'=>(∃A c,e=.returned (.tuple #[.slice A (q3g t).length c,q1p (q4v t)])/\q1u w' A (q3g t)/\(q3g t).length<=c)/\Below W.heap.size W w'):=fun W hb=>z1b t a cap W (ht.below hb).pow hc (hN.below hb) hsz.nine
 have hfit:=j8y h0 hp n
 have hTl:(wbS (q3x t)).size<=10000:=by
  have h2:=z9h h0;rw[q5u];omega
 have hTs:(wbS (q3x t)++(⟨#[10]⟩:ByteArray)).size=(wbS (q3x t)).size+1:=by
  have e1:wbS (q3x t)++(⟨#[10]⟩:ByteArray)=wbS (q3x t++[10]):=q1q _ _;rw[e1,q5u,q5u,List.length_append];rfl
 have hFF:(wbS (q3x t)).size<=n->wbS (q5s n t)=wbS (q3x t)++(⟨#[10]⟩:ByteArray):=fun q=>hfit.f (by rw[<-q5u];exact q)
 have HWI:Hid (q8j w wa ws):=hI
 have HCS:Hid (q4v t=0->(∀(W:World)(A:Option Addr)(c:Nat),Below w.heap.size w W->(q3g t).length<=c->q1u W A (q3g t)->Calls Tryz.prog 19 #[.slice A (q3g t).length c,.slice wa ws.length wc] W fun e w'=>e=.returned (.tuple #[.string (shS ((q0i t).show ws)),q1p (shE ((q0i t).show ws))])/\Below W.heap.size W w')):=fun hl W A c hb h2 h1=>by
  have h3:=z5o (q3g t) ws A wa c wc h2 hwc hwl W h1 (q8j.below HWI.out hb);rw[z2o hl]at h3;exact h3
 have HER:Hid (q4v t=0->∀e,(q0i t).show ws=.error e->e≠0):=fun hl e he=>k6z (ds:=q3g t) (by rw[z2o hl];exact he)
 have HOV:Hid (q4v t=0->∀r,(q0i t).show ws=.ok r->r.length<=2000000/\((q1e n 0 r).1=0->(q1e n 0 (btL (wbS (q5s n t)))).1=0)):=fun hl r hr=>⟨(k4k hl hr).2,fun hz=>by
  have:=j5j hr hz
  rw[<-z2z h0 (z8m hl).2.1]at this
  exact this⟩
 have HCO:Hid (∀(W:World)(U:ByteArray),U.size<=4000000->Calls Tryz.prog 20 #[.string U,.int .i64 (n:Int)] W fun e w'=>e=.returned (.agg #[.int .i64 ((q1e n 0 (btL U)).1:Int),.int .i64 ((q1e n 0 (btL U)).2.1:Int)])/\Below W.heap.size W w'):=fun W U hU=>by
  have h3:=k6x U (n:Int) W (by omega);have e:stL (n:Int) U.data.toList=(((q1e n 0 (btL U)).1:Int),((q1e n 0 (btL U)).2.1:Int),((q1e n 0 (btL U)).2.2:Int)):=j5g n (btL U);rw[e]at h3;exact h3
 clear hN hsz ht h hO hI HWI;generalize wbS (q5s n t)=S at HPO hfit hFF HOV;generalize wbS (q3x t)=P at HPR hTl hTs hFF;obtain⟨f1,f2,f3,f4,_⟩:=hfit;have f3':(S[S.size-1]'(by omega)).toNat=10:=by rw[f3 (by omega)];rfl
 have HG:Hid (Gd (btL S)):=f4;generalize hPP:P++(⟨#[10]⟩:ByteArray)=PP at HPR hTs hFF;have HFF:Hid (P.size<=n->S=PP):=hFF;clear f3 f4 hFF hPP;go_in;go_wp2_with fail;refine HFX.out.mono ?_;rintro e w1⟨rfl,b1⟩;have HB1:Hid (Below w.heap.size w w1):=b1;clear b1 HFX;go_wp2_with fail;refine(HPO.out _ HB1.out).mono ?_;rintro e w2⟨rfl,b2⟩;have HB2:Hid (Below w.heap.size w w2):=q0g HB1.out (Nat.le_refl _) b2;clear b2 HPO HB1;have q1:¬(S.size:Int)<2:=by omega
 have q2:(0:Int)<=(S.size:Int)-1:=by omega
 have q3:(S.size:Int)-1<(S.size:Int):=by omega
 have q4:((S.size:Int)-1).toNat=S.size-1:=by omega
 go_wp2_with fail
 go_loopw [11] (fun x wr=>Below w.heap.size w wr/\∃j:Nat,1<=j/\j<=S.size/\x=.int .i64 (j:Int)) (fun x _=>S.size-(intOf x).toNat)
 case atStart=>exact⟨by first|exact HB2.out|exact q2u HB2.out _,1,Nat.le_refl _,by omega,rfl⟩
 case round=>
  obtain⟨hbr,j,hj1,hj2,rfl⟩:=hrel;have HBR:Hid (Below w.heap.size w wr):=hbr;clear hbr;by_cases hlt:j<S.size
  ·have hji:(j:Int)<(S.size:Int):=by omega
   have r2:(0:Int)<=(j:Int)-1:=by omega
   have r3:(j:Int)-1<(S.size:Int):=by omega
   have r4:((j:Int)-1).toNat=j-1:=by omega
   have hgd:¬(S[j]=10/\S[j-1]=32):=by
    have h1:=v1y HG.out (j:=j-1) (by omega);simp only[show j-1+1=j by omega]at h1;exact h1
   by_cases h10:S[j]=10
   ·have h32:¬S[j-1]=32:=fun e=>hgd ⟨h10,e⟩
    have k1:S[j].toNat=10:=by rw[h10];rfl
    have k2:(S[j].toNat:Int)=10:=by omega
    have k3:¬((S[j-1].toNat:Nat):Int)=32:=fun e=>h32 (c32 e)
    have k4:¬S[j-1].toNat=32:=by omega
    have k5:(((S[j-1].toNat:Nat):Int)==32)=false:=by simp[k3]
    clear h10 h32 hgd;go_wp2;refine⟨⟨by first|exact HBR.out|exact q2u HBR.out _,j+1,by omega,by omega,by go_num⟩,?_⟩;simp[intOf];omega
   ·have k1:¬(S[j].toNat:Int)=10:=fun e=>h10 (c10 e)
    have k2:¬S[j].toNat=10:=by omega
    have k3:((S[j].toNat:Int)==10)=false:=by simp[k1]
    clear h10 hgd;go_wp2;refine⟨⟨by first|exact HBR.out|exact q2u HBR.out _,j+1,by omega,by omega,by go_num⟩,?_⟩;simp[intOf];omega
  ·have hji:¬(j:Int)<(S.size:Int):=by omega
   have hps:(PP.size:Int)=(P.size:Int)+1:=by omega
   have hcs:((PP.size:Int)-1<=(n:Int)/\(S.toList==PP.toList)=true/\(S.toList != PP.toList)=false)\/¬(PP.size:Int)-1<=(n:Int):=by
    by_cases hle:P.size<=n
    ·have e:=HFF.out hle;refine .inl ⟨by omega,by rw[e];simp,by rw[e];simp⟩
    ·exact .inr (by omega)
   have hpp:PP.size<=20000:=by omega
   clear hTs hps;go_wp2_with fail;refine(HPR.out _ HBR.out).mono ?_;rintro e w3⟨rfl,b3⟩;have HB3:Hid (Below w.heap.size w w3):=q0g HBR.out (Nat.le_refl _) b3;clear b3 HPR;rcases hcs with⟨m1,m2,m3⟩|m1
   all_goals
    go_wp2_with fail;refine(HLD.out _ HB3.out).mono ?_;rintro e w4⟨⟨A4,c4,rfl,hN4,hc4⟩,b4⟩;have HB4:Hid (Below w.heap.size w w4):=q0g HB3.out (Nat.le_refl _) b4;have HB4d:Hid (Below w.heap.size w w4.drew):=HB4.out.drew;by_cases hl:q4v t=0
    ·have HSH:Hid (∀W:World,Below w4.heap.size w4 W->Calls Tryz.prog 19 #[.slice A4 (q3g t).length c4,.slice wa ws.length wc] W fun e w'=>e=.returned (.tuple #[.string (shS ((q0i t).show ws)),q1p (shE ((q0i t).show ws))])/\Below W.heap.size W w'):=fun W hb=>HCS.out hl W A4 c4 (q0g HB4.out (Nat.le_refl _) hb) hc4 (hN4.below hb)
     rw[hl,q0u];clear hN4 b4
     generalize(q3g t).length=nd at HSH hc4⊢
     go_wp2_with fail;refine(HSH.out _ (Below.refl _ _)).mono ?_;rintro e w5⟨rfl,b5⟩;have HB5:Hid (Below w.heap.size w w5):=q0g HB4.out (Nat.le_refl _) b5;clear b5 HSH;cases hsh:(q0i t).show ws with
     | error er=>
      have HE:=(show Hid (_=_)from q0o (HER.out hl er hsh));have e1:shE (Except.error er:Except Int (List UInt8))=er:=rfl;rw[e1,HE.out];clear hsh e1;go_wp2;go_ret;exact⟨rfl,by first|exact HB5.out|exact q2u HB5.out _⟩
     | ok r=>
      obtain⟨hrl,hov⟩:=HOV.out hl r hsh;have e1:shE (Except.ok r:Except Int (List UInt8))=0:=rfl;have e2:shS (Except.ok r:Except Int (List UInt8))=wbS r:=rfl;rw[e1,e2,q0u];have hrs:(wbS r).size<=4000000:=by rw[q5u];omega
      have hu1:(0:Int)<((wbS r).size:Int)+1:=by omega
      have hu2:((wbS r).size:Int)+1<=4000001:=by omega
      have HC5:Hid (∀W:World,Calls Tryz.prog 20 #[.string (wbS r),.int .i64 (n:Int)] W fun e w'=>e=.returned (.agg #[.int .i64 ((q1e n 0 r).1:Int),.int .i64 ((q1e n 0 r).2.1:Int)])/\Below W.heap.size W w'):=fun W=>HCO.out W (wbS r) hrs
      have HC6:Hid (∀W:World,Calls Tryz.prog 20 #[.string S,.int .i64 (n:Int)] W fun e w'=>e=.returned (.agg #[.int .i64 ((q1e n 0 (btL S)).1:Int),.int .i64 ((q1e n 0 (btL S)).2.1:Int)])/\Below W.heap.size W w'):=fun W=>HCO.out W S f2
      generalize wbS r=U at HC5 hrs hu1 hu2⊢
      generalize(q1e n 0 r).2.1=x2 at HC5
      generalize(q1e n 0 (btL S)).2.1=y2 at HC6
      by_cases hz:(q1e n 0 r).1=0
      ·rw[hz,show((0:Nat):Int)=0 from rfl]at HC5;rw[hov hz,show((0:Nat):Int)=0 from rfl]at HC6;have hf1:=z7d 0 (x2:Int);have hf2:=z7d 0 (y2:Int);clear hz hov hsh e1 e2;go_wp2_with fail;refine(HC5.out _).mono ?_;rintro e w6⟨rfl,b6⟩;have HB6:Hid (Below w.heap.size w w6):=q0g HB5.out (Nat.le_refl _) b6;clear b6;go_wp2_with fail;refine(HC6.out _).mono ?_;rintro e w7⟨rfl,b7⟩;have HB7:Hid (Below w.heap.size w w7):=q0g HB6.out (Nat.le_refl _) b7;clear b7;go_wp2;go_ret;exact⟨rfl,by first|exact HB7.out|exact q2u HB7.out _⟩
      ·have hzp:(0:Int)<((q1e n 0 r).1:Int):=by omega
       clear hov hsh e1 e2 hz
       generalize((q1e n 0 r).1:Int)=x1 at HC5 hzp
       generalize(x2:Int)=x3 at HC5
       have hf1:=z7d x1 x3;have hzb:(decide ((0:Int)<x1))=true:=by simp[hzp]
       go_wp2_with fail;refine(HC5.out _).mono ?_;rintro e w6⟨rfl,b6⟩;have HB6:Hid (Below w.heap.size w w6):=q0g HB5.out (Nat.le_refl _) b6;clear b6;go_wp2;go_ret;exact⟨rfl,by first|exact HB6.out|exact q2u HB6.out _⟩
    ·have HE:=(show Hid (_=_)from q0o hl);rw[HE.out];clear hl hN4 b4;go_wp2;go_ret;exact⟨rfl,by first|exact HB4.out|exact q2u HB4.out _⟩
theorem z4b(hO:v1h)(t:List Td)(a:Option Addr)(cap:Nat)(ws:List Int)(wa:Option Addr)(wc:Nat)(wd:Int)(w:World)(hc:t.length<=cap)(hN:Tds w a t)(hsz:j4g t)(hwc:ws.length<=wc)(hwl:ws.length<=9223372036854775807)(hI:q8j w wa ws)(ht:z7p w):
  Calls Tryz.prog 5 #[.slice a t.length cap,.int .i64 wd,.slice wa ws.length wc] w fun e w'=>e=.returned (.bool true)/\Below w.heap.size w w':=by
 by_cases h:q8r t wd=0
 ·have hw:¬(wd<10\/100<wd):=fun hw=>by
   rw[q8r,if_pos hw]at h;cases h
  have h0:q0b t=0:=by
   rcases Classical.em (q0b t=0)with e|e
   ·exact e
   ·rw[q8r,if_neg hw,if_pos e]at h;exact absurd h e
  obtain⟨n,rfl⟩:∃n:Nat,wd=(n:Int):=⟨wd.toNat,by omega⟩;have hp:pgE t=0:=by rw[<-z6w hw h0];exact h
  exact z6j hO t a cap ws wa wc n w hc hN hsz hwc hwl hI ht h h0 hp
 ·exact z4c hO t a cap ws wa wc wd w hc hN hsz ht h
end Go.Proofs.YthjapabokcajhaaGreatDoor
namespace Go.Proofs.YthjapabokcajhaaGreatDoor
open Go.ChangeShapes Go.WideShapes Go.RowKit
theorem Tryz.own:ownKnob Tryz.prog.godebug=none:=by kernel_rfl
def z4j(P:Program)(os:Os):World:=
 let w0:=World.holding P os ⟨#[],#[],[]⟩
 {w0 with heap:=w0.heap.modify 0 fun
   | .cells _ t frozen=>.cells #[.iface 227 (.agg #[.pointer (some ⟨12,29,none⟩)])] t frozen
   | o=>o}
end Go.Proofs.YthjapabokcajhaaGreatDoor
namespace Go.Proofs.YthjapabokcajhaaGreatDoor
open Go.ChangeShapes Go.WideShapes Go.RowKit
set_option maxRecDepth 100000
def j1o : List (String × DataW Unit) := [("math/bits.deBruijn32tab", Rows.laid_math_bits_deBruijn32tab), ("math/bits.deBruijn64tab", Rows.laid_math_bits_deBruijn64tab), ("internal/strconv.uint64pow10", Rows.laid_internal_strconv_uint64pow10), ("unicode/utf8.acceptRanges", Rows.laid_unicode_utf8_acceptRanges), ("strconv.ErrRange", Rows.laid_strconv_ErrRange), ("strconv.ErrSyntax", Rows.laid_strconv_ErrSyntax), ("unicode.White_Space", Rows.laid_unicode_White_Space), ("strings.asciiSpace", Rows.laid_strings_asciiSpace), ("unicode/utf8.first", Rows.laid_unicode_utf8_first)]
abbrev v2x : List (String × DataW Unit) := [("math/bits.deBruijn32tab", Rows.laid_math_bits_deBruijn32tab), ("math/bits.deBruijn64tab", Rows.laid_math_bits_deBruijn64tab), ("internal/strconv.uint64pow10", Rows.laid_internal_strconv_uint64pow10), ("unicode/utf8.acceptRanges", Rows.laid_unicode_utf8_acceptRanges), ("errors.errorType", Rows.laid_errors_errorType), ("strconv.ErrRange", Rows.laid_strconv_ErrRange), ("strconv.ErrSyntax", Rows.laid_strconv_ErrSyntax), ("unicode.White_Space", Rows.laid_unicode_White_Space), ("strings.asciiSpace", Rows.laid_strings_asciiSpace), ("unicode/utf8.first", Rows.laid_unicode_utf8_first)]
def q2s(P:Program)(os:Os):World:=(z4j P os).layVars P j1o
theorem j1p(os:Os)(args:Array Value):laidMet Tryz.prog j1o ((q2s Tryz.prog os).forCall (fun _ _=>0) ⟨#[],args,[]⟩).memory:=by
 have e1:(j1o.filter fun x=>(j1o.map (·.1)).contains x.1)=j1o:=List.filter_eq_self.2 fun x hx=>List.contains_iff_mem.2 (List.mem_map.2 ⟨x,hx,rfl⟩)
 have e2:(j1o.filter fun x=>!(j1o.map (·.1)).contains x.1)=[]:=List.filter_eq_nil_iff.2 fun x hx=>by rw[List.contains_iff_mem.2 (List.mem_map.2 ⟨x,hx,rfl⟩)];simp
 have h:laidMet Tryz.prog j1o (q2s Tryz.prog os):=laidMet_layVars (w0:=z4j Tryz.prog os) (j1o.map (·.1)) [] (by rw[e1];rfl) (by rw[e1];kernel_rfl) (by rw[e1];kernel_rfl) (by rw[e2];exact LaidIn.none);exact h.of_heap (by simp[World.memory,World.forCall,Input.heap])
theorem k7h(os:Os)(args:Array Value):((q2s Tryz.prog os).forCall (fun _ _=>0) ⟨#[],args,[]⟩).Shaped Tryz.prog:=World.shaped_of_ZipB (by kernel_rfl) (by kernel_rfl)
theorem j7t(os:Os)(args:Array Value):laidMetH Tryz.prog v2x ((q2s Tryz.prog os).forCall (fun _ _=>0) ⟨#[],args,[]⟩).memory:=
 laidMetH_of_parts (j1p os args) (by kernel_rfl)
end Go.Proofs.YthjapabokcajhaaGreatDoor
namespace Go.Proofs.YthjapabokcajhaaGreatDoor
open Go.ChangeShapes Go.WideShapes Go.RowKit
set_option maxRecDepth 100000
abbrev v1o : List (String × DataW Unit) := [("math/bits.deBruijn32tab", Rows.laid_math_bits_deBruijn32tab), ("math/bits.deBruijn64tab", Rows.laid_math_bits_deBruijn64tab), ("internal/strconv.uint64pow10", Rows.laid_internal_strconv_uint64pow10), ("unicode/utf8.acceptRanges", Rows.laid_unicode_utf8_acceptRanges), ("strconv.ErrRange", Rows.laid_strconv_ErrRange), ("strconv.ErrSyntax", Rows.laid_strconv_ErrSyntax), ("unicode.White_Space", Rows.laid_unicode_White_Space), ("strings.asciiSpace", Rows.laid_strings_asciiSpace), ("unicode/utf8.first", Rows.laid_unicode_utf8_first)]
abbrev v1u : List (String × DataW Unit) := [("math/bits.deBruijn32tab", Rows.laid_math_bits_deBruijn32tab), ("math/bits.deBruijn64tab", Rows.laid_math_bits_deBruijn64tab), ("internal/strconv.uint64pow10", Rows.laid_internal_strconv_uint64pow10), ("unicode/utf8.acceptRanges", Rows.laid_unicode_utf8_acceptRanges), ("unicode.White_Space", Rows.laid_unicode_White_Space), ("strings.asciiSpace", Rows.laid_strings_asciiSpace), ("unicode/utf8.first", Rows.laid_unicode_utf8_first)]
theorem j4j(os:Os)(args:Array Value):laidMetH Tryz.prog v1o ((q2s Tryz.prog os).forCall (fun _ _=>0) ⟨#[],args,[]⟩).memory:=by
 have h := (j7t os args).filter (fun x => x.1 != "errors.errorType")
 have e : (v2x.filter fun x => x.1 != "errors.errorType") = v1o := by rfl
 rw[e]at h;exact h
theorem j5r(os:Os)(args:Array Value):laidMetH Tryz.prog v1u ((q2s Tryz.prog os).forCall (fun _ _=>0) ⟨#[],args,[]⟩).memory:=by
 have h := (j4j os args).filter (fun x => x.1 != "strconv.ErrRange" && x.1 != "strconv.ErrSyntax")
 have e : (v1o.filter fun x => x.1 != "strconv.ErrRange" && x.1 != "strconv.ErrSyntax") = v1u := by rfl
 rw[e]at h;exact h
theorem j1r {l : List (String × DataW Unit)} {W : World} (h : laidMetH Tryz.prog l W) (e1 : ((l.filter fun x => x.2.handleName?.isNone).filter fun x => x.1 == "internal/strconv.uint64pow10") = [("internal/strconv.uint64pow10", Lib.tabData .u64 Lib.pow10Tab)]) (e2 : ((l.filter fun x => x.2.handleName?.isNone).filter fun x => x.1 == "strings.asciiSpace") = [("strings.asciiSpace", Lib.tabData .u8 Lib.asciiSpaceTab)]) : z7p W := by
 have h0:=(laidMetH_iff.1 h).1;refine⟨?_,?_⟩
 ·have h1 := h0.filter (fun x => x.1 == "internal/strconv.uint64pow10")
  rw[e1]at h1;exact Lib.tabIs_of_head (g:=4) (t:=321) (e:=255) (n:=20) (by kernel_rfl) (by kernel_rfl) (by kernel_rfl) (by kernel_rfl) (by kernel_rfl) (by kernel_rfl) h1
 ·have h1 := h0.filter (fun x => x.1 == "strings.asciiSpace")
  rw[e2]at h1;exact Lib.tabIs_of_head (g:=1) (t:=216) (e:=5) (n:=256) (by kernel_rfl) (by kernel_rfl) (by kernel_rfl) (by kernel_rfl) (by kernel_rfl) (by kernel_rfl) h1
theorem k9u{W:World}(h:laidMetH Tryz.prog v1u W):z7p W:=j1r h (by kernel_rfl) (by kernel_rfl)
end Go.Proofs.YthjapabokcajhaaGreatDoor
