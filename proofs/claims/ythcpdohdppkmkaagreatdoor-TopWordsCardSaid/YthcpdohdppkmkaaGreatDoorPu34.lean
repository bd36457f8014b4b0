import Derived.Test.YthcpdohdppkmkaaGreatDoorPu33
import Derived.Test.YthcpdohdppkmkaaGreatDoorPu10
open Go.Proofs.Tryz
namespace Go.Proofs.YthcpdohdppkmkaaGreatDoor
open Go Go.RowKit
def g4s:Job->List Td
 | .loop _ acc=>acc
 | .args _ _ acc=>acc
 | _=>[]
theorem y2i{w:Wd}(h:nmW w=true):(wbS w).size<=8:=by
 rw[<-q0b];exact q2e h
theorem g2o{j:Job}{ts:List Wd}{r:Rs}(h:PR j ts r):(∀x∈g4s j,x.tx.size<=8)->∀m ns u,r=.ok m ns u->∀x∈ns,x.tx.size<=8:=by
 have app:∀{a b:List Td},(∀x∈a,x.tx.size<=8)->(∀x∈b,x.tx.size<=8)->∀x∈a++b,x.tx.size<=8:=fun ha hb x hx=>by
  rcases List.mem_append.1 hx with hx|hx
  ·exact ha x hx
  ·exact hb x hx
 have con:∀{y:Td}{b:List Td},y.tx.size<=8->(∀x∈b,x.tx.size<=8)->∀x∈y::b,x.tx.size<=8:=fun hy hb x hx=>by
  rcases List.mem_cons.1 hx with rfl|hx
  ·exact hy
  ·exact hb x hx
 have non:∀x∈([]:List Td),x.tx.size<=8:=fun x hx=>by cases hx
 have e0:(⟨#[]⟩:ByteArray).size<=8:=by decide
 induction h with
 | lev2 _ ih=>intro _ m ns u e;exact ih non m ns u e
 | levB=>intro _ m ns u e;cases e
 | levO _ _ _ ih1 ih2=>intro _ m ns u e;exact ih2 (ih1 non _ _ _ rfl) m ns u e
 | lopE=>intro ha m ns u e;cases e;exact ha
 | lopB=>intro _ m ns u e;cases e
 | lopO _ _ ih1 ih2=>intro ha m ns u e;exact ih2 (con e0 (app ha (ih1 non _ _ _ rfl))) m ns u e
 | sinN=>intro _ m ns u e;cases e
 | sPB=>intro _ m ns u e;cases e
 | sPC _ ih=>intro _ m ns u e;cases e;exact ih non _ _ _ rfl
 | sPX=>intro _ m ns u e;cases e
 | sLB=>intro _ m ns u e;cases e
 | sLO _ ih=>intro _ m ns u e;cases e;exact con e0 (ih non _ _ _ rfl)
 | sNum=>intro _ m ns u e;cases e;exact con e0 non
 | sName h=>intro _ m ns u e;cases e;exact con (y2i h) non
 | sCB=>intro _ m ns u e;cases e
 | sCO h _ ih=>intro _ m ns u e;cases e;exact con (y2i h) (ih non _ _ _ rfl)
 | sBad=>intro _ m ns u e;cases e
 | aEnd=>intro ha m ns u e;cases e;exact ha
 | aSep=>intro _ m ns u e;cases e
 | aB0=>intro _ m ns u e;cases e
 | aO0 _ _ _ ih1 ih2=>intro ha m ns u e;exact ih2 (app ha (ih1 non _ _ _ rfl)) m ns u e
 | aB=>intro _ m ns u e;cases e
 | aO _ _ _ ih1 ih2=>intro ha m ns u e;exact ih2 (app ha (ih1 non _ _ _ rfl)) m ns u e
set_option maxRecDepth 100000
set_option maxHeartbeats 4000000
theorem k4k(a:Addr)(n cap:Nat)(op:Int)(w:World)(hn:0<n){b o:Nat}(ha:a=⟨b,o,none⟩)(hc:w.cell? ⟨b,o,none⟩=some (.int .i64 op)):Calls prog 95 #[.slice (some a) n cap] w fun e w'=>e=.returned (.bool (op==9))/\w=w':=by
 subst ha;have hni:(0:Int)<(n:Int):=by omega
 go_in;go_wp2;go_ret;exact⟨rfl,rfl⟩
theorem k4i(ps:List (List Td))(a:Option Addr)(cap:Nat)(w:World)(_hc:ps.length<=cap)(hP:Prg w a ps)(hsz:∀t∈ps,z4e t):Calls prog 53 #[.slice a ps.length cap] w fun e w'=>e=.returned (.tuple #[.int .i64 ((q0q ps).1:Int),q0s (q0q ps).2])/\Below w w w':=by
 have HP:Hid (Prg w a ps):=hP;have HSZ:Hid (∀t∈ps,z4e t):=hsz;clear hP hsz;by_cases h20:20<(ps.length:Int)
 ·have HE:Hid (q0q ps=(0,3)):=by show q0q ps=_;rw[q0q,if_pos (by omega)]
  go_in;go_wp2;go_ret2;exact⟨by rw[HE.o];rfl,Below.refl _ _⟩
 have HF:Hid (q0q ps=q5e 0 0 ps):=by show q0q ps=_;rw[q0q,if_neg (by omega)]
 go_in;go_wp2
 go_loopw [13] (fun i wr=>Below w w wr/\∃k:Nat,k<=ps.length/\i=.int .i64 k/\q0q ps=q5e (q7m ps k) k (ps.drop k)/\∀j(h:j<ps.length),j<k->q0d ps[j]=0) (fun i _=>ps.length-(intOf i).toNat)
 case atStart=>exact⟨Below.refl _ _,0,Nat.zero_le _,rfl,HF.o,fun j _ h=>by omega⟩
 case round=>
  obtain⟨hbr,k,hk,rfl,hF,hall⟩:=hrel;have HBR:Hid (Below w w wr):=hbr;have HG:Hid (q0q ps=q5e (q7m ps k) k (ps.drop k)):=hF;have HA:Hid (∀j(h:j<ps.length),j<k->q0d ps[j]=0):=hall;clear hbr hF hall;by_cases hlt:k<ps.length
  ·obtain⟨b,o,a',c',ea,hb,c1,c2,hT⟩:=(HP.o.W HBR.o) k hlt;subst ea;have hki:(k:Int)<(ps.length:Int):=by omega
   have HTF0:Calls prog 56 #[.slice a' ps[k].length c'] wr fun e w'=>e=.returned (q0s (q0d ps[k]))/\Below wr wr w':=q7c ps[k] a' c' wr c2 hT (HSZ.o _ (List.getElem_mem hlt))
   have HA3:Hid (q0d ps[k]=0->∀j(h:j<ps.length),j<k+1->q0d ps[j]=0):=fun h0 j h hj=>by
    by_cases hjk:j=k
    ·subst hjk;exact h0
    ·exact HA.o j h (by omega)
   have HOP:Hid (q0d ps[k]=0->0<ps[k].length/\∃b1 o1,a'=some ⟨b1,o1,none⟩/\b1<wr.heap.size/\wr.cell? ⟨b1,o1,none⟩=some (.int .i64 (opT ps[k]))):=fun h0=>by
    have hpos:=k1e h0;obtain⟨b1,o1,e1,hb1,d1,_,_⟩:=hT 0 hpos;exact⟨hpos,b1,o1,e1,hb1,by rw[k0f hpos];simpa using d1⟩
   have HBAD:Hid (q0d ps[k]≠0->q0q ps=(k,q0d ps[k])):=fun h=>HG.o.trans (v1w hlt h)
   have HTWO:Hid (q0d ps[k]=0->opT ps[k]=9/\q7m ps k=9->q0q ps=(k,2)):=fun h h2=>HG.o.trans (v1x hlt h h2)
   have HNXT:Hid (q0d ps[k]=0->¬(opT ps[k]=9/\q7m ps k=9)->q0q ps=q5e (q7m ps (k+1)) (k+1) (ps.drop (k+1))):=fun h h2=>HG.o.trans (j3p hlt h h2)
   have HPREV:Hid (∀j,k=j+1->∃a1 n1 c1',wr.cell? ⟨b,o+j,none⟩=some (.slice a1 n1 c1')/\0<n1/\∃b2 o2,a1=some ⟨b2,o2,none⟩/\b2<wr.heap.size/\wr.cell? ⟨b2,o2,none⟩=some (.int .i64 (q7m ps k))):=fun j hj=>by
    have hjl:j<ps.length:=by omega
    obtain⟨bj,oj,aj,cj,ej,_,q1,_,qT⟩:=(HP.o.W HBR.o) j hjl;simp only[Option.some.injEq,Addr.mk.injEq,and_true]at ej;obtain⟨rfl,rfl⟩:=ej;have hpos:=k1e (HA.o j hjl (by omega));obtain⟨b2,o2,e2,hb2,d2,_,_⟩:=qT 0 hpos;refine⟨aj,ps[j].length,cj,q1,hpos,b2,o2,e2,hb2,?_⟩;rw[hj,z8b hjl,k0f hpos];simpa using d2
   have HTF:Hid (Calls prog 56 #[.slice a' ps[k].length c'] wr fun e w'=>e=.returned (q0s (q0d ps[k]))/\Below wr wr w'):=HTF0;clear hT HTF0 c2;generalize ps[k].length=nl at c1 HTF HOP;generalize opT ps[k]=op0 at HOP HTWO HNXT;generalize q0d ps[k]=E at HTF HA3 HOP HBAD HTWO HNXT;by_cases he:E=0
   ·subst he;obtain⟨hnl,b1,o1,rfl,hb1,d1⟩:=HOP.o rfl;have HA4:=(show Hid (_)from HA3.o rfl);have HT2:Hid (op0=9/\q7m ps k=9->q0q ps=(k,2)):=HTWO.o rfl;have HN2:Hid (¬(op0=9/\q7m ps k=9)->q0q ps=q5e (q7m ps (k+1)) (k+1) (ps.drop (k+1))):=HNXT.o rfl;clear HTWO HNXT;have hnli:(0:Int)<(nl:Int):=by omega
    have HC1:=(show Hid (_)from c1);have HD1:=(show Hid (_)from d1);clear HOP HBAD HA3 c1 d1;by_cases hk0:k=0
    ·have HN:Hid (q0q ps=q5e (q7m ps (k+1)) (k+1) (ps.drop (k+1))):=HN2.o (by simp[q7m,hk0]);have hkb:¬(0:Int)<(k:Int):=by omega
     have c1:=HC1.o;clear HT2 HN2 hk0;go_wp2_with fail;refine HTF.o.mono ?_;rintro e w2⟨rfl,b2⟩;rw[q0e];have HB2:Hid (Below w w w2):=q0c HBR.o Zl b2;clear b2 c1;go_wp2
     go_roundw
     case rel=>exact⟨HB2.o,k+1,by omega,by go_num,HN.o,HA4.o⟩
     case measure=>simp[intOf];omega
    ·obtain⟨j,rfl⟩:∃j,k=j+1:=⟨k-1,by omega⟩;obtain⟨a1,n1,c1',q1,hn1,b2,o2,rfl,hb2,d2⟩:=HPREV.o j rfl;have hcast:((j+1:Nat):Int)=(j:Int)+1:=by omega
     have hkb:(0:Int)<(j:Int)+1:=by omega
     have hji:(j:Int)<(ps.length:Int):=by omega
     have hkj:(j:Int)+1<(ps.length:Int):=by omega
     have HCK:Hid (∀W:World,Below wr wr W->W.cell? ⟨b,o+(j+1),none⟩=some (.slice (some ⟨b1,o1,none⟩) nl c')/\W.cell? ⟨b1,o1,none⟩=some (.int .i64 op0)/\W.cell? ⟨b,o+j,none⟩=some (.slice (some ⟨b2,o2,none⟩) n1 c1')/\W.cell? ⟨b2,o2,none⟩=some (.int .i64 (q7m ps (j+1)))):=fun W hW=>
      ⟨((q1c hW).1 _ _ hb).trans HC1.o,((q1c hW).1 _ _ hb1).trans HD1.o,((q1c hW).1 _ _ hb).trans q1,((q1c hW).1 _ _ hb2).trans d2⟩
     have c1:=HC1.o;generalize q7m ps (j+1)=pv at HT2 HN2 HCK;rw[hcast]at hki⊢;clear q1 d2 HPREV hcast hk0;go_wp2_with fail;refine HTF.o.mono ?_;rintro e w2⟨rfl,b2'⟩;rw[q0e];have HB2:Hid (Below w w w2):=q0c HBR.o Zl b2';obtain⟨k1,k2,k3,k4⟩:=HCK.o w2 b2';clear b2' c1;have HN1:Hid (Calls prog 95 #[.slice (some ⟨b1,o1,none⟩) nl c'] w2 fun e w'=>e=.returned (.bool (op0==9))/\w2=w'):=k4k ⟨b1,o1,none⟩ nl c' op0 w2 hnl rfl k2;have HN2':Hid (Calls prog 95 #[.slice (some ⟨b2,o2,none⟩) n1 c1'] w2 fun e w'=>e=.returned (.bool (pv==9))/\w2=w'):=k4k ⟨b2,o2,none⟩ n1 c1' pv w2 hn1 rfl k4;clear k2 k4;go_wp2_with fail;refine HN1.o.mono ?_;rintro e w3⟨rfl,rfl⟩;by_cases h9:op0=9
     ·subst h9;have hob:((9:Int)==9)=true:=rfl;rw[hob];clear hob;go_wp2_with fail;refine HN2'.o.mono ?_;rintro e w3⟨rfl,rfl⟩;by_cases h9':pv=9
      ·subst h9';have HE:Hid (q0q ps=(j+1,2)):=HT2.o (by simp);have hob:((9:Int)==9)=true:=rfl;rw[hob];clear HT2 HN2 hob;go_wp2;go_ret2;exact⟨by rw[HE.o];rfl,HB2.o⟩
      ·have HN:Hid (q0q ps=q5e (q7m ps (j+1+1)) (j+1+1) (ps.drop (j+1+1))):=HN2.o (fun h=>h9' h.2);have hpb:(pv==9)=false:=by simp[h9']
       rw[hpb];clear HT2 HN2 h9' hpb;go_wp2
       go_roundw
       case rel=>exact⟨HB2.o,j+1+1,by omega,by go_num,HN.o,HA4.o⟩
       case measure=>simp[intOf];omega
     ·have HN:Hid (q0q ps=q5e (q7m ps (j+1+1)) (j+1+1) (ps.drop (j+1+1))):=HN2.o (fun h=>h9 h.1);have hob:(op0==9)=false:=by simp[h9]
      rw[hob];clear HT2 HN2 h9 hob;go_wp2
      go_roundw
      case rel=>exact⟨HB2.o,j+1+1,by omega,by go_num,HN.o,HA4.o⟩
      case measure=>simp[intOf];omega
   ·have HE:Hid (q0q ps=(k,E)):=HBAD.o he;have HER:Hid (q0s E=.iface 22 (.int .i64 E)):=q0f he;clear HOP HBAD HA3 HTWO HNXT he;go_wp2_with fail;refine HTF.o.mono ?_;rintro e w2⟨rfl,b2⟩;rw[HER.o];have HB2:Hid (Below w w w2):=q0c HBR.o Zl b2;clear b2 c1;go_wp2;go_ret2;exact⟨by rw[HE.o,HER.o];rfl,HB2.o⟩
  ·have HE:Hid (q0q ps=(0,0)):=by
    show q0q ps=_;rw[HG.o,List.drop_eq_nil_of_le (by omega)];rfl
   have hki:¬(k:Int)<(ps.length:Int):=by omega
   go_wp2;go_ret2;exact⟨by rw[HE.o];rfl,HBR.o⟩
theorem j5j(a b:Wd):(z1t a b).length<=a.length+b.length+1:=by
 unfold z1t
 split
 ·simp only[List.length_append,List.length_cons,List.length_nil];omega
 ·simp only[List.length_append];omega
theorem k9y:∀(ws:List Wd)(t:Wd),(ws.foldl z1t t).length<=t.length+szW ws
 | [],t=>by simp[szW]
 | x::r,t=>by
  have h1:=k9y r (z1t t x);have h2:=j5j t x;rw[List.foldl_cons,q1u];omega
theorem y2x:∀s:Wd,szW (q5r s)=s.length+1
 | []=>rfl
 | c::r=>by
  have ih:=y2x r;by_cases hc:c=32
  ·subst hc;rw[q6e,q1u,ih];simp;omega
  ·cases hs:q5r r with
   | nil=>exact absurd hs (q6z r)
   | cons x y=>
    rw[q6f hc hs,q1u];rw[hs,q1u]at ih;simp only[List.length_cons];omega
theorem v0t{x:Wd}(h:x≠[]):(q5i x).length<=x.length:=by
 unfold q5i ntx;have h1:=k9y (q0j (x.drop 1)) []
 have h2:szW (q0j (x.drop 1))<=(x.drop 1).length+1:=by
  unfold q0j
  split
  ·exact Nat.zero_le _
  ·rw[y2x];exact Nat.le_refl _
 rw[List.length_drop]at h2;have h3:0<x.length:=List.length_pos_iff.2 h;simp only[List.length_nil]at h1;omega
theorem v2r{u ts:List Wd}(h:u <:+ ts):szW u<=szW ts:=by
 obtain⟨t,rfl⟩:=h;rw[k7m];omega
theorem v3o(x:Wd):(wbS x).size=x.length:=by rw[<-q0b];rfl
theorem y6o{x:Wd}(h:nmW x=true):(wbS x).size<=8:=by
 simp only[nmW,q0z,Bool.and_eq_true,decide_eq_true_eq]at h;exact h.1.1.2
theorem j9e{acc:List (List Td)}{N:Nat}(h:∀t∈acc,∀x∈t,x.tx.size<=N):(q5g acc).length<=N:=by
 unfold q5g
 split
 ·rename_i x r hx;have hm:(x::r)∈acc:=List.mem_of_getLast? hx
  have:=h _ hm x (by simp)
  rw[q0b];exact this
 ·exact Nat.zero_le _
theorem g5s{pv:Bool}{acc:List (List Td)}{ts:List Wd}{r:Rp}(h:PG pv acc ts r):∀N,8<=N->(∀t∈acc,∀x∈t,x.tx.size<=N)->∀qs,r=.ok qs->∀t∈qs,∀x∈t,x.tx.size<=N+szW ts:=by
 induction h with
 | done=>
  intro N _ hN qs e t ht x hx;cases e
  have:=hN t ht x hx
  omega
 | @note pv acc wd ts r h0 _ ih=>
  intro N h8 hN qs e t ht x hx;have hne:wd≠[]:=fun e=>by rw[e]at h0;simp at h0
  have hl:=v0t hne
  have:=ih (N+(wd.length+1)) (by omega) (fun t ht x hx=>by
   unfold k5g at ht
   split at ht
   ·rcases List.mem_append.1 ht with ht|ht
    ·have:=hN t ((List.dropLast_sublist acc).subset ht) x hx
     omega
    ·rw[List.mem_singleton]at ht;subst ht;rw[List.mem_singleton]at hx;subst hx
     show(wbS _).size<=_
     rw[v3o];have h1:=j5j (q5g acc) (q5i wd);have h2:=j9e hN;omega
   ·rcases List.mem_append.1 ht with ht|ht
    ·have:=hN t ht x hx
     omega
    ·rw[List.mem_singleton]at ht;subst ht;rw[List.mem_singleton]at hx;subst hx
     show(wbS _).size<=_
     rw[v3o]
     omega) qs e t ht x hx
  rw[q1u];omega
 | letN=>intro N _ _ qs e;cases e
 | letE=>intro N _ _ qs e;cases e
 | letB=>intro N _ _ qs e;cases e
 | letX=>intro N _ _ qs e;cases e
 | @letO pv acc nm ts m ns u r hn hpr _ ih=>
  intro N h8 hN qs e t ht x hx;have hs:=v2r (q4z hpr).1;simp only[Rs.rest]at hs;rw[q1u]at hs
  have:=ih N h8 (fun t ht x hx=>by
   rcases List.mem_append.1 ht with ht|ht
   ·exact hN t ht x hx
   ·rw[List.mem_singleton]at ht;subst ht;rcases List.mem_cons.1 hx with rfl|hx
    ·exact Nat.le_trans (y6o hn) h8
    ·exact Nat.le_trans (g2o hpr (fun x hx=>by cases hx) _ _ _ rfl x hx) h8) qs e t ht x hx
  rw[q1u,q1u,q1u];omega
 | doB=>intro N _ _ qs e;cases e
 | doX=>intro N _ _ qs e;cases e
 | @doO pv acc wd ts m ns u r h0 hl hpr _ ih=>
  intro N h8 hN qs e t ht x hx;have hs:=v2r (q4z hpr).1;simp only[Rs.rest]at hs;rw[q1u]at hs
  have:=ih N h8 (fun t ht x hx=>by
   rcases List.mem_append.1 ht with ht|ht
   ·exact hN t ht x hx
   ·rw[List.mem_singleton]at ht;subst ht;rcases List.mem_cons.1 hx with rfl|hx
    ·exact Nat.zero_le _
    ·exact Nat.le_trans (g2o hpr (fun x hx=>by cases hx) _ _ _ rfl x hx) h8) qs e t ht x hx
  omega
theorem y8f(ws:List Wd):szW ws=(ws.map List.length).sum+ws.length:=by
 induction ws with
 | nil=>rfl
 | cons x r ih=>rw[q1u,ih,List.map_cons,List.sum_cons,List.length_cons];omega
theorem q4g(s:ByteArray)(w:World)(ht:q5u w):Calls prog 20 #[.string s] w fun e w'=>z4g s w e w':=by
 have HW:Hid (Calls prog 19 #[.string s] w fun e w'=>q9x s w e w'/\Below w w w'):=k4x s w;by_cases h0:q4s (btL s)=0
 ·have hz:=q4v h0;have hfew:=z9m h0;have htot:=v3s (btL s);have HTK:Hid (∀x∈q1d (btL s),q3v x):=z6d (btL s);have HT:Hid (q5u w):=ht;have hssz:s.size<=60000:=by rw[<-q0b];exact hz.1
  have HRD:Hid (∀A P ac pc w1,q1j w (.slice A (q1d (btL s)).length ac) ((q1d (btL s)).map wbS) w1->z1w w.heap.size (.slice P (q1d (btL s)).length pc) (z8a (btL s)) w1->Below w w w1->Calls prog 52 #[.slice A (q1d (btL s)).length ac,.slice P (q1d (btL s)).length pc,.int .i64 (s.size:Int)] w1 fun e w'=>k1o (q1d (btL s)) (plE (z8a (btL s)) s.size) w.heap.size w1 e w'):=fun A P ac pc w1 h1 h2 hb=>v4l HTK.o (by omega) hfew (j1x _).symm hb.size h1 h2 (fun w' hb'=>HT.o.W (hb.trans hb'))
  have HWR:Hid (Calls prog 19 #[.string s] w fun e w'=>∃A P ac pc,e=.returned (.tuple #[.slice A (q1d (btL s)).length ac,.slice P (q1d (btL s)).length pc,.int .i64 0,.nilIface])/\(q1j w (.slice A (q1d (btL s)).length ac) ((q1d (btL s)).map wbS) w'/\z1w w.heap.size (.slice P (q1d (btL s)).length pc) (z8a (btL s)) w'/\Below w w w')):=by
   refine HW.o.mono ?_;rintro e w'⟨hr,hb⟩;rcases hr with⟨hn,_⟩|⟨_,A,P,ac,pc,rfl,h1,h2⟩
   ·exact absurd h0 hn
   ·exact⟨A,P,ac,pc,rfl,h1,h2,hb⟩
  have HTX:Hid (∀qs,PG false [] (q1d (btL s)) (.ok qs)->∀t∈qs,z4e t):=fun qs hpg t ht x hx=>by
   have h1:=g5s hpg 8 Zl (fun t ht=>by cases ht) qs rfl t ht x hx;rw[y8f]at h1;omega
  have HOB:Hid (∀u w1 w',Below w w w1->PG false [] (q1d (btL s)) (.bad u)->Below w w1 w'->z4g s w (.returned (.tuple #[.slice none 0 0,.int .i64 (plE (z8a (btL s)) s.size ((q1d (btL s)).length-u.length):Int),.iface 22 (.int .i64 5)])) w'):=fun u w1 w' hb1 hpg hb=>⟨[],_,5,none,0,rfl,q2h.bad h0 hpg,Prg.nil _ _,Nat.le_refl _,hb1.trans hb⟩
  have HOK:Hid (∀qs A c w',PG false [] (q1d (btL s)) (.ok qs)->(q0q qs).2=0->Prg w' A qs->qs.length<=c->Below w w w'->z4g s w (.returned (.tuple #[.slice A qs.length c,.int .i64 0,.nilIface])) w'):=fun qs A c w' hpg hf hP hc hb=>⟨qs,0,0,A,c,rfl,q2h.ok h0 hpg hf,hP,hc,hb⟩
  have HOF:Hid (∀qs w',PG false [] (q1d (btL s)) (.ok qs)->(q0q qs).2≠0->Below w w w'->z4g s w (.returned (.tuple #[.slice none 0 0,.int .i64 0,.iface 22 (.int .i64 (q0q qs).2)])) w'):=fun qs w' hpg hf hb=>⟨[],0,(q0q qs).2,none,0,by rw[q0f hf];rfl,q2h.full h0 hpg hf,Prg.nil _ _,Nat.le_refl _,hb⟩
  clear HW hz htot hfew ht h0 HTK HT
  generalize(q1d (btL s)).length=nl at HRD HWR
  go_in;go_wp2_with fail;refine HWR.o.mono ?_;rintro e w1⟨A,P,ac,pc,rfl,hX⟩;have HX:=(show Hid (_)from hX);have HRC:Hid (Calls prog 52 #[.slice A nl ac,.slice P nl pc,.int .i64 (s.size:Int)] w1 fun e w'=>k1o (q1d (btL s)) (plE (z8a (btL s)) s.size) w.heap.size w1 e w'):=HRD.o A P ac pc w1 hX.1 hX.2.1 hX.2.2;clear hX HWR HRD;go_wp2_with fail;refine HRC.o.mono ?_;intro e w2 hG;cases hG with
  | @bad u _ pg hb=>
   have HF:=(show Hid (_)from HOB.o u w1 w2 HX.o.2.2 pg hb);clear pg hb HRC;generalize plE (z8a (btL s)) s.size ((q1d (btL s)).length-u.length)=pp at HF⊢;go_wp2;refine bodyPost_ret (v:=.tuple #[.slice none 0 0,.int .i64 (pp:Int),.iface 22 (.int .i64 5)]) (by simp[results,Tryz.results20,go_sem]) rfl ?_;exact HF.o
  | @ok qs A2 c2 _ pg hp hc hb=>
   have hb2:Below w w w2:=HX.o.2.2.trans hb;have HA:Hid (Calls prog 53 #[.slice A2 qs.length c2] w2 fun e w'=>e=.returned (.tuple #[.int .i64 ((q0q qs).1:Int),q0s (q0q qs).2])/\Below w2 w2 w'):=k4i qs A2 c2 w2 hc hp (HTX.o qs pg);by_cases hf:(q0q qs).2=0
   ·have HF:Hid (∀w3,Below w2 w2 w3->z4g s w (.returned (.tuple #[.slice A2 qs.length c2,.int .i64 0,.nilIface])) w3):=fun w3 hb3=>HOK.o qs A2 c2 w3 pg hf (hp.W hb3) hc (q0c hb2 Zl hb3)
    rw[hf]at HA
    generalize(q0q qs).1=K at HA
    clear pg hp hc hb hb2 hf HRC;generalize qs.length=ql at HA HF⊢;go_wp2_with fail;refine HA.o.mono ?_;rintro e w3⟨rfl,b3⟩;have HF3:=(show Hid (_)from HF.o w3 b3);clear b3;rw[q0e];go_wp2;refine bodyPost_ret (v:=.tuple #[.slice A2 ql c2,.int .i64 0,.nilIface]) (by simp[results,Tryz.results20,go_sem]) rfl ?_;exact HF3.o
   ·have HF:Hid (∀w3,Below w2 w2 w3->z4g s w (.returned (.tuple #[.slice none 0 0,.int .i64 0,.iface 22 (.int .i64 (q0q qs).2)])) w3):=fun w3 hb3=>HOF.o qs w3 pg hf (q0c hb2 Zl hb3)
    have HE:Hid (q0s (q0q qs).2=.iface 22 (.int .i64 (q0q qs).2)):=q0f hf
    generalize(q0q qs).2=E at HA HE HF
    generalize(q0q qs).1=K at HA
    clear pg hp hc hb hb2 hf HRC;generalize qs.length=ql at HA⊢;go_wp2_with fail;refine HA.o.mono ?_;rintro e w3⟨rfl,b3⟩;have HF3:=(show Hid (_)from HF.o w3 b3);clear b3;rw[HE.o];go_wp2;refine bodyPost_ret (v:=.tuple #[.slice none 0 0,.int .i64 0,.iface 22 (.int .i64 E)]) (by simp[results,Tryz.results20,go_sem]) rfl ?_;exact HF3.o
 ·have HWR:Hid (Calls prog 19 #[.string s] w fun e w'=>e=.returned (.tuple #[.slice none 0 0,.slice none 0 0,.int .i64 ((k1l (btL s):Nat):Int),q0s (q4s (btL s))])/\Below w w w'):=by
   refine HW.o.mono ?_;rintro e w'⟨hr,hb⟩;rcases hr with⟨_,rfl⟩|⟨hn,_⟩
   ·exact⟨rfl,hb⟩
   ·exact absurd hn h0
  have HE:Hid (q0s (q4s (btL s))=.iface 22 (.int .i64 (q4s (btL s)))):=q0f h0;have HF:Hid (∀w',Below w w w'->z4g s w (.returned (.tuple #[.slice none 0 0,.int .i64 ((k1l (btL s):Nat):Int),.iface 22 (.int .i64 (q4s (btL s)))])) w'):=fun w' hb=>⟨[],_,_,none,0,by rw[HE.o];rfl,q2h.lex h0,Prg.nil _ _,Nat.le_refl _,hb⟩
  generalize q4s (btL s)=E at HWR HE HF
  generalize((k1l (btL s):Nat):Int)=LK at HWR HF
  clear HW h0 ht;go_in;go_wp2_with fail;refine HWR.o.mono ?_;rintro e w1⟨rfl,b1⟩;have HF1:=(show Hid (_)from HF.o w1 b1);clear b1;rw[HE.o];go_wp2;refine bodyPost_ret (v:=.tuple #[.slice none 0 0,.int .i64 LK,.iface 22 (.int .i64 E)]) (by simp[results,Tryz.results20,go_sem]) rfl ?_;exact HF1.o
end Go.Proofs.YthcpdohdppkmkaaGreatDoor
