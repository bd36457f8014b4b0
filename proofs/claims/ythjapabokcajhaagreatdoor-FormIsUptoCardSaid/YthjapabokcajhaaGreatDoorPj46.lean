/- Texts as one: TreA, SyW, SynF, TwP, TopP, PgB. -/
import Derived.Test.YthjapabokcajhaaGreatDoorPj45
import Derived.Test.YthjapabokcajhaaGreatDoorPi22
open Go.Proofs.Tryz
namespace Go.Proofs.YthjapabokcajhaaGreatDoor
open Go Go.RowKit
set_option maxRecDepth 100000
set_option maxHeartbeats 4000000
theorem k2n(a:Addr)(n cap:Nat)(op:Int)(w:World)(hn:0<n){b o:Nat}(ha:a=(b,o))(hc:w.cell? (b,o)=some ↑op):Calls prog 82 #[.slice (some a) n cap] w fun e w'=>e=.returned (.bool (op==9))/\w=w':=by
 subst ha;have hni:(0:Int)<(n:Int):=by omega
 go_in;go_wp2;go_ret;exact⟨rfl,rfl⟩
theorem j8x(ps:List (List Td))(a:Option Addr)(cap:Nat)(w:World)(_hc:ps.length<=cap)(hP:Prg w a ps)(hsz:∀t∈ps,j1b t):Calls prog 42 #[.slice a ps.length cap] w fun e w'=>e=.returned (.tuple #[↑((q1i ps).1:Int),q1y (q1i ps).2])/\Below w w w':=by
 have HP:=hid hP;have HSZ:=hid hsz;clear hP hsz;by_cases h20:20<(ps.length:Int)
 ·have HE:Hid (q1i ps=(0,3)):=by show q1i ps=_;rw[q1i,if_pos (by omega)]
  go_in;go_wp2;go_ret2;exact⟨by rw[HE.o];rfl,Below.refl _ _⟩
 have HF:Hid (q1i ps=q8a 0 0 ps):=by show q1i ps=_;rw[q1i,if_neg (by omega)]
 go_in;go_wp2
 go_loopw [13] (fun i wr=>Below w w wr/\∃k:Nat,k<=ps.length/\i=.int .i64 k/\q1i ps=q8a (q6x ps k) k (ps.drop k)/\∀j(h:j<ps.length),j<k->q0b ps[j]=0) (fun i _=>ps.length-(intOf i).toNat)
 case atStart=>exact⟨Below.refl _ _,0,Nat.zero_le _,rfl,HF.o,fun j _ h=>by omega⟩
 case round=>
  obtain⟨hbr,k,hk,rfl,hF,hall⟩:=hrel;have HBR:=hid hbr;have HG:=hid hF;have HA:=hid hall;clear hbr hF hall;by_cases hlt:k<ps.length
  ·obtain⟨b,o,a',c',ea,hb,c1,c2,hT⟩:=(HP.o.below HBR.o) k hlt;subst ea;have hki:(k:Int)<(ps.length:Int):=by omega
   have HTF0:=q7c ps[k] a' c' wr c2 hT (HSZ.o _ (List.getElem_mem hlt))
   have HA3:Hid (q0b ps[k]=0->∀j(h:j<ps.length),j<k+1->q0b ps[j]=0):=fun h0 j h hj=>by
    by_cases hjk:j=k
    ·subst hjk;exact h0
    ·exact HA.o j h (by omega)
   have HOP:Hid (q0b ps[k]=0->0<ps[k].length/\∃b1 o1,a'=some ⟨b1,o1,none⟩/\b1<wr.heap.size/\wr.cell? ⟨b1,o1,none⟩=some (.int .i64 (opT ps[k]))):=fun h0=>by
    have hpos:=z1a h0;obtain⟨b1,o1,e1,hb1,d1,_,_⟩:=hT 0 hpos;exact⟨hpos,b1,o1,e1,hb1,by rw[z4n hpos];simpa using d1⟩
   have HBAD:Hid (q0b ps[k]≠0->q1i ps=(k,q0b ps[k])):=fun h=>HG.o.trans (k2e hlt h)
   have HTWO:Hid (q0b ps[k]=0->opT ps[k]=9/\q6x ps k=9->q1i ps=(k,2)):=fun h h2=>HG.o.trans (k2f hlt h h2)
   have HNXT:Hid (q0b ps[k]=0->¬(opT ps[k]=9/\q6x ps k=9)->q1i ps=q8a (q6x ps (k+1)) (k+1) (ps.drop (k+1))):=fun h h2=>HG.o.trans (z7a hlt h h2)
   have HPREV:Hid (∀j,k=j+1->∃a1 n1 c1',wr.cell? ⟨b,o+j,none⟩=some (.slice a1 n1 c1')/\0<n1/\∃b2 o2,a1=some ⟨b2,o2,none⟩/\b2<wr.heap.size/\wr.cell? ⟨b2,o2,none⟩=some (.int .i64 (q6x ps k))):=fun j hj=>by
    have hjl:j<ps.length:=by omega
    obtain⟨bj,oj,aj,cj,ej,_,q1,_,qT⟩:=(HP.o.below HBR.o) j hjl;simp only[Option.some.injEq,Addr.mk.injEq,and_true]at ej;obtain⟨rfl,rfl⟩:=ej;have hpos:=z1a (HA.o j hjl (by omega));obtain⟨b2,o2,e2,hb2,d2,_,_⟩:=qT 0 hpos;refine⟨aj,ps[j].length,cj,q1,hpos,b2,o2,e2,hb2,?_⟩;rw[hj,z2e hjl,z4n hpos];simpa using d2
   have HTF:=hid HTF0;clear hT HTF0 c2;generalize ps[k].length=nl at c1 HTF HOP;generalize opT ps[k]=op0 at HOP HTWO HNXT;generalize q0b ps[k]=E at HTF HA3 HOP HBAD HTWO HNXT;by_cases he:E=0
   ·subst he;obtain⟨hnl,b1,o1,rfl,hb1,d1⟩:=HOP.o rfl;have HA4:=(show Hid (_)from HA3.o rfl);have HT2:=hid (HTWO.o rfl);have HN2:=hid (HNXT.o rfl);clear HTWO HNXT;have hnli:(0:Int)<(nl:Int):=by omega
    have HC1:=(show Hid (_)from c1);have HD1:=(show Hid (_)from d1);clear HOP HBAD HA3 c1 d1;by_cases hk0:k=0
    ·have HN:=hid (HN2.o (by simp[q6x,hk0]));have hkb:¬(0:Int)<(k:Int):=by omega
     have c1:=HC1.o;clear HT2 HN2 hk0;go_wp2_with fail;refine HTF.o.mono ?_;rintro e w2⟨rfl,b2⟩;rw[q1m];have HB2:=hid (q0d HBR.o Zl b2);clear b2 c1;go_wp2
     go_roundw
     case rel=>exact⟨HB2.o,k+1,by omega,by go_num,HN.o,HA4.o⟩
     case measure=>simp[intOf];omega
    ·obtain⟨j,rfl⟩:∃j,k=j+1:=⟨k-1,by omega⟩;obtain⟨a1,n1,c1',q1,hn1,b2,o2,rfl,hb2,d2⟩:=HPREV.o j rfl;have hcast:((j+1:Nat):Int)=(j:Int)+1:=by omega
     have hkb:(0:Int)<(j:Int)+1:=by omega
     have hji:(j:Int)<(ps.length:Int):=by omega
     have hkj:(j:Int)+1<(ps.length:Int):=by omega
     have HCK:Hid (∀W:World,Below wr wr W->W.cell? (b,o+(j+1))=some (.slice (some ↑(b1,o1)) nl c')/\W.cell? (b1,o1)=some ↑op0/\W.cell? (b,o+j)=some (.slice (some ↑(b2,o2)) n1 c1')/\W.cell? (b2,o2)=some ↑(q6x ps (j+1))):=fun W hW=>
      ⟨((q1v hW).1 _ _ hb).trans HC1.o,((q1v hW).1 _ _ hb1).trans HD1.o,((q1v hW).1 _ _ hb).trans q1,((q1v hW).1 _ _ hb2).trans d2⟩
     have c1:=HC1.o;generalize q6x ps (j+1)=pv at HT2 HN2 HCK;rw[hcast]at hki⊢;clear q1 d2 HPREV hcast hk0;go_wp2_with fail;refine HTF.o.mono ?_;rintro e w2⟨rfl,b2'⟩;rw[q1m];have HB2:=hid (q0d HBR.o Zl b2');obtain⟨k1,k2,k3,k4⟩:=HCK.o w2 b2';clear b2' c1;have HN1:=hid (k2n (b1,o1) nl c' op0 w2 hnl rfl k2);have HN2':=hid (k2n (b2,o2) n1 c1' pv w2 hn1 rfl k4);clear k2 k4;go_wp2_with fail;refine HN1.o.mono ?_;rintro e w3⟨rfl,rfl⟩;by_cases h9:op0=9
     ·subst h9;have hob:((9:Int)==9)=true:=rfl;rw[hob];clear hob;go_wp2_with fail;refine HN2'.o.mono ?_;rintro e w3⟨rfl,rfl⟩;by_cases h9':pv=9
      ·subst h9';have HE:=hid (HT2.o (by simp));have hob:((9:Int)==9)=true:=rfl;rw[hob];clear HT2 HN2 hob;go_wp2;go_ret2;exact⟨by rw[HE.o];rfl,HB2.o⟩
      ·have HN:=hid (HN2.o (fun h=>h9' h.2));have hpb:(pv==9)=false:=by simp[h9']
       rw[hpb];clear HT2 HN2 h9' hpb;go_wp2
       go_roundw
       case rel=>exact⟨HB2.o,j+1+1,by omega,by go_num,HN.o,HA4.o⟩
       case measure=>simp[intOf];omega
     ·have HN:=hid (HN2.o (fun h=>h9 h.1));have hob:(op0==9)=false:=by simp[h9]
      rw[hob];clear HT2 HN2 h9 hob;go_wp2
      go_roundw
      case rel=>exact⟨HB2.o,j+1+1,by omega,by go_num,HN.o,HA4.o⟩
      case measure=>simp[intOf];omega
   ·have HE:=hid (HBAD.o he);have HER:=hid (q0w he);clear HOP HBAD HA3 HTWO HNXT he;go_wp2_with fail;refine HTF.o.mono ?_;rintro e w2⟨rfl,b2⟩;rw[HER.o];have HB2:=hid (q0d HBR.o Zl b2);clear b2 c1;go_wp2;go_ret2;exact⟨by rw[HE.o,HER.o];rfl,HB2.o⟩
  ·have HE:Hid (q1i ps=(0,0)):=by
    show q1i ps=_;rw[HG.o,List.drop_eq_nil_of_le (by omega)];rfl
   have hki:¬(k:Int)<(ps.length:Int):=by omega
   go_wp2;go_ret2;exact⟨by rw[HE.o];rfl,HBR.o⟩
theorem j1m(a b:Wd):(q6l a b).length<=a.length+b.length+1:=by
 unfold q6l
 split
 ·simp only[List.length_append,List.length_cons,List.length_nil];omega
 ·simp only[List.length_append];omega
theorem k6g:∀(ws:List Wd)(t:Wd),(ws.foldl q6l t).length<=t.length+szW ws
 | [],t=>by simp[szW]
 | x::r,t=>by
  have h1:=k6g r (q6l t x);have h2:=j1m t x;rw[List.foldl_cons,q2d];omega
theorem v7w:∀s:Wd,szW (q5j s)=s.length+1
 | []=>rfl
 | c::r=>by
  have ih:=v7w r;by_cases hc:c=32
  ·subst hc;rw[q6h,q2d,ih];simp;omega
  ·cases hs:q5j r with
   | nil=>exact absurd hs (q9q r)
   | cons x y=>
    rw[q4u hc hs,q2d];rw[hs,q2d]at ih;simp only[List.length_cons];omega
theorem j7a{x:Wd}(h:x≠[]):(q0z x).length<=x.length:=by
 unfold q0z ntx;have h1:=k6g (q0e (x.drop 1)) []
 have h2:szW (q0e (x.drop 1))<=(x.drop 1).length+1:=by
  unfold q0e
  split
  ·exact Nat.zero_le _
  ·rw[v7w];exact Nat.le_refl _
 rw[List.length_drop]at h2;have h3:0<x.length:=List.length_pos_iff.2 h;simp only[List.length_nil]at h1;omega
theorem j8v{u ts:List Wd}(h:u <:+ ts):szW u<=szW ts:=by
 obtain⟨t,rfl⟩:=h;rw[k4z];omega
theorem j9q(x:Wd):(wbS x).size=x.length:=by rw[<-q0c];rfl
theorem y1f{x:Wd}(h:nmW x=true):(wbS x).size<=8:=by
 simp only[nmW,q0o,Bool.and_eq_true,decide_eq_true_eq]at h;exact h.1.1.2
theorem j4q{acc:List (List Td)}{N:Nat}(h:∀t∈acc,∀x∈t,x.tx.size<=N):(q5k acc).length<=N:=by
 unfold q5k
 split
 ·rename_i x r hx;have hm:(x::r)∈acc:=List.mem_of_getLast? hx
  have:=h _ hm x (by simp)
  rw[q0c];exact this
 ·exact Nat.zero_le _
theorem y8k{pv:Bool}{acc:List (List Td)}{ts:List Wd}{r:Rp}(h:PG pv acc ts r):∀N,8<=N->(∀t∈acc,∀x∈t,x.tx.size<=N)->∀qs,r=.ok qs->∀t∈qs,∀x∈t,x.tx.size<=N+szW ts:=by
 induction h with
 | done=>
  intro N _ hN qs e t ht x hx;cases e
  have:=hN t ht x hx
  omega
 | @note pv acc wd ts r h0 _ ih=>
  intro N h8 hN qs e t ht x hx;have hne:wd≠[]:=fun e=>by rw[e]at h0;simp at h0
  have hl:=j7a hne
  have:=ih (N+(wd.length+1)) (by omega) (fun t ht x hx=>by
   unfold k0c at ht
   split at ht
   ·rcases List.mem_append.1 ht with ht|ht
    ·have:=hN t ((List.dropLast_sublist acc).subset ht) x hx
     omega
    ·rw[List.mem_singleton]at ht;subst ht;rw[List.mem_singleton]at hx;subst hx
     show(wbS _).size<=_
     rw[j9q];have h1:=j1m (q5k acc) (q0z wd);have h2:=j4q hN;omega
   ·rcases List.mem_append.1 ht with ht|ht
    ·have:=hN t ht x hx
     omega
    ·rw[List.mem_singleton]at ht;subst ht;rw[List.mem_singleton]at hx;subst hx
     show(wbS _).size<=_
     rw[j9q]
     omega) qs e t ht x hx
  rw[q2d];omega
 | letN=>intro N _ _ qs e;cases e
 | letE=>intro N _ _ qs e;cases e
 | letB=>intro N _ _ qs e;cases e
 | letX=>intro N _ _ qs e;cases e
 | @letO pv acc nm ts m ns u r hn hpr _ ih=>
  intro N h8 hN qs e t ht x hx;have hs:=j8v (q5e hpr).1;simp only[Rs.rest]at hs;rw[q2d]at hs
  have:=ih N h8 (fun t ht x hx=>by
   rcases List.mem_append.1 ht with ht|ht
   ·exact hN t ht x hx
   ·rw[List.mem_singleton]at ht;subst ht;rcases List.mem_cons.1 hx with rfl|hx
    ·exact Nat.le_trans (y1f hn) h8
    ·exact Nat.le_trans (y1n hpr (fun x hx=>by cases hx) _ _ _ rfl x hx) h8) qs e t ht x hx
  rw[q2d,q2d,q2d];omega
 | doB=>intro N _ _ qs e;cases e
 | doX=>intro N _ _ qs e;cases e
 | @doO pv acc wd ts m ns u r h0 hl hpr _ ih=>
  intro N h8 hN qs e t ht x hx;have hs:=j8v (q5e hpr).1;simp only[Rs.rest]at hs;rw[q2d]at hs
  have:=ih N h8 (fun t ht x hx=>by
   rcases List.mem_append.1 ht with ht|ht
   ·exact hN t ht x hx
   ·rw[List.mem_singleton]at ht;subst ht;rcases List.mem_cons.1 hx with rfl|hx
    ·exact Nat.zero_le _
    ·exact Nat.le_trans (y1n hpr (fun x hx=>by cases hx) _ _ _ rfl x hx) h8) qs e t ht x hx
  omega
theorem y1u(ws:List Wd):szW ws=(ws.map List.length).sum+ws.length:=by
 induction ws with
 | nil=>rfl
 | cons x r ih=>rw[q2d,ih,List.map_cons,List.sum_cons,List.length_cons];omega
theorem k2k(s:ByteArray)(w:World)(ht:z5t w):Calls prog 14 #[.string s] w fun e w'=>z3h s w e w':=by
 have HW:Hid (Calls prog 40 #[.string s] w fun e w'=>z7u s w e w'/\Below w w w'):=v0b s w;by_cases h0:q7n (btL s)=0
 ·have hz:=z4f h0;have hfew:=j5b h0;have htot:=j9w (btL s);have HTK:Hid (∀x∈q2h (btL s),q3k x):=y2m (btL s);have HT:Hid (z5t w):=ht;have hssz:s.size<=60000:=by rw[<-q0c];exact hz.1
  have HRD:Hid (∀A P ac pc w1,q2r w (.slice A (q2h (btL s)).length ac) ((q2h (btL s)).map wbS) w1->z1i w.heap.size (.slice P (q2h (btL s)).length pc) (z2c (btL s)) w1->Below w w w1->Calls prog 41 #[.slice A (q2h (btL s)).length ac,.slice P (q2h (btL s)).length pc,.int .i64 (s.size:Int)] w1 fun e w'=>k0a (q2h (btL s)) (plE (z2c (btL s)) s.size) w.heap.size w1 e w'):=fun A P ac pc w1 h1 h2 hb=>v0m HTK.o (by omega) hfew (z2r _).symm hb.size h1 h2 (fun w' hb'=>HT.o.below (hb.trans hb'))
  have HWR:Hid (Calls prog 40 #[.string s] w fun e w'=>∃A P ac pc,e=.returned (.tuple #[.slice A (q2h (btL s)).length ac,.slice P (q2h (btL s)).length pc,.int .i64 0,.nilIface])/\(q2r w (.slice A (q2h (btL s)).length ac) ((q2h (btL s)).map wbS) w'/\z1i w.heap.size (.slice P (q2h (btL s)).length pc) (z2c (btL s)) w'/\Below w w w')):=by
   refine HW.o.mono ?_;rintro e w'⟨hr,hb⟩;rcases hr with⟨hn,_⟩|⟨_,A,P,ac,pc,rfl,h1,h2⟩
   ·exact absurd h0 hn
   ·exact⟨A,P,ac,pc,rfl,h1,h2,hb⟩
  have HTX:Hid (∀qs,PG false [] (q2h (btL s)) (.ok qs)->∀t∈qs,j1b t):=fun qs hpg t ht x hx=>by
   have h1:=y8k hpg 8 Zl (fun t ht=>by cases ht) qs rfl t ht x hx;rw[y1u]at h1;omega
  have HOB:Hid (∀u w1 w',Below w w w1->PG false [] (q2h (btL s)) (.bad u)->Below w w1 w'->z3h s w (.returned (.tuple #[.slice none 0 0,.int .i64 (plE (z2c (btL s)) s.size ((q2h (btL s)).length-u.length):Int),.iface 23 (.int .i64 5)])) w'):=fun u w1 w' hb1 hpg hb=>⟨[],_,5,none,0,rfl,q8j.bad h0 hpg,Prg.nil _ _,Nat.le_refl _,hb1.trans hb⟩
  have HOK:Hid (∀qs A c w',PG false [] (q2h (btL s)) (.ok qs)->(q1i qs).2=0->Prg w' A qs->qs.length<=c->Below w w w'->z3h s w (.returned (.tuple #[.slice A qs.length c,.int .i64 0,.nilIface])) w'):=fun qs A c w' hpg hf hP hc hb=>⟨qs,0,0,A,c,rfl,q8j.ok h0 hpg hf,hP,hc,hb⟩
  have HOF:Hid (∀qs w',PG false [] (q2h (btL s)) (.ok qs)->(q1i qs).2≠0->Below w w w'->z3h s w (.returned (.tuple #[.slice none 0 0,.int .i64 0,.iface 23 (.int .i64 (q1i qs).2)])) w'):=fun qs w' hpg hf hb=>⟨[],0,(q1i qs).2,none,0,by rw[q0w hf];rfl,q8j.full h0 hpg hf,Prg.nil _ _,Nat.le_refl _,hb⟩
  clear HW hz htot hfew ht h0 HTK HT
  generalize(q2h (btL s)).length=nl at HRD HWR
  go_in;go_wp2_with fail;refine HWR.o.mono ?_;rintro e w1⟨A,P,ac,pc,rfl,hX⟩;have HX:=(show Hid (_)from hX);have HRC:Hid (Calls prog 41 #[.slice A nl ac,.slice P nl pc,.int .i64 (s.size:Int)] w1 fun e w'=>k0a (q2h (btL s)) (plE (z2c (btL s)) s.size) w.heap.size w1 e w'):=HRD.o A P ac pc w1 hX.1 hX.2.1 hX.2.2;clear hX HWR HRD;go_wp2_with fail;refine HRC.o.mono ?_;intro e w2 hG;cases hG with
  | @bad u _ pg hb=>
   have HF:=(show Hid (_)from HOB.o u w1 w2 HX.o.2.2 pg hb);clear pg hb HRC;generalize plE (z2c (btL s)) s.size ((q2h (btL s)).length-u.length)=pp at HF⊢;go_wp2;refine bodyPost_ret (v:=.tuple #[.slice none 0 0,.int .i64 (pp:Int),.iface 23 (.int .i64 5)]) (by simp[results,Tryz.results14,go_sem]) rfl ?_;exact HF.o
  | @ok qs A2 c2 _ pg hp hc hb=>
   have hb2:Below w w w2:=HX.o.2.2.trans hb;have HA:Hid (Calls prog 42 #[.slice A2 qs.length c2] w2 fun e w'=>e=.returned (.tuple #[.int .i64 ((q1i qs).1:Int),q1y (q1i qs).2])/\Below w2 w2 w'):=j8x qs A2 c2 w2 hc hp (HTX.o qs pg);by_cases hf:(q1i qs).2=0
   ·have HF:Hid (∀w3,Below w2 w2 w3->z3h s w (.returned (.tuple #[.slice A2 qs.length c2,.int .i64 0,.nilIface])) w3):=fun w3 hb3=>HOK.o qs A2 c2 w3 pg hf (hp.below hb3) hc (q0d hb2 Zl hb3)
    rw[hf]at HA
    generalize(q1i qs).1=K at HA
    clear pg hp hc hb hb2 hf HRC;generalize qs.length=ql at HA HF⊢;go_wp2_with fail;refine HA.o.mono ?_;rintro e w3⟨rfl,b3⟩;have HF3:=(show Hid (_)from HF.o w3 b3);clear b3;rw[q1m];go_wp2;refine bodyPost_ret (v:=.tuple #[.slice A2 ql c2,.int .i64 0,.nilIface]) (by simp[results,Tryz.results14,go_sem]) rfl ?_;exact HF3.o
   ·have HF:Hid (∀w3,Below w2 w2 w3->z3h s w (.returned (.tuple #[.slice none 0 0,.int .i64 0,.iface 23 (.int .i64 (q1i qs).2)])) w3):=fun w3 hb3=>HOF.o qs w3 pg hf (q0d hb2 Zl hb3)
    have HE:Hid (q1y (q1i qs).2=.iface 23 (.int .i64 (q1i qs).2)):=q0w hf
    generalize(q1i qs).2=E at HA HE HF
    generalize(q1i qs).1=K at HA
    clear pg hp hc hb hb2 hf HRC;generalize qs.length=ql at HA⊢;go_wp2_with fail;refine HA.o.mono ?_;rintro e w3⟨rfl,b3⟩;have HF3:=(show Hid (_)from HF.o w3 b3);clear b3;rw[HE.o];go_wp2;refine bodyPost_ret (v:=.tuple #[.slice none 0 0,.int .i64 0,.iface 23 (.int .i64 E)]) (by simp[results,Tryz.results14,go_sem]) rfl ?_;exact HF3.o
 ·have HWR:Hid (Calls prog 40 #[.string s] w fun e w'=>e=.returned (.tuple #[.slice none 0 0,.slice none 0 0,.int .i64 ((z9v (btL s):Nat):Int),q1y (q7n (btL s))])/\Below w w w'):=by
   refine HW.o.mono ?_;rintro e w'⟨hr,hb⟩;rcases hr with⟨_,rfl⟩|⟨hn,_⟩
   ·exact⟨rfl,hb⟩
   ·exact absurd hn h0
  have HE:Hid (q1y (q7n (btL s))=.iface 23 (.int .i64 (q7n (btL s)))):=q0w h0;have HF:Hid (∀w',Below w w w'->z3h s w (.returned (.tuple #[.slice none 0 0,.int .i64 ((z9v (btL s):Nat):Int),.iface 23 (.int .i64 (q7n (btL s)))])) w'):=fun w' hb=>⟨[],_,_,none,0,by rw[HE.o];rfl,q8j.lex h0,Prg.nil _ _,Nat.le_refl _,hb⟩
  generalize q7n (btL s)=E at HWR HE HF
  generalize((z9v (btL s):Nat):Int)=LK at HWR HF
  clear HW h0 ht;go_in;go_wp2_with fail;refine HWR.o.mono ?_;rintro e w1⟨rfl,b1⟩;have HF1:=(show Hid (_)from HF.o w1 b1);clear b1;rw[HE.o];go_wp2;refine bodyPost_ret (v:=.tuple #[.slice none 0 0,.int .i64 LK,.iface 23 (.int .i64 E)]) (by simp[results,Tryz.results14,go_sem]) rfl ?_;exact HF1.o
theorem v5n{x:Td}(h:q0t x=0):x.tx.size<=1300:=by
 unfold q0t at h
 split at h
 ·cases h
 ·split at h
  ·cases h
  ·split at h
   ·cases h
   ·rename_i h3
    split at h
    ·exact v3l h
    ·rename_i h4
     split at h
     ·cases h
     ·rename_i h5;cases ht:q2s x.op with
      | false=>
       have:¬0<x.tx.size:=fun h6=>h3 (.inr ⟨ht,h6⟩)
       omega
      | true=>
       cases hn:q0o x.tx with
       | false=>exact absurd ⟨ht,hn⟩ h5
       | true=>
        have:=q3l hn
        rw[q0c]at this;omega
theorem j8d{ps:List (List Td)}(h:(q1i ps).2=0):∀t∈ps,∀x∈t,x.tx.size<=1300:=by
 intro t ht x hx;have h1:=k4k ps 0 (k4s h).2 t ht;exact v5n ((q3f h1).2.1 x hx)
def v7y(ts:List Tn):Nat:=(ts.map fun t=>t.tk.length+2).sum
theorem q8d(t:Tn)(r:List Tn):v7y (t::r)=t.tk.length+2+v7y r:=by simp[v7y]
theorem z7z(l:Nat)(t:Tn):(brk l t).length<=t.tk.length+2:=by
 unfold brk
 split
 ·simp
 ·omega
theorem j2r:∀ts:List Tn,(cmk ts).length<=v7y ts
 | []=>Nat.zero_le _
 | t::r=>by
  have ih:=j2r r;rw[v1p,q8d,List.length_append];cases r with
  | nil=>simp[cmt];omega
  | cons u z=>
   simp only[cmt,List.length_cons];omega
theorem j9n(f:Tn->Tn->List Wd)(hf:∀a b,(f a b).length<=a.tk.length+b.tk.length+5):∀ts:List Tn,(two2 f ts).length<=v7y ts+1
 | []=>by simp[two2]
 | [_]=>by simp[two2]
 | [a,b]=>by
  have:=hf a b
  rw[q8d,q8d]
  show(f a b).length<=_
  omega
 | _::_::_::_=>by simp[two2]
theorem y5s(x:Td)(ts:List Tn):(k2v x ts).length<=3+v7y ts:=by
 have hc:=j2r ts;unfold k2v
 split
 ·simp;omega
 ·split
  ·simp;omega
  ·split
   ·simp;omega
   ·split
    ·simp;omega
    ·split
     ·have:=j9n (fun a b=>brk 0 a++[43]::brk 1 b) (fun a b=>by
       have h1:=z7z 0 a;have h2:=z7z 1 b
       simp;omega) ts
      omega
     ·have:=j9n (fun a b=>brk 1 a++[42]::brk 2 b) (fun a b=>by
       have h1:=z7z 1 a;have h2:=z7z 2 b
       simp;omega) ts
      omega
theorem k5c:∀F:Fo,v7y F.trs<=5*F.nodes.length
 | .nil=>by simp[Fo.trs,v7y]
 | .cons x k n=>by
  have h1:=k5c k;have h2:=k5c n;have h3:=y5s x k.trs;rw[Fo.trs,q8d,Fo.nodes];simp only[y1d,List.length_cons,List.length_append];omega
theorem y5n{t:List Td}(h:q0b t=0)(h9:opT t≠9):(y2w t).length<=205:=by
 have h40:=(q3f h).1;obtain⟨x,y,k,rfl,hok,_,hk,hx⟩:=z0u h h9;rw[(v4u hok hk).2];have h1:=k5c (.cons y k .nil);rw[Fo.trs,q8d]at h1;simp only[List.length_cons]at h40
 have h2:(hdK (Fo.cons y k .nil).trs).length<=200:=by
  show(y1d y k.trs).tk.length<=200
  omega
 unfold stK
 split
 ·simp only[List.length_cons,List.length_append,List.length_nil];omega
 ·split
  ·simp only[List.length_cons,List.length_append,List.length_nil];omega
  ·simp
theorem v4m{t:List Td}(h:q0b t=0)(h9:opT t≠9){u:List Int}{r:List UInt8}(hs:(q0r t).show u=.ok r):r.length<=20000:=by
 have h1:=y3t h h9 (v4n hs);have h2:=y5n h h9;have h3:90*(y2w t).length<=90*205:=Nat.mul_le_mul_left _ h2;omega
theorem j1z{t:List Td}(h:q9a t=0)(n:Nat)(hn:n<=100)(A:Option Addr)(c:Nat)(w:World)(hc:(q8o t).length<=c)(hN:q1u w A (q8o t)):
  Calls prog 71 #[.slice A (q8o t).length c,.int .i64 (n:Int)] w fun e w'=>(∃s wa wl wc,∃q1 q2:Int,e=.returned (.tuple #[.string (wbS s),.slice wa wl wc,.agg #[.int .i64 q1,.int .i64 q2],.nilIface])/\dcL n t=s++[10]/\s.length<=20000)/\Below w w w':=by
 obtain⟨h0,h9,hd,hl⟩:=j4u h;obtain⟨e1,e2⟩:=j1q (wd:=n) (z3u h0 h9).w hd (by rw[hd];exact hl) hn;have hb:(q0r t).best n=some (bs n 0 [(0,q0r t)]):=by rw[q9y,q3i]
 obtain⟨_,b2,_⟩:=q5z hb
 have e3:bT (q8o t) (n:Int)=wbS ((q0r t).txt (bs n 0 [(0,q0r t)]).2):=by
  rw[bT,if_pos e1,e2,v2y h,b2];rfl
 refine(j1s (q8o t) (n:Int) A c hc w hN).mono ?_;rintro e w'⟨⟨wa,wc,rfl,_⟩,hbl⟩;refine⟨⟨_,wa,_,wc,_,_,by rw[e3,e1,q1m],rfl,?_⟩,hbl⟩;exact v4m h0 h9 b2
theorem j3q{tx:ByteArray}(h:q2u tx=0)(n:Nat)(h1:10<=n)(h2:n<=100)(A:Option Addr)(c:Nat)(w:World)(hc:(q0e (btL tx)).length<=c)(hW:Wds w A ((q0e (btL tx)).map wbS)):
  Calls prog 69 #[.slice A (q0e (btL tx)).length c,.int .i64 ((n:Int)-2)] w fun e w'=>(∃L c,e=.returned (.tuple #[.slice L (q1q (n-2) ((q0e (btL tx)).map wbS)).length c,.nilIface])/\q2r w (.slice L (q1q (n-2) ((q0e (btL tx)).map wbS)).length c) (q1q (n-2) ((q0e (btL tx)).map wbS)) w')/\Below w w w':=by
 have e:((n:Int)-2)=((n-2:Nat):Int):=by omega
 have e0:q6o ((q0e (btL tx)).map wbS) ((n-2:Nat):Int)=0:=by
  have hf:q1d ((q0e (btL tx)).map wbS)=0:=h;rw[q6o,if_neg (by simp[hf]),if_neg (by omega)]
 have h3:=v5w ((q0e (btL tx)).map wbS) A c (n-2) w (by rw[List.length_map];exact hc) hW e0;rw[List.length_map]at h3;rw[e];exact h3
theorem j7g:∀(ls:List ByteArray),ls≠[]->[35,32]++Lib.join (ls.map fun x=>x.data.toList) [10,35,32]++[10]=ls.flatMap ntF
 | [],h=>absurd rfl h
 | [l],_=>by simp[Lib.join_one,ntF,btL]
 | l::u::r,_=>by
  have ih:=j7g (u::r) (by simp);rw[List.flatMap_cons,<-ih];simp[Lib.join_cons,Lib.joinTail,ntF,btL]
theorem k6w{tx:ByteArray}(n:Nat)(h0:q0e (btL tx)≠[]):ntL n tx=[35,32]++Lib.join ((q1q (n-2) ((q0e (btL tx)).map wbS)).map fun x=>x.data.toList) [10,35,32]++[10]:=by
 have hne:q1q (n-2) ((q0e (btL tx)).map wbS)≠[]:=by
  rw[q3t _ (by simpa using h0)];simp
 rw[j7g _ hne,ntL,if_neg h0];rfl
end Go.Proofs.YthjapabokcajhaaGreatDoor
