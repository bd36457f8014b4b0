import Derived.Test.YthcpdohdppkmkaaGreatDoorPu26
open Go.Proofs.Tryz
namespace Go.Proofs.YthcpdohdppkmkaaGreatDoor
open Go Go.RowKit
set_option maxRecDepth 100000
set_option maxHeartbeats 4000000
theorem v4b(ds:List Nd)(ws:List Int)(a wa:Option Addr)(cap wc:Nat)(w:World)(hN:q3p w a ds)(h:q3a ds≠0):
  Calls prog 26 #[.slice a ds.length cap,.slice wa ws.length wc] w fun e w'=>e=.returned (.tuple #[.string ⟨#[]⟩,q0s (q3a ds)])/\Below w w w':=by
 have HN:Hid (q3p w a ds):=hN;have H:Hid (q3a ds≠0):=h;rw[q0f h];clear hN h;go_in;go_wp2_with fail;refine(q2z ds a cap _ HN.o).mono ?_;rintro e w2⟨rfl,hB⟩;rw[q0f H.o];go_wp2;go_ret2;exact⟨rfl,hB⟩
theorem k8w(ds:List Nd)(ws:List Int)(a wa:Option Addr)(cap wc:Nat)(w:World)(hN:q3p w a ds)(hI:z1r w wa ws)(hl:ws.length<=9223372036854775807)(h:q3a ds=0)(h1:¬q2k ws):
  Calls prog 26 #[.slice a ds.length cap,.slice wa ws.length wc] w fun e w'=>e=.returned (.tuple #[.string ⟨#[]⟩,q0s 1])/\Below w w w':=by
 have HN:Hid (q3p w a ds):=hN;have HI:Hid (z1r w wa ws):=hI;have H:Hid (q3a ds=0):=h;have H1:Hid (¬q2k ws):=h1;rw[z7f];clear hN hI h h1;go_in;go_wp2_with fail;refine(q2z ds a cap _ HN.o).mono ?_;rintro e w2⟨rfl,hB⟩;rw[H.o,q0e];have HI2:Hid (z1r w2 wa ws):=HI.o.W hB;go_wp2_with fail;refine(y9u ws wa wc _ HI2.o hl H1.o).mono ?_;rintro e w3⟨rfl,rfl⟩;go_wp2;go_ret2;exact⟨rfl,hB⟩
theorem y0q(ds:List Nd)(t:Tr)(hd:ds=t.N)(ht:t.Wf)(ws:List Int)(a wa:Option Addr)(cap wc:Nat)(hc:ds.length<=cap)(hwc:ws.length<=wc)(w:World)(hN:q3p w a ds)(hI:z1r w wa ws)(hl:ws.length<=9223372036854775807)(h:q3a ds=0)(h1:q2k ws):
  Calls prog 26 #[.slice a ds.length cap,.slice wa ws.length wc] w fun e w'=>e=.returned (.tuple #[.string (shS (t.show ws)),q0s (shE (t.show ws))])/\Below w w w':=by
 have HN:Hid (q3p w a ds):=hN;have HI:Hid (z1r w wa ws):=hI;have H:Hid (q3a ds=0):=h;have H1:Hid (q2k ws):=h1;have HT:Hid (t.Wf):=ht;have HD:Hid (ds=t.N):=hd;obtain⟨h4,_,_⟩:=q4c h;have HS:Hid (t.show ws=match t.lay 0 ws with| .error e=>.error e| .ok (s,[])=>.ok s| .ok (_,_::_)=>.error 2):=v9n h1;have H0:Hid (ds≠[]):=(show ds≠[] by have:=t.pos;rw[<-hd]at this;exact List.length_pos_iff.1 this);clear hN hI h h1 ht hd;go_in;go_wp2_with fail;refine(q2z ds a cap _ HN.o).mono ?_;rintro e w2⟨rfl,hB⟩;rw[H.o,q0e];have HB:Hid (Below w w w2):=hB;have HI2:Hid (z1r w2 wa ws):=HI.o.W hB;obtain⟨s,hs,hns⟩:=(HN.o.W hB).s H0.o;have HN2:Hid (q0x s w2 a ds):=hns;clear hB hns;go_wp2_with fail;refine(g4y ws wa wc _ HI2.o hl H1.o).mono ?_;rintro e w3⟨rfl,rfl⟩;go_wp2_with fail;refine(k6u ds a cap s _ H.o HN2.o hs).mono ?_;rintro e w3⟨⟨be,bf,rfl,hbe,hbf,hkn⟩,hB3⟩;have HB3:Hid (Below w w w3):=q0c HB.o Zl hB3;have HB23:Hid (Below w2 w2 w3):=hB3;have HN3:Hid (q0x s w3 a ds):=HN2.o.kept (hB3.block s hs);have HI3:Hid (z1r w3 wa ws):=HI2.o.W hB3;have HK3:Hid (q8y w3 be bf ds 0):=hkn;have hs3:s<w3.heap.size:=Nat.lt_of_lt_of_le hs hB3.size
 have HL:Hid (∀O,O=Obj.cells #[.slice a ds.length cap,.slice (some ⟨be,0,none⟩) ds.length ds.length,.slice (some ⟨bf,0,none⟩) ds.length ds.length,.pointer none,.slice none 0 0,.slice wa ws.length wc] 136->
   Calls prog 70 #[.pointer (some ⟨w3,0,none⟩),.int .i64 0,.int .i64 0] (w3.alloc O) fun e w'=>k1p w3.heap.size w3.heap.size (q6v be bf ds.length cap a) (t.lay 0 ws) [] e w'/\Below w3 w3 w'):=by
  intro O hO;have hA:Below w3 w3 (w3.alloc O):= Zb.alloc Zl _;refine(q7g w3.heap.size w3.heap.size s be bf ⟨hs3,hbe,hbf⟩ Zl ds a cap h4 hc t HT.o 0 [] 0 ws wa wc [] (w3.alloc O) (by rw[HD.o];simp) ⟨HN3.o.kept (hA.block s hs3),HK3.o.kept (hA.block be hbe) (hA.block bf hbf)⟩ (q2x.W HI3.o hA) H1.o hwc ?_ (by rw[<-HD.o];omega) (by rw[<-HD.o];simp;omega)).mono ?_
  ·subst hO;exact IsO.unused 136 w3.heap.size w3.heap.size _ (q6v be bf ds.length cap a) [.slice wa ws.length wc] (heap_alloc_new w3 _)
  ·rintro e w'⟨h1,h2⟩;exact⟨h1,hA.trans h2⟩
 clear hkn hB3;go_wp2_with fail;refine(HL.o _ rfl).mono ?_;rintro e w4⟨hl4,hb4⟩;have HB4:Hid (Below w w w4):=q0c HB3.o Zl hb4;clear hb4;cases hlay:t.lay 0 ws with
 | error er=>
  rw[hlay]at hl4;have hS:=HS.o;rw[hlay]at hS;have HRE:Hid (t.show ws=.error er):=hS;obtain⟨hne,rfl⟩:=hl4;have HNE:Hid (er≠0):=hne;rw[q0f hne];clear hne hlay hS;go_wp2;go_ret2;refine⟨?_,HB4.o⟩;rw[HRE.o];show _=Ending.returned (.tuple #[.string ⟨#[]⟩,q0s er]);rw[q0f HNE.o];rfl
 | ok p=>
  obtain⟨u,r⟩:=p;rw[hlay]at hl4;have hS:=HS.o;rw[hlay]at hS;obtain⟨rfl,wa4,wc4,hw4,_,_⟩:=hl4;have HW4:Hid (WS w3.heap.size w3.heap.size (q6v be bf ds.length cap a) ([]++u) (.slice wa4 r.length wc4) w4):=hw4;have g5:=hw4.c5;cases r with
  | nil=>
   have HRE:Hid (t.show ws=.ok u):=hS;simp only[List.length_nil]at g5;clear hlay hS hw4;go_wp2_with fail;refine(v8p 136 w3.heap.size w3.heap.size 3 (q6v be bf ds.length cap a) ([]++u) _ _ rfl HW4.o).mono ?_;rintro e w5⟨rfl,hb5⟩;go_wp2;go_ret2;refine⟨?_,HB4.o.trans (hb5.mono HB3.o.size)⟩;rw[HRE.o];rfl
  | cons c r=>
   have HRE:Hid (t.show ws=.error 2):=hS;simp only[List.length_cons]at g5;have g0:(0:Int)<(r.length:Int)+1:=by omega
   clear hlay hS hw4;go_wp2;go_ret2;refine⟨?_,HB4.o⟩;rw[HRE.o];rfl
theorem k4y(ds:List Nd)(ws:List Int)(a wa:Option Addr)(cap wc:Nat)(hc:ds.length<=cap)(hwc:ws.length<=wc)(hl:ws.length<=9223372036854775807)(w:World)(hN:q3p w a ds)(hI:z1r w wa ws):
  Calls prog 26 #[.slice a ds.length cap,.slice wa ws.length wc] w fun e w'=>e=.returned (.tuple #[.string (shS (q6c ds ws)),q0s (shE (q6c ds ws))])/\Below w w w':=by
 by_cases h:q3a ds=0
 ·obtain⟨h4,_,_⟩:=q4c h;rw[z2u (q7q h) (q3b h) h4];by_cases h1:q2k ws
  ·exact y0q ds _ (q3b h) (q7q h) ws a wa cap wc hc hwc w hN hI hl h h1
  ·have e:(v6a ds h).show ws=.error 1:=by
    unfold Tr.show;rw[if_neg (fun hh=>h1 (j2b.1 hh))]
   rw[e];exact k8w ds ws a wa cap wc w hN hI hl h h1
 ·rw[k4c h];exact v4b ds ws a wa cap wc w hN h
theorem j6h(ds:List Nd)(ws:List Int)(a wa:Option Addr)(cap wc:Nat)(hc:ds.length<=cap)(hwc:ws.length<=wc)(hl:ws.length<=9223372036854775807)(w:World)(hN:q3p w a ds)(hI:z1r w wa ws):
  Calls prog 65 #[.slice a ds.length cap,.slice wa ws.length wc] w fun e w'=>e=.returned (.string (shS (q6c ds ws)))/\Below w w w':=by
 have HC:Hid (Calls prog 26 #[.slice a ds.length cap,.slice wa ws.length wc] w fun e w'=>e=.returned (.tuple #[.string (shS (q6c ds ws)),q0s (shE (q6c ds ws))])/\Below w w w'):=k4y ds ws a wa cap wc hc hwc hl w hN hI;clear hN hI hc hwc hl;generalize shS (q6c ds ws)=s at *;generalize q0s (shE (q6c ds ws))=v at *;go_in;go_wp2_with fail;refine HC.o.mono ?_;rintro e w2⟨rfl,hb⟩;go_wp2;go_ret;exact⟨rfl,hb⟩
def bE(ds:List Nd)(wd:Int):Int:=if q3a ds=0 then(if wd<0\/100<wd then 1 else 0)else q3a ds
open Classical in
noncomputable def bA(ds:List Nd)(wd:Int):Crs:=if h:q3a ds=0 then(if wd<0\/100<wd then((0,0),[])else bs wd.toNat 0 [(0,v6a ds h)])else((0,0),[])
noncomputable def bT(ds:List Nd)(wd:Int):ByteArray:=if bE ds wd=0 then shS (q6c ds (bA ds wd).2)else⟨#[]⟩
theorem j5n{ds:List Nd}{wd:Int}(h:bE ds wd≠0):bA ds wd=((0,0),[]):=by
 unfold bE at h;unfold bA
 split
 ·rename_i h0;rw[if_pos h0]at h
  split at h
  ·rename_i h1;rw[if_pos h1]
  ·exact absurd rfl h
 ·rfl
theorem z4l{ds:List Nd}{wd:Nat}{t:Tr}(ht:t.Wf)(e:ds=t.N)(hl:ds.length<=400)(hw:wd<=100):bE ds wd=0/\bA ds wd=bs wd 0 [(0,t)]:=by
 have h:q3a ds=0:=by rw[e];exact z1k ht (by rw[<-e];exact hl)
 have hn:¬((wd:Int)<0\/(100:Int)<wd):=by omega
 refine⟨by rw[bE,if_pos h,if_neg hn],?_⟩;rw[bA,dif_pos h,if_neg hn,z8y h ht e,Int.toNat_natCast]
theorem y8o{t:Tr}(ht:t.Wf)(wd:Nat):vv (q0a t) wd 0 0=bs wd 0 [(0,t)]:=by rw[vv,(k0l ht).kont]
theorem v9d{w:World}{B B' e size n:Nat}{v:Value}{xs:List Value}(h:w.ownsRow B e size v n xs)(hB:B'<=B):w.ownsRow B' e size v n xs:=by
 refine⟨h.1,?_⟩;rcases h.2 with h0|⟨g,c,cur,rfl,hb,rest⟩
 ·exact .inl h0
 ·exact .inr ⟨g,c,cur,rfl,Nat.le_trans hB hb,rest⟩
theorem v1l(w:World)(B:Nat):w.ownsRow B 3 1 (.slice none 0 0) 0 (q0w []):=⟨rfl,.inl ⟨rfl,rfl⟩⟩
def z8k(ds:List Nd)(wd:Int)(w:World)(e:Ending)(w':World):Prop:=
 (∃wa wc,e=.returned (.tuple #[.string (bT ds wd),.slice wa (bA ds wd).2.length wc,.agg #[.int .i64 (bA ds wd).1.1,.int .i64 (bA ds wd).1.2],q0s (bE ds wd)])/\w'.ownsRow w.heap.size 3 1 (.slice wa (bA ds wd).2.length wc) (bA ds wd).2.length (q0w (bA ds wd).2))/\Below w w w'
theorem v5h(ds:List Nd)(wd:Int)(a:Option Addr)(cap:Nat)(w:World)(hN:q3p w a ds)(h:q3a ds≠0):
  Calls prog 24 #[.slice a ds.length cap,.int .i64 wd] w fun e w'=>z8k ds wd w e w':=by
 have e0:bE ds wd=q3a ds:=by rw[bE,if_neg h]
 have e1:=j5n (ds:=ds) (wd:=wd) (by rw[e0];exact h);have e2:bT ds wd=⟨#[]⟩:=by rw[bT,if_neg (by rw[e0];exact h)]
 have HN:Hid (∀O,q3p (w.alloc O) a ds):=fun O=>hN.W ((Below.refl _ w).alloc Zl O)
 have H:Hid (q3a ds≠0):=h;unfold z8k;rw[e0,e1,e2,q0f h];clear hN h e0 e1 e2;go_in;go_wp2_with fail;refine(q2z ds a cap _ (HN.o _)).mono ?_;rintro e w2⟨rfl,hB⟩;rw[q0f H.o];obtain⟨hcl,hfr⟩:=q1c hB;have k0:w2.cell? ⟨w,0,none⟩=some (.int .i64 0):=(hcl _ _ (by simp)).trans (by simp[go_sem]);have k1:w2.cell? ⟨w,1,none⟩=some (.int .i64 0):=(hcl _ _ (by simp)).trans (by simp[go_sem]);have f0:w2.frozen? ⟨w,0,none⟩=false:=(hfr _ _ (by simp)).trans (by simp[go_sem]);have f1:w2.frozen? ⟨w,1,none⟩=false:=(hfr _ _ (by simp)).trans (by simp[go_sem]);have hB2:Below w w w2:=((Below.refl _ w).alloc Zl _).trans (hB.mono (by simp));clear hcl hfr hB;go_wp2;refine bodyPost_ret (v:=.tuple #[.string ⟨#[]⟩,.slice none 0 0,.agg #[.int .i64 0,.int .i64 0],.iface 22 (.int .i64 (q3a ds))]) (by simp[results,Tryz.results24,go_sem,k0,k1]) rfl ?_;exact⟨⟨none,0,rfl,v1l _ _⟩,(hB2.setCell (p:=⟨w,0,none⟩) Zl _).setCell (p:=⟨w,1,none⟩) Zl _⟩
theorem j2c(ds:List Nd)(wd:Int)(a:Option Addr)(cap:Nat)(w:World)(hN:q3p w a ds)(h:q3a ds=0)(hw:wd<0\/100<wd):
  Calls prog 24 #[.slice a ds.length cap,.int .i64 wd] w fun e w'=>z8k ds wd w e w':=by
 have e0:bE ds wd=1:=by rw[bE,if_pos h,if_pos hw]
 have e1:=j5n (ds:=ds) (wd:=wd) (by rw[e0];decide);have e2:bT ds wd=⟨#[]⟩:=by rw[bT,if_neg (by rw[e0];decide)]
 have HN:Hid (∀O,q3p (w.alloc O) a ds):=fun O=>hN.W ((Below.refl _ w).alloc Zl O)
 have H:Hid (q3a ds=0):=h;unfold z8k;rw[e0,e1,e2,z7f];clear hN h e0 e1 e2;rcases hw with hw|hw
 case' inr=>have hw':¬wd<0:=by omega
 all_goals
  go_in;go_wp2_with fail;refine(q2z ds a cap _ (HN.o _)).mono ?_;rintro e w2⟨rfl,hB⟩;rw[H.o,q0e];obtain⟨hcl,hfr⟩:=q1c hB;have k0:w2.cell? ⟨w,0,none⟩=some (.int .i64 0):=(hcl _ _ (by simp)).trans (by simp[go_sem]);have k1:w2.cell? ⟨w,1,none⟩=some (.int .i64 0):=(hcl _ _ (by simp)).trans (by simp[go_sem]);have f0:w2.frozen? ⟨w,0,none⟩=false:=(hfr _ _ (by simp)).trans (by simp[go_sem]);have f1:w2.frozen? ⟨w,1,none⟩=false:=(hfr _ _ (by simp)).trans (by simp[go_sem]);have hB2:Below w w w2:=((Below.refl _ w).alloc Zl _).trans (hB.mono (by simp));clear hcl hfr hB;go_wp2;refine bodyPost_ret (v:=.tuple #[.string ⟨#[]⟩,.slice none 0 0,.agg #[.int .i64 0,.int .i64 0],.iface 22 (.int .i64 1)]) (by simp[results,Tryz.results24,go_sem,k0,k1]) rfl ?_;exact⟨⟨none,0,rfl,v1l _ _⟩,(hB2.setCell (p:=⟨w,0,none⟩) Zl _).setCell (p:=⟨w,1,none⟩) Zl _⟩
theorem y3w(ds:List Nd)(t:Tr)(hd:ds=t.N)(ht:t.Wf)(hl:ds.length<=400)(wd:Nat)(hw:wd<=100)(a:Option Addr)(cap:Nat)(hc:ds.length<=cap)(w:World)(hN:q3p w a ds):
  Calls prog 24 #[.slice a ds.length cap,.int .i64 wd] w fun e w'=>z8k ds wd w e w':=by
 obtain⟨e0,e1⟩:=z4l ht hd hl hw;have hvv:=y8o ht wd;have e2:bT ds wd=shS (q6c ds (vv (q0a t) wd 0 0).2):=by rw[bT,if_pos e0,e1,hvv]
 have HR:Hid (z8k ds wd w=fun e w'=>(∃wa wc,e=.returned (.tuple #[.string (shS (q6c ds (vv (q0a t) wd 0 0).2)),.slice wa (vv (q0a t) wd 0 0).2.length wc,.agg #[.int .i64 (crs (q0a t) wd 0 0).o,.int .i64 (crs (q0a t) wd 0 0).l],.nilIface])/\w'.ownsRow w.heap.size 3 1 (.slice wa (vv (q0a t) wd 0 0).2.length wc) (vv (q0a t) wd 0 0).2.length (q0w (vv (q0a t) wd 0 0).2))/\Below w w w'):=by
  show z8k ds wd w=_;have h3:=(j7d (wd:=wd) (c:=0) (k0l ht) (Nat.zero_le _)).1
  funext e w'
  unfold z8k;rw[e0,e1,e2,q0e,<-hvv];have h4:((vv (q0a t) wd 0 0).1.1:Int)=(crs (q0a t) wd 0 0).o:=by rw[h3]
  have h5:((vv (q0a t) wd 0 0).1.2:Int)=(crs (q0a t) wd 0 0).l:=by rw[h3]
  rw[h4,h5]
 rw[HR.o];have hR0:0<(q0a t).length:=by rw[q2u];exact t.pos
 have hRl:(q0a t).length=ds.length:=by rw[q2u,hd];rfl
 have h0:q3a ds=0:=by rw[hd];exact z1k ht (by rw[<-hd];exact hl)
 have hsz:t.sz<=400:=by unfold Tr.sz;rw[<-hd];exact hl
 have hne:ds≠[]:=by rw[hd];have:=t.pos;exact List.length_pos_iff.1 this
 have HN:Hid (q3p w a ds):=hN;have H0:Hid (q3a ds=0):=h0;have HSK:Hid (∀sb g mb,j5f sb g mb wd (q0a t) 0 0):=fun sb g mb=>v9i sb g mb ht hsz hw (q0a t).length 0 0 (by omega) (Nat.zero_le _) (Nat.zero_le _)
 have HCH:Hid (∀sb g mb(W:World)S,Inv sb g mb wd (q0a t) W S->S 0 0=true->Calls prog 64 #[.pointer (some ⟨sb,0,none⟩)] W fun e w'=>(∃a cap,e=.returned (.slice a (vv (q0a t) wd 0 0).2.length cap)/\w'.ownsRow W.heap.size 3 1 (.slice a (vv (q0a t) wd 0 0).2.length cap) (vv (q0a t) wd 0 0).2.length (q0w (vv (q0a t) wd 0 0).2))/\Below W W w'):=fun sb g mb W S hI hS=>k1t sb g mb ht hsz hw W S hI hS
 have HD:Hid (ds=t.N):=hd;have HRL:Hid ((q0a t).length=ds.length):=hRl
 have HWL:Hid ((vv (q0a t) wd 0 0).2.length<=9223372036854775807):=by
  show(vv (q0a t) wd 0 0).2.length<=_
  obtain⟨a',ha⟩:=j5x t wd;have hb:=q6m t wd;rw[q2i,<-hvv]at hb;have h1:=(q3t hb).1;have h2:=q8d t _ h1;rw[<-hd]at h2;omega
 have HPN:Hid (∀(s:Nat)(W:World),q0x s W a ds->s<W.heap.size->Calls prog 62 #[.slice a ds.length cap,.int .i64 wd] W fun e w'=>e=.returned (.agg #[.slice (some ⟨W.heap.size+1,0,none⟩) ds.length ds.length,.int .i64 wd])/\PwR w' (W.heap.size+1) ds.length (fun j=>q2 (q1g (q0a t) j))/\Below W W w'):=fun s W h1 h2=>k1v ds t HD.o ht hl a cap s wd hc W h1 h2
 have hmm:=@run_makeMap prog;have hw0:¬(wd:Int)<0:=by omega
 have hw1:¬(100:Int)<(wd:Int):=by omega
 clear hN h0 hd hRl e0 e1 e2 hvv HR;go_in;go_wp2_with fail;refine(q2z ds a cap _ (HN.o.W ((Below.refl _ w).alloc Zl _))).mono ?_;rintro e w2⟨rfl,hB⟩;rw[H0.o,q0e];have hr2:z4i w2 w.heap.size:=z4i.kept ⟨_,_,heap_alloc_new w (.cells #[.int .i64 0,.int .i64 0] 57)⟩ (hB.block _ (by simp));have k0:w2.cell? ⟨w,0,none⟩=some (.int .i64 0):=((q1c hB).1 _ _ (by simp)).trans (by simp[go_sem]);have k1:w2.cell? ⟨w,1,none⟩=some (.int .i64 0):=((q1c hB).1 _ _ (by simp)).trans (by simp[go_sem]);have HB2:Hid (Below w w w2):=((Below.refl _ w).alloc Zl _).trans (hB.mono (by simp));have hs2:w.heap.size<w2.heap.size:=by have:=hB.size;simp at this;omega
 have HK2:Hid (w2.cell? ⟨w,0,none⟩=some (.int .i64 0)/\w2.cell? ⟨w,1,none⟩=some (.int .i64 0)/\z4i w2 w.heap.size):=⟨k0,k1,hr2⟩;clear hr2 k0 k1 hB;obtain⟨s,hs,hns⟩:=(HN.o.W HB2.o).s hne;have HNS:Hid (q0x s w2 a ds):=hns;clear hns;go_wp2_with fail;refine(HPN.o s w2 HNS.o hs).mono ?_;rintro e w3⟨rfl,hpr,hb3⟩;have HB3:Hid (Below w w w3):=HB2.o.trans (hb3.mono HB2.o.size);have hs3:=hb3.size;have hg3:w2.heap.size+1<w3.heap.size:=hpr.row.lt;have HK3:Hid (w3.cell? ⟨w,0,none⟩=some (.int .i64 0)/\w3.cell? ⟨w,1,none⟩=some (.int .i64 0)/\z4i w3 w.heap.size):=⟨(hb3.cell (p:=⟨w,0,none⟩) hs2).trans HK2.o.1,(hb3.cell (p:=⟨w,1,none⟩) hs2).trans HK2.o.2.1,HK2.o.2.2.kept (hb3.block _ hs2)⟩
 have HI4:Hid (Inv (w3.heap.size+1) (w2.heap.size+1) w3.heap.size wd (q0a t) ((w3.alloc (.map #[] 0)).alloc (.cells #[.slice (some ⟨w2.heap.size+1,0,none⟩) ds.length ds.length,.int .i64 wd,.map (some w3.heap.size)] 119)) (fun _ _=>false)):=by
  refine⟨⟨?_,?_,?_⟩,?_,?_,fun p c h=>by cases h⟩
  ·rw[HRL.o];simp[go_sem]
  ·simp[go_sem]
  ·rw[HRL.o];exact hpr.kept ((Below.heap_alloc _ _ _ (by simp;omega)).trans (Below.heap_alloc _ _ _ hg3))
  ·simp[go_sem]
  ·exact(Mem.made w3 _).kept (Below.heap_alloc _ _ _ (by simp))
 have HSE:Hid (∀W S,Inv (w3.heap.size+1) (w2.heap.size+1) w3.heap.size wd (q0a t) W S->Calls prog 63 #[.pointer (some ⟨w3.heap.size+1,0,none⟩),.agg #[.int .i64 0,.int .i64 0]] W fun e w'=>e=.returned (.agg #[.int .i64 (crs (q0a t) wd 0 0).o,.int .i64 (crs (q0a t) wd 0 0).l,.int .i64 (crs (q0a t) wd 0 0).ch,.int .i64 (crs (q0a t) wd 0 0).np,.int .i64 (crs (q0a t) wd 0 0).nc])/\Left (w3.heap.size+1) (w2.heap.size+1) w3.heap.size wd (q0a t) S 0 0 0 W w'):=fun W S h=>by
  have:=HSK.o _ _ _ W S h
  rw[if_pos hR0]at this;exact this
 clear hpr hb3;go_wp2_with fail;refine(HSE.o _ _ HI4.o).mono ?_;rintro e w5⟨rfl,hbx,S',hI,_,_,hin⟩;have hsz4:((w3.alloc (.map #[] 0)).alloc (.cells #[.slice (some ⟨w2.heap.size+1,0,none⟩) ds.length ds.length,.int .i64 wd,.map (some w3.heap.size)] 119)).heap.size=w3.heap.size+1+1:=by simp
 have hs5:=hbx.size;rw[hsz4]at hs5;have hB4:Below w w ((w3.alloc (.map #[] 0)).alloc (.cells #[.slice (some ⟨w2.heap.size+1,0,none⟩) ds.length ds.length,.int .i64 wd,.map (some w3.heap.size)] 119)):=j5q (j5q HB3.o _) _;have HB5:Hid (Below w w w5):=hB4.trans ((hbx.mono (B':=w.heap.size) (by rw[hsz4];omega)).W (by omega))
 have HK5:Hid (w5.cell? ⟨w,0,none⟩=some (.int .i64 0)/\w5.cell? ⟨w,1,none⟩=some (.int .i64 0)/\z4i w5 w.heap.size):=
  ⟨(hbx.cell (p:=⟨w,0,none⟩) (by rw[hsz4];simp;omega) (by simp;omega)).trans (ka (ka HK3.o.1 _) _),(hbx.cell (p:=⟨w,1,none⟩) (by rw[hsz4];simp;omega) (by simp;omega)).trans (ka (ka HK3.o.2.1 _) _),HK3.o.2.2.kept ((hbx.block _ (by rw[hsz4];omega) (by omega)).trans ((Below.heap_alloc _ _ _ (by simp;omega)).trans (Below.heap_alloc _ _ _ (by omega))))⟩
 have HI5:Hid (Inv (w3.heap.size+1) (w2.heap.size+1) w3.heap.size wd (q0a t) w5 S'/\S' 0 0=true):=⟨hI,hin hR0⟩;clear hbx hI hin hB4 hsz4 HI4 HSE HSK HPN HB3 HK3 HK2;generalize hkk:crs (q0a t) wd 0 0=k at *;have HKE:Hid (crs (q0a t) wd 0 0=k):=hkk;clear hkk;go_wp2_with fail;refine(HCH.o _ _ _ _ _ (HI5.o.1.alloc _) HI5.o.2).mono ?_;rintro e w6⟨⟨wa,wc,rfl,hown6⟩,hb6⟩;obtain⟨_,_,hwc,hIw,_⟩:=v8v hown6;have hB6:Below w w w6:=(j5q HB5.o _).trans (hb6.mono (by have:=HB5.o.size;simp;omega));have HB6:Hid (Below w w w6):=hB6;have hlt6:w5.heap.size<w6.heap.size:=by have:=hb6.size;simp at this;omega
 have hw5:=HB5.o.size
 have HK6:Hid (w6.cell? ⟨w,0,none⟩=some (.int .i64 0)/\w6.cell? ⟨w,1,none⟩=some (.int .i64 0)/\z4i w6 w.heap.size):=
  ⟨(hb6.cell (p:=⟨w,0,none⟩) (by simp;omega)).trans (ka HK5.o.1 _),(hb6.cell (p:=⟨w,1,none⟩) (by simp;omega)).trans (ka HK5.o.2.1 _),HK5.o.2.2.kept ((hb6.block _ (by simp;omega)).trans (Below.heap_alloc _ _ _ (by omega)))⟩
 have u0:w6.drew.cell? ⟨w5,0,none⟩=some (.int .i64 k.o):=(hb6.cell (p:=⟨w5,0,none⟩) (by simp)).trans (by simp[go_sem]);have u1:w6.drew.cell? ⟨w5,1,none⟩=some (.int .i64 k.l):=(hb6.cell (p:=⟨w5,1,none⟩) (by simp)).trans (by simp[go_sem])
 have HSH:Hid (Calls prog 65 #[.slice a ds.length cap,.slice wa (vv (q0a t) wd 0 0).2.length wc] w6.drew fun e w'=>e=.returned (.string (shS (q6c ds (vv (q0a t) wd 0 0).2)))/\Below w6.drew.heap.size w6.drew w'):=
  j6h ds (vv (q0a t) wd 0 0).2 a wa cap wc hc hwc HWL.o w6.drew (HN.o.W hB6.drew) (z1r.W hIw (Below.refl _ w6).drew)
 have HOW:Hid (∀W:World,(∀b,w5.heap.size<=b->b<w6.heap.size->W.heap[b]?=w6.heap[b]?)->W.ownsRow w.heap.size 3 1 (.slice wa (vv (q0a t) wd 0 0).2.length wc) (vv (q0a t) wd 0 0).2.length (q0w (vv (q0a t) wd 0 0).2)):=fun W hW=>by
  have h1:=z1c (w':=W) hown6 fun b hb=>hW b (by have:=y2r hown6 hb;simp at this;omega) (z1d hown6 hb).1
  exact v9d h1 (by simp;omega)
 have HL5:Hid (w.heap.size<w5.heap.size):=(show w.heap.size<w5.heap.size by omega);clear hown6 hIw hB6 hb6 HCH HI5 HK5;generalize hus:(vv (q0a t) wd 0 0).2=us at *;generalize htx:shS (q6c ds us)=tx at *;have HUS:Hid ((vv (q0a t) wd 0 0).2=us/\shS (q6c ds us)=tx):=⟨hus,htx⟩;clear hus htx;go_wp2_with fail
 go_region_held3 (fun w'=>w'.cell? ⟨w5,0,none⟩=some (.int .i64 k.o)/\w'.cell? ⟨w5,1,none⟩=some (.int .i64 k.l))
  (first|with_reducible exact⟨u0,u1⟩|with_reducible exact⟨u07,u17⟩|with_reducible exact⟨(cso (.inl (Nat.ne_of_lt HL5.o))).trans ((cso (.inl (Nat.ne_of_lt HL5.o))).trans u07),(cso (.inl (Nat.ne_of_lt HL5.o))).trans ((cso (.inl (Nat.ne_of_lt HL5.o))).trans u17)⟩)
  ((go_at_call 65;refine HSH.o.mono ?_;rintro e w7⟨rfl,hb7⟩;have u07:=(hb7.cell (p:=⟨w5,0,none⟩) hlt6).trans u0;have u17:=(hb7.cell (p:=⟨w5,1,none⟩) hlt6).trans u1;have k0:=(hb7.cell (p:=⟨w,0,none⟩) (Nat.lt_of_le_of_lt hw5 hlt6)).trans HK6.o.1;have k1:=(hb7.cell (p:=⟨w,1,none⟩) (Nat.lt_of_le_of_lt hw5 hlt6)).trans HK6.o.2.1;have hr7:=HK6.o.2.2.kept (hb7.block w.heap.size (Nat.lt_of_le_of_lt hw5 hlt6));have f0:w7.frozen? ⟨w,0,none⟩=false:=hr7.frozen;have f1:w7.frozen? ⟨w,1,none⟩=false:=hr7.frozen))
 all_goals
  go_wp2;refine bodyPost_ret (v:=.tuple #[.string tx,.slice wa us.length wc,.agg #[.int .i64 k.o,.int .i64 k.l],.nilIface]) (by simp[results,Tryz.results24,go_sem,k0,k1]) rfl ?_;rw[HUS.o.1,HUS.o.2,HKE.o];refine⟨⟨wa,wc,rfl,HOW.o _ fun b hb1 hb2=>?_⟩,?_⟩
  ·have h5:=HL5.o;exact(Below.heap_setCell _ _ _ _ (by simp;omega)).trans ((Below.heap_setCell _ _ _ _ (by simp;omega)).trans (hb7.block b hb2))
  ·exact((HB6.o.drew.trans (hb7.mono HB6.o.size)).setCell (p:=⟨w,0,none⟩) Zl _).setCell (p:=⟨w,1,none⟩) Zl _
theorem k1s(ds:List Nd)(wd:Int)(a:Option Addr)(cap:Nat)(hc:ds.length<=cap)(w:World)(hN:q3p w a ds):
  Calls prog 24 #[.slice a ds.length cap,.int .i64 wd] w fun e w'=>z8k ds wd w e w':=by
 by_cases h:q3a ds=0
 ·by_cases hw:wd<0\/100<wd
  ·exact j2c ds wd a cap w hN h hw
  ·obtain⟨n,rfl⟩:∃n:Nat,wd=n:=⟨wd.toNat,by omega⟩;exact y3w ds _ (q3b h) (q7q h) (q4c h).1 n (by omega) a cap hc w hN
 ·exact v5h ds wd a cap w hN h
end Go.Proofs.YthcpdohdppkmkaaGreatDoor
