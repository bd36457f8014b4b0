/- Texts as one: SynD, SynE, LayK, LayL. -/
import Derived.Test.YthjapabokcajhaaGreatDoorPf00
import Derived.Test.YthjapabokcajhaaGreatDoorPf32
import Derived.Laws.Strings2
import Derived.Test.YthjapabokcajhaaGreatDoorPf02
import Derived.Deep.RegionHeld3
namespace Go.Proofs.YthjapabokcajhaaGreatDoor
open Go Go.RowKit
set_option maxRecDepth 100000
set_option maxHeartbeats 1000000
theorem j2r(d:Nat)(h:d<=9)(W:World):(Instr.slice 9 (.string ⟨#[48,49,50,51,52,53,54,55,56,57]⟩) (some (.int .i64 (d:Int))) (some (.int .i64 ((d:Int)+1))) none).run Tryz.prog W=.ok (.string (wbS [UInt8.ofNat (48+d)])) W:=by
 rw[run_slice_string (P:=Tryz.prog) (w:=W) 9 _ .i64 .i64 (d:Int) ((d:Int)+1) Tryz.underlying9 (by omega) (by omega) (by show(d:Int)+1<=10;omega)];have e:((d:Int)+1).toNat=d+1:=by omega
 rw[e,Int.toNat_natCast]
 match d,h with
 | 0,_=>rfl
 | 1,_=>rfl
 | 2,_=>rfl
 | 3,_=>rfl
 | 4,_=>rfl
 | 5,_=>rfl
 | 6,_=>rfl
 | 7,_=>rfl
 | 8,_=>rfl
 | 9,_=>rfl
theorem q1q(a b:List UInt8):wbS a++wbS b=wbS (a++b):=by
 apply ByteArray.ext;simp[wbS]
theorem k0b{n:Nat}(h:n<=9):q3c n=[UInt8.ofNat (48+n)]:=by rw[q3c,dif_pos h]
theorem k9o{n:Nat}(h:¬n<=9):q3c n=q3c (n / 10)++[UInt8.ofNat (48+n % 10)]:=by rw[q3c,dif_neg h]
theorem z7k(l:List UInt8):(wbS l).size=l.length:=by
 rw[<-q0h];rfl
theorem j1d(n:Nat)(hn:n<=999999)(w:World):Calls Tryz.prog 58 #[.int .i64 (n:Int)] w fun e w'=>e=.returned (.string (wbS (q3c n)))/\w=w':=by
 have hl6:=q6r 5 n (by omega);go_in;go_wp2_with fail
 go_loopw [0,3] (fun x s wr=>wr=w/\∃(m:Nat)(t:List UInt8),x=.int .i64 (m:Int)/\s=.string (wbS t)/\m<=n/\q3c n=q3c m++t) (fun x _ _=>(intOf x).toNat)
 case atStart=>exact⟨rfl,n,[],rfl,rfl,Nat.le_refl _,by simp⟩
 case round=>
  obtain⟨rfl,m,t,rfl,rfl,hm,ht⟩:=hrel;have HT:Hid (q3c n=q3c m++t):=ht
  have htz:(wbS t).size<=100:=by
   have:=congrArg List.length ht
   rw[List.length_append]at this;rw[z7k];omega
  clear ht hl6;by_cases h9:m<=9
  ·have h9i:¬(9:Int)<(m:Int):=by omega
   have hr:=j2r m h9;have hdz:(wbS [UInt8.ofNat (48+m)]).size<=1:=by rw[z7k];exact Nat.le_refl _
   have HE:Hid (wbS [UInt8.ofNat (48+m)]++wbS t=wbS (q3c n)):=by
    show _=_;rw[HT.out,k0b h9,q1q]
   generalize wbS [UInt8.ofNat (48+m)]=dg at hr hdz HE;generalize wbS t=ts at htz HE;go_wp2;go_ret;exact⟨by rw[<-HE.out];rfl,rfl⟩
  ·have h9i:(9:Int)<(m:Int):=by omega
   have hr:=j2r (m % 10) (by omega);have e1:((m % 10:Nat):Int)=(m:Int) % 10:=by omega
   have e2:((m / 10:Nat):Int)=(m:Int) / 10:=by omega
   rw[e1]at hr;have hdz:(wbS [UInt8.ofNat (48+m % 10)]).size<=1:=by rw[z7k];exact Nat.le_refl _
   have HE:Hid (wbS [UInt8.ofNat (48+m % 10)]++wbS t=wbS ([UInt8.ofNat (48+m % 10)]++t)):=q1q _ _
   have HD:Hid (q3c n=q3c (m / 10)++([UInt8.ofNat (48+m % 10)]++t)):=by
    show _=_;rw[HT.out,k9o h9,List.append_assoc]
   have HQ:Hid (((m / 10:Nat):Int)=(m:Int) / 10):=e2;generalize wbS [UInt8.ofNat (48+m % 10)]=dg at hr hdz HE;generalize hts:wbS t=ts at htz HE;clear e1 e2 hts;go_wp2;exact⟨⟨by trivial,m / 10,_,by rw[HQ.out],by rw[HE.out],by omega,HD.out⟩,by simp[intOf];omega⟩
def j8k(p k:Int)(s:Bool):Bool:=(decide (p=6)&&decide (k=5))||(s&&(decide (p=5)||decide (p=6))&&decide (k=p))
theorem j4o(p x:Td)(s:Bool)(h:p.op=5\/p.op=6):j8k p.op x.op s=decide (prc x<(if p.op=5 then(if s then 1 else 0)else(if s then 2 else 1))):=by
 unfold j8k prc;rcases h with h|h<;>rw[h]<;>cases s<;>by_cases h5:x.op=5<;>by_cases h6:x.op=6<;>simp_all
theorem k1c(p x:Td)(s:Bool)(w:World):Calls Tryz.prog 93 #[tdV p,tdV x,.bool s] w fun e w'=>e=.returned (.bool (j8k p.op x.op s))/\Below w.heap.size w w':=by
 obtain⟨po,pt,pn⟩:=p;obtain⟨xo,xt,xn⟩:=x;unfold tdV;simp only;go_in;have HBW:Hid (∀o1 o2:Obj,Below w.heap.size w ((w.alloc o1).alloc o2)):=fun o1 o2=>((Below.refl _ _).alloc (Nat.le_refl _) _).alloc (by rw[World.size_alloc];omega) _
 go_wp2
 all_goals go_ret
 all_goals refine⟨?_,?_⟩
 all_goals first|exact HBW.out _ _|(simp_all[j8k];done)|(by_cases h5:xo=5<;>by_cases h6:xo=6<;>by_cases p5:po=5<;>by_cases p6:po=6<;>by_cases hx:xo=po<;>simp_all[j8k])
end Go.Proofs.YthjapabokcajhaaGreatDoor
namespace Go.Proofs.YthjapabokcajhaaGreatDoor
open Go Go.RowKit
structure j4i(ds:List Td):Prop where
 l:ds.length<=40
 k:∀x∈ds,q0l x=0
def lvl(op:Int)(sec:Bool):Nat:=if op=5 then(if sec then 1 else 0)else(if sec then 2 else 1)
theorem k0j{ds:List Td}{p:Nat}{y:Td}{k n:Fo}{r:List Td}(h:ds.drop p=(Fo.cons y k n).nodes++r)(hok:(Fo.cons y k n).ok):
  ∃hp:p<ds.length,ds[p]=y/\ds.drop (p+1)=k.nodes++(n.nodes++r)/\q2h ds p 1=some (p+1+k.nodes.length)/\ds.drop (p+1+k.nodes.length)=n.nodes++r:=by
 have hp:p<ds.length:=by
  rcases Nat.lt_or_ge p ds.length with h'|h'
  ·exact h'
  ·rw[List.drop_eq_nil_of_le h',Fo.nodes]at h;cases h
 have h1:=h;rw[List.drop_eq_getElem_cons hp,Fo.nodes,List.cons_append,List.cons.injEq,List.append_assoc]at h1;refine⟨hp,h1.1,h1.2,?_,?_⟩
 ·have e:=k3y k hok.2.1 (n.nodes++r) 0;rw[q4t,Nat.add_zero,hok.1,<-h1.2]at e;rw[q9d ds p 0 hp,h1.1,q2h,Nat.add_zero (kdT y),e];rfl
 ·rw[<-List.drop_drop,h1.2,List.drop_left]
theorem z8b{ds:List Td}{a:Option Addr}{cap p:Nat}(hs:j4i ds){q:Nat}(h:q2h ds p 1=some q)(hp:p<ds.length)(W:World)(hN:Tds W a ds):
  Calls Tryz.prog 24 #[.slice a ds.length cap,.int .i64 (p:Int)] W fun e w'=>e=.returned (.int .i64 (q:Int))/\Below W.heap.size W w':=by
 have hl:=hs.l
 have:=q9r ds a cap (by omega) hs.k (ds.length+1) p W hN (by omega) (by omega)
 rw[h]at this;exact this
end Go.Proofs.YthjapabokcajhaaGreatDoor
namespace Go.Proofs.YthjapabokcajhaaGreatDoor
open Go Go.RowKit
set_option maxRecDepth 100000
set_option maxHeartbeats 4000000
abbrev j4c(ds:List Td)(a:Option Addr)(cap i:Nat)(D:Tr)(W:World):Prop:=
 Calls Tryz.prog 26 #[.slice a ds.length cap,.int .i64 (i:Int)] W fun e w'=>NdR W D.nodes e w'
theorem j9h{l:Nat}{x:Td}{D:Tr}(h:prc x<l):(inD l x D).nodes=⟨6,⟨#[]⟩,0⟩::([⟨1,⟨#[40]⟩,0⟩]++(⟨6,⟨#[]⟩,0⟩::(D.nodes++[⟨1,⟨#[41]⟩,0⟩]))):=by
 rw[inD,if_pos h];rfl
theorem v2a{l:Nat}{x:Td}{D:Tr}(h:¬prc x<l):(inD l x D).nodes=D.nodes:=by rw[inD,if_neg h]
theorem z0z{ds:List Td}{a:Option Addr}{cap p i:Nat}(W:World)(hN:Tds W a ds)(hp:p<ds.length)(hi:i<ds.length)(hop:ds[p].op=5\/ds[p].op=6)(sec:Bool)(D:Tr)(hz:D.nodes.length<=10000)(hT:j4c ds a cap i D W):
  Calls Tryz.prog 59 #[.slice a ds.length cap,.int .i64 (p:Int),.int .i64 (i:Int),.bool sec] W fun e w'=>NdR W (inD (lvl ds[p].op sec) ds[i] D).nodes e w':=by
 have HN:Hid (Tds W a ds):=hN;have HT:Hid (j4c ds a cap i D W):=hT
 have HBD:Hid (∀W':World,Calls Tryz.prog 93 #[tdV ds[p],tdV ds[i],.bool sec] W' fun e w'=>e=.returned (.bool (decide (prc ds[i]<lvl ds[p].op sec)))/\Below W'.heap.size W' w'):=fun W'=>by
  have:=k1c ds[p] ds[i] sec W'
  rw[j4o _ _ _ hop]at this;exact this
 have hpi:(p:Int)<(ds.length:Int):=by omega
 have hii:(i:Int)<(ds.length:Int):=by omega
 have HY:Hid (prc ds[i]<lvl ds[p].op sec->(inD (lvl ds[p].op sec) ds[i] D).nodes=⟨6,⟨#[]⟩,0⟩::([⟨1,⟨#[40]⟩,0⟩]++(⟨6,⟨#[]⟩,0⟩::(D.nodes++[⟨1,⟨#[41]⟩,0⟩])))):=j9h;have HNO:Hid (¬prc ds[i]<lvl ds[p].op sec->(inD (lvl ds[p].op sec) ds[i] D).nodes=D.nodes):=v2a
 have HC:Hid (∀W',Below W.heap.size W W'->∃b o,a=some ⟨b,o,none⟩/\b<W'.heap.size/\(W'.cell? ⟨b,o+p*3,none⟩=some (.int .i64 ds[p].op)/\W'.cell? ⟨b,o+p*3+1,none⟩=some (.string ds[p].tx)/\W'.cell? ⟨b,o+p*3+2,none⟩=some (.int .i64 ds[p].n))/\(W'.cell? ⟨b,o+i*3,none⟩=some (.int .i64 ds[i].op)/\W'.cell? ⟨b,o+i*3+1,none⟩=some (.string ds[i].tx)/\W'.cell? ⟨b,o+i*3+2,none⟩=some (.int .i64 ds[i].n))):=fun W' hb=>by
  obtain⟨bp,op,e1,hbp,p1,p2,p3⟩:=(HN.out.below hb) p hp;obtain⟨bi,oi,e2,hbi,i1,i2,i3⟩:=(HN.out.below hb) i hi;rw[e1]at e2;simp only[Option.some.injEq,Addr.mk.injEq,and_true]at e2;obtain⟨rfl,rfl⟩:=e2;exact⟨bp,op,e1,hbp,⟨p1,p2,p3⟩,⟨i1,i2,i3⟩⟩
 generalize(inD (lvl ds[p].op sec) ds[i] D).nodes=R at HY HNO⊢
 generalize hpl:lvl ds[p].op sec=l at HY HNO HBD;unfold j4c at HT;generalize D.nodes=xs at HY HNO HT hz;clear hN hT hop hpl HN;generalize ds[p]=xp at HC HBD;generalize ds[i]=xi at HC HBD HY HNO;generalize prc xi=pr at HY HNO HBD;obtain⟨po,pt,pn⟩:=xp;obtain⟨io,it,inn⟩:=xi;by_cases hb:pr<l
 ·have HR:=(show Hid (_=_)from HY.out hb);have HB1:Hid (decide (pr<l)=true):=decide_eq_true hb;clear hb HY HNO;go_in;go_wp2_with fail;refine HT.out.mono ?_;rintro e w1 hres;obtain⟨v1,rfl,hv1,b1⟩:=hres.val;have HV1:Hid (NdV w1 v1 xs):=hv1;obtain⟨bp,op,rfl,hlb,⟨p1,p2,p3⟩,i1,i2,i3⟩:=HC.out w1 b1;have HBD1:Hid (Calls Tryz.prog 93 #[tdV ⟨po,pt,pn⟩,tdV ⟨io,it,inn⟩,.bool sec] w1.drew fun e w'=>e=.returned (.bool (decide (pr<l)))/\Below w1.heap.size w1 w'):=(HBD.out w1.drew).mono fun _ _ h=>⟨h.1,(Below.refl w1.heap.size w1).drew.trans h.2⟩
  have d1:w1.drew.cell? ⟨bp,op+p*3,none⟩=some (.int .i64 po):=p1;have d2:w1.drew.cell? ⟨bp,op+p*3+1,none⟩=some (.string pt):=p2;have d3:w1.drew.cell? ⟨bp,op+p*3+2,none⟩=some (.int .i64 pn):=p3;have d4:w1.drew.cell? ⟨bp,op+i*3,none⟩=some (.int .i64 io):=i1;have d5:w1.drew.cell? ⟨bp,op+i*3+1,none⟩=some (.string it):=i2;have d6:w1.drew.cell? ⟨bp,op+i*3+2,none⟩=some (.int .i64 inn):=i3;have HB1':=(show Hid (_)from b1);clear HC HBD HT b1 hv1 hres;go_wp2_with fail
  go_region_held3 (fun w'=>w'.cell? ⟨bp,op+p*3,none⟩=some (.int .i64 po)/\w'.cell? ⟨bp,op+p*3+1,none⟩=some (.string pt)/\w'.cell? ⟨bp,op+p*3+2,none⟩=some (.int .i64 pn)/\w'.cell? ⟨bp,op+i*3,none⟩=some (.int .i64 io)/\w'.cell? ⟨bp,op+i*3+1,none⟩=some (.string it)/\w'.cell? ⟨bp,op+i*3+2,none⟩=some (.int .i64 inn))
   (first|with_reducible exact⟨d1,d2,d3,d4,d5,d6⟩|with_reducible exact⟨p1,p2,p3,i1,i2,i3⟩|with_reducible exact⟨(hb2.cell (p:=⟨bp,_,none⟩) hlb).trans p1,(hb2.cell (p:=⟨bp,_,none⟩) hlb).trans p2,(hb2.cell (p:=⟨bp,_,none⟩) hlb).trans p3,(hb2.cell (p:=⟨bp,_,none⟩) hlb).trans i1,(hb2.cell (p:=⟨bp,_,none⟩) hlb).trans i2,(hb2.cell (p:=⟨bp,_,none⟩) hlb).trans i3⟩)
   ((go_at_call 93;refine HBD1.out.mono ?_;rintro e w2⟨rfl,hb2⟩;rw[HB1.out]))
  all_goals
   have HV2:Hid (NdV w2 v1 xs):=HV1.out.below hb2;have HB2:Hid (Below W.heap.size W w2):=q0g HB1'.out (Nat.le_refl _) hb2;clear hb2;go_wp2_with fail;refine(q0q _ _).mono ?_;rintro e w3 h3;obtain⟨v3,rfl,n3,b3⟩:=h3.val;have HB3:Hid (Below W.heap.size W w3):=q0g HB2.out (Nat.le_refl _) b3;have HV3:Hid (NdV w3 v3 [⟨1,⟨#[40]⟩,0⟩]):=n3;have HD3:Hid (NdV w3 v1 xs):=HV2.out.below b3;clear h3 n3 b3 HB2 HV2;go_wp2_with fail;refine(q0q _ _).mono ?_;rintro e w4 h4;obtain⟨v4,rfl,n4,b4⟩:=h4.val;have HB4:Hid (Below W.heap.size W w4):=q0g HB3.out (Nat.le_refl _) b4;have HV4:Hid (NdV w4 v4 [⟨1,⟨#[41]⟩,0⟩]):=n4;have HD4:Hid (NdV w4 v1 xs):=HD3.out.below b4;have HP4:Hid (NdV w4 v3 [⟨1,⟨#[40]⟩,0⟩]):=HV3.out.below b4;clear h4 n4 b4 HB3 HV3 HD3;go_wp2_with fail;refine(q0m _ HD4.out HV4.out (by simp;omega)).mono ?_;rintro e w5 h5;obtain⟨v5,rfl,n5,b5⟩:=h5.val;have HB5:Hid (Below W.heap.size W w5):=q0g HB4.out (Nat.le_refl _) b5;have HV5:Hid (NdV w5 v5 (⟨6,⟨#[]⟩,0⟩::(xs++[⟨1,⟨#[41]⟩,0⟩]))):=n5;have HP5:Hid (NdV w5 v3 [⟨1,⟨#[40]⟩,0⟩]):=HP4.out.below b5;clear h5 n5 b5 HB4 HV4 HD4 HP4;go_wp2_with fail;refine(q0m _ HP5.out HV5.out (by simp;omega)).mono ?_;rintro e w6 h6
   have HR6:Hid (NdR W R e w6):=by
    show NdR W R e w6;rw[HR.out];exact h6.from HB5.out
   obtain⟨v6,rfl,_,_⟩:=h6.val;clear h6;go_wp2;go_ret;exact HR6.out
 ·have HR:=(show Hid (_=_)from HNO.out hb);have HB1:Hid (decide (pr<l)=false):=decide_eq_false hb;clear hb HY HNO;go_in;go_wp2_with fail;refine HT.out.mono ?_;rintro e w1 hres;have HRES:Hid (NdR W xs e w1):=hres;obtain⟨v1,rfl,hv1,b1⟩:=hres.val;have HV1:Hid (NdV w1 v1 xs):=hv1;obtain⟨bp,op,rfl,hlb,⟨p1,p2,p3⟩,i1,i2,i3⟩:=HC.out w1 b1;have HBD1:Hid (Calls Tryz.prog 93 #[tdV ⟨po,pt,pn⟩,tdV ⟨io,it,inn⟩,.bool sec] w1.drew fun e w'=>e=.returned (.bool (decide (pr<l)))/\Below w1.heap.size w1 w'):=(HBD.out w1.drew).mono fun _ _ h=>⟨h.1,(Below.refl w1.heap.size w1).drew.trans h.2⟩
  have d1:w1.drew.cell? ⟨bp,op+p*3,none⟩=some (.int .i64 po):=p1;have d2:w1.drew.cell? ⟨bp,op+p*3+1,none⟩=some (.string pt):=p2;have d3:w1.drew.cell? ⟨bp,op+p*3+2,none⟩=some (.int .i64 pn):=p3;have d4:w1.drew.cell? ⟨bp,op+i*3,none⟩=some (.int .i64 io):=i1;have d5:w1.drew.cell? ⟨bp,op+i*3+1,none⟩=some (.string it):=i2;have d6:w1.drew.cell? ⟨bp,op+i*3+2,none⟩=some (.int .i64 inn):=i3;have HB1':=(show Hid (_)from b1);clear HC HBD HT b1 hv1 hres;go_wp2_with fail
  go_region_held3 (fun w'=>w'.cell? ⟨bp,op+p*3,none⟩=some (.int .i64 po)/\w'.cell? ⟨bp,op+p*3+1,none⟩=some (.string pt)/\w'.cell? ⟨bp,op+p*3+2,none⟩=some (.int .i64 pn)/\w'.cell? ⟨bp,op+i*3,none⟩=some (.int .i64 io)/\w'.cell? ⟨bp,op+i*3+1,none⟩=some (.string it)/\w'.cell? ⟨bp,op+i*3+2,none⟩=some (.int .i64 inn))
   (first|with_reducible exact⟨d1,d2,d3,d4,d5,d6⟩|with_reducible exact⟨p1,p2,p3,i1,i2,i3⟩|with_reducible exact⟨(hb2.cell (p:=⟨bp,_,none⟩) hlb).trans p1,(hb2.cell (p:=⟨bp,_,none⟩) hlb).trans p2,(hb2.cell (p:=⟨bp,_,none⟩) hlb).trans p3,(hb2.cell (p:=⟨bp,_,none⟩) hlb).trans i1,(hb2.cell (p:=⟨bp,_,none⟩) hlb).trans i2,(hb2.cell (p:=⟨bp,_,none⟩) hlb).trans i3⟩)
   ((go_at_call 93;refine HBD1.out.mono ?_;rintro e w2⟨rfl,hb2⟩;rw[HB1.out]))
  all_goals
   obtain⟨A9,c9,e9,o9,b9⟩:=HRES.out;have HRR:Hid (NdR W R (.returned v1) w2):=⟨A9,c9,by rw[HR.out];exact e9,by rw[HR.out];exact o9.kept fun g _ h=>hb2.block g h,q0g b9 (Nat.le_refl _) hb2⟩;clear hb2 o9 b9;go_wp2;go_ret;exact HRR.out
end Go.Proofs.YthjapabokcajhaaGreatDoor
namespace Go.Proofs.YthjapabokcajhaaGreatDoor
open Go Go.RowKit
set_option maxRecDepth 100000
set_option maxHeartbeats 2000000
def DcH(ds:List Td)(a:Option Addr)(cap:Nat)(F:Fo)(D:Tr):Prop:=∀i r,ds.drop i=F.nodes++r->∀W:World,Tds W a ds->j4c ds a cap i D W
def DcA(ds:List Td)(a:Option Addr)(cap:Nat):Fo->Prop
 | .nil=>True
 | .cons x k n=>DcH ds a cap (.cons x k n) (q0d x k.dcs)/\DcA ds a cap n
def k1n(w:World)(b:Nat)(o:Int)(t:ByteArray)(n:Int):Prop:=b<w.heap.size/\w.cell? ⟨b,0,none⟩=some (.int .i64 o)/\w.cell? ⟨b,1,none⟩=some (.string t)/\w.cell? ⟨b,2,none⟩=some (.int .i64 n)
theorem k1n.below{w w':World}{b:Nat}{o:Int}{t:ByteArray}{n:Int}(h:k1n w b o t n)(hb:Below w.heap.size w w'):k1n w' b o t n:=by
 obtain⟨h0,h1,h2,h3⟩:=h
 have:=hb.size
 exact⟨by omega,((q1g hb).1 _ _ h0).trans h1,((q1g hb).1 _ _ h0).trans h2,((q1g hb).1 _ _ h0).trans h3⟩
theorem k1n.new(w:World)(o:Int)(t:ByteArray)(n:Int)(ty:TypeId):k1n (w.alloc (.cells #[.int .i64 o,.string t,.int .i64 n] ty)) w.heap.size o t n:=by
 have h1:(w.alloc (.cells #[.int .i64 o,.string t,.int .i64 n] ty)).heap[w.heap.size]?=some (.cells #[.int .i64 o,.string t,.int .i64 n] ty (0,0)):=by
  show(w.heap.push _)[w.heap.size]?=_
  simp
 have h2:∀k,(w.alloc (.cells #[.int .i64 o,.string t,.int .i64 n] ty)).cell? ⟨w.heap.size,k,none⟩=(match (w.alloc (.cells #[.int .i64 o,.string t,.int .i64 n] ty)).heap[w.heap.size]? with
  | some (.cells c _ _)=>c[k]?
  | _=>none):=fun _=>rfl
 exact⟨by rw[World.size_alloc];omega,by rw[h2,h1];rfl,by rw[h2,h1];rfl,by rw[h2,h1];rfl⟩
structure q0n(W:World)(x:Td)(w:World):Prop where
 b:Below W.heap.size W w
 n:k1n w W.heap.size x.op x.tx x.n
 bl:NdV w (.slice (some ⟨W.heap.size+1,0,none⟩) 1 1) [⟨2,⟨#[]⟩,0⟩]
 sf:NdV w (.slice (some ⟨W.heap.size+1+1,0,none⟩) 1 1) [⟨3,⟨#[]⟩,0⟩]
 gr:k1n w (W.heap.size+1+1+1) 8 ⟨#[]⟩ 0
 dp:k1n w (W.heap.size+1+1+1+1) 7 ⟨#[]⟩ 2
theorem q0n.below{W:World}{x:Td}{w w':World}(h:q0n W x w)(hb:Below w.heap.size w w'):q0n W x w':=
 ⟨q0g h.b (Nat.le_refl _) hb,h.n.below hb,h.bl.below hb,h.sf.below hb,h.gr.below hb,h.dp.below hb⟩
abbrev dcW(W:World)(o:Int)(t:ByteArray)(n:Int):World:=((((W.alloc (.cells #[.int .i64 o,.string t,.int .i64 n] 47)).alloc (.cells #[.int .i64 2,.string ⟨#[]⟩,.int .i64 0] 107)).alloc (.cells #[.int .i64 3,.string ⟨#[]⟩,.int .i64 0] 107)).alloc (.cells #[.int .i64 8,.string ⟨#[]⟩,.int .i64 0] 107)).alloc (.cells #[.int .i64 7,.string ⟨#[]⟩,.int .i64 2] 107)
theorem z0r(W:World)(x:Td):q0n W x (dcW W x.op x.tx x.n):=by
 have s:∀(w:World)(O:Obj),Below w.heap.size w (w.alloc O):=fun w O=>(Below.refl _ w).alloc (Nat.le_refl _) O
 have hn:=((((k1n.new W x.op x.tx x.n 47).below (s _ (.cells #[.int .i64 2,.string ⟨#[]⟩,.int .i64 0] 107))).below (s _ (.cells #[.int .i64 3,.string ⟨#[]⟩,.int .i64 0] 107))).below (s _ (.cells #[.int .i64 8,.string ⟨#[]⟩,.int .i64 0] 107))).below (s _ (.cells #[.int .i64 7,.string ⟨#[]⟩,.int .i64 2] 107));generalize hO:Obj.cells #[.int .i64 x.op,.string x.tx,.int .i64 x.n] 47=O at hn;have z1:(W.alloc O).heap.size=W.heap.size+1:=World.size_alloc _ _;have bl:=(q3m.one (W.alloc O) ⟨2,⟨#[]⟩,0⟩).val;have z2:((W.alloc O).alloc (.cells #[.int .i64 2,.string ⟨#[]⟩,.int .i64 0] 107)).heap.size=W.heap.size+1+1:=by rw[World.size_alloc,z1]
 rw[z1]at bl;have bl3:=((bl.below (s _ (.cells #[.int .i64 3,.string ⟨#[]⟩,.int .i64 0] 107))).below (s _ (.cells #[.int .i64 8,.string ⟨#[]⟩,.int .i64 0] 107))).below (s _ (.cells #[.int .i64 7,.string ⟨#[]⟩,.int .i64 2] 107));have sf:=(q3m.one ((W.alloc O).alloc (.cells #[.int .i64 2,.string ⟨#[]⟩,.int .i64 0] 107)) ⟨3,⟨#[]⟩,0⟩).val;rw[z2]at sf;have z3:(((W.alloc O).alloc (.cells #[.int .i64 2,.string ⟨#[]⟩,.int .i64 0] 107)).alloc (.cells #[.int .i64 3,.string ⟨#[]⟩,.int .i64 0] 107)).heap.size=W.heap.size+1+1+1:=by rw[World.size_alloc,z2]
 have sf2:=(sf.below (s _ (.cells #[.int .i64 8,.string ⟨#[]⟩,.int .i64 0] 107))).below (s _ (.cells #[.int .i64 7,.string ⟨#[]⟩,.int .i64 2] 107));have gr:=k1n.new (((W.alloc O).alloc (.cells #[.int .i64 2,.string ⟨#[]⟩,.int .i64 0] 107)).alloc (.cells #[.int .i64 3,.string ⟨#[]⟩,.int .i64 0] 107)) 8 ⟨#[]⟩ 0 107;rw[z3]at gr;have z4:((((W.alloc O).alloc (.cells #[.int .i64 2,.string ⟨#[]⟩,.int .i64 0] 107)).alloc (.cells #[.int .i64 3,.string ⟨#[]⟩,.int .i64 0] 107)).alloc (.cells #[.int .i64 8,.string ⟨#[]⟩,.int .i64 0] 107)).heap.size=W.heap.size+1+1+1+1:=by rw[World.size_alloc,z3]
 have dp:=k1n.new ((((W.alloc O).alloc (.cells #[.int .i64 2,.string ⟨#[]⟩,.int .i64 0] 107)).alloc (.cells #[.int .i64 3,.string ⟨#[]⟩,.int .i64 0] 107)).alloc (.cells #[.int .i64 8,.string ⟨#[]⟩,.int .i64 0] 107)) 7 ⟨#[]⟩ 2 107;rw[z4]at dp
 have bb:Below W.heap.size W (dcW W x.op x.tx x.n):=by
  refine(((((Below.refl _ W).alloc (Nat.le_refl _) _).alloc ?_ _).alloc ?_ _).alloc ?_ _).alloc ?_ _<;>simp only[World.size_alloc]<;>omega
 subst hO;exact⟨bb,hn,bl3,sf2,gr.below (s _ _),dp⟩
theorem z8a{ds:List Td}{a:Option Addr}{cap:Nat}(hs:j4i ds){x:Td}{k n:Fo}(hok:(Fo.cons x k n).ok)(hx:exN x)(h2:x.op=1\/x.op=2):DcH ds a cap (.cons x k n) (q0d x k.dcs):=by
 intro i r hi W hN;obtain⟨hp,e1,_,_,_⟩:=k0j hi hok;obtain⟨b,o,rfl,hb,c1,c2,c3⟩:=hN i hp;have hl:=hs.l;have hii:(i:Int)<(ds.length:Int):=by omega
 rw[e1]at c1 c2 c3;have HPR:Hid (q0n W x (dcW W x.op x.tx x.n)):=z0r W x;obtain⟨xo,xt,xn⟩:=x;simp only at c1 c2 c3 HPR h2;rcases q1n hx with⟨ho,htx,hn0,hn1,_⟩|⟨ho,_,hn2,_⟩|⟨ho,_⟩|⟨ho,_⟩|⟨ho,_⟩|⟨ho,_⟩
 ·simp only at ho hn0 hn1;subst ho;obtain⟨m,rfl⟩:∃m:Nat,xn=(m:Int):=⟨xn.toNat,by omega⟩;have HT:Hid (q0d ⟨1,xt,(m:Int)⟩ k.dcs=wdD (q3c m)):=by show _=_;simp[q0d]
  have hm9:m<=999999:=by omega
  clear e1 hi hok hx h2 htx hn0 hn1 hN;unfold j4c;rw[HT.out];have HD:Hid (∀W:World,Calls Tryz.prog 58 #[.int .i64 (m:Int)] W fun e w'=>e=.returned (.string (wbS (q3c m)))/\W=w'):=fun W=>j1d m hm9 W
  show Calls _ _ _ _ fun e w'=>NdR W [⟨1,wbS (q3c m),0⟩] e w'
  generalize wbS (q3c m)=T at HD⊢;go_in;go_wp2_with fail;refine(HD.out _).mono ?_;rintro e w2⟨rfl,rfl⟩;go_wp2_with fail;refine(q0q _ _).mono ?_;rintro e w3 h3;have HR:Hid (NdR W [⟨1,T,0⟩] e w3):=h3.from HPR.out.b;obtain⟨v3,rfl,_,_⟩:=h3.val;clear h3;go_wp2;go_ret;exact HR.out
 ·simp only at ho hn2;subst ho hn2;have HT:Hid (q0d ⟨2,xt,0⟩ k.dcs=wdD (btL xt)):=by show _=_;simp[q0d]
  clear e1 hi hok hx h2 hN;unfold j4c;rw[HT.out];show Calls _ _ _ _ fun e w'=>NdR W [⟨1,xt,0⟩] e w'
  go_in;go_wp2_with fail;refine(q0q _ _).mono ?_;rintro e w3 h3;have HR:Hid (NdR W [⟨1,xt,0⟩] e w3):=h3.from HPR.out.b;obtain⟨v3,rfl,_,_⟩:=h3.val;clear h3;go_wp2;go_ret;exact HR.out
 ·simp only at ho;omega
 ·simp only at ho;omega
 ·simp only at ho;omega
 ·simp only at ho;omega
end Go.Proofs.YthjapabokcajhaaGreatDoor
