import Derived.Test.YthcpdohdppkmkaaGreatDoorPu46
open Go.Proofs.Tryz
namespace Go.Proofs.YthcpdohdppkmkaaGreatDoor
open Go Go.RowKit Go.Maps
set_option maxRecDepth 100000
set_option maxHeartbeats 8000000
def y1b(ps old:List (List Td))(n:Nat)(w:World)(e:Ending)(w':World):Prop:=Below w w w'/\
 ((fmE ps=0/\∃ov mv,e=.returned (.tuple #[.agg #[.int .i64 (n:Int),ov,mv],.int .i64 (frP ps old:Nat),.nilIface])/\ShM w' ov mv ps n)\/
  (fmE ps≠0/\e=.returned (.tuple #[.agg #[.int .i64 0,.slice none 0 0,.map none],.int .i64 0,q0s (fmE ps)])))
theorem g6h(h:Array Obj)(a b:Obj):((h.push a).push b)[h.size+1]?=some b:=by
 have e:(h.push a).size=h.size+1:=Array.size_push ..;rw[<-e];exact Array.getElem?_push_size
theorem q8i.cells{ps old:List (List Td)}{n j i k:Nat}{w wr:World}(h:q8i ps old n w j i k wr):∃A c,wr.cell? ⟨w,0,none⟩=some (.int .i64 (n:Int))/\wr.cell? ⟨w,1,none⟩=some (.slice A j c)/\wr.cell? ⟨w,2,none⟩=some (.map (some (w.heap.size+1)))/\(∀o,wr.frozen? ⟨w,o,none⟩=false)/\
  wr.heap[w.heap.size]?=some (.cells #[.int .i64 (n:Int),.slice A j c,.map (some (w.heap.size+1))] 141 (0,0))/\q1j (w.heap.size+2) (.slice A j c) ((ps.take j).map kyB) wr:=by
 obtain⟨A,c,q1,q2⟩:=h.nx;exact⟨A,c,by simp[World.cell?,q1],by simp[World.cell?,q1],by simp[World.cell?,q1],fun o=>by simp[World.frozen?,q1],q1,q2⟩
theorem q8i.start{ps old:List (List Td)}{n:Nat}{w:World}{w1:World}(h1:w1.heap[w.heap.size]?=some (.cells #[.int .i64 (n:Int),.slice none 0 0,.map (some (w.heap.size+1))] 141 (0,0)))(h2:w1.heap[w.heap.size+1]?=some (.map #[] 0))(hb:Below w w w1):q8i ps old n w 0 0 0 w1:=by
 refine⟨Nat.zero_le _,?_,rfl,fun t ht=>by simp at ht,⟨none,0,h1,⟨rfl,.inl ⟨rfl,rfl⟩⟩⟩,?_,hb⟩
 ·simp[frP]
 ·have hm:=KnM.made w (w.alloc (.map #[] 0)) n;rw[World.size_alloc]at hm;refine hm.kept (h2.trans ?_);exact(g6h w.heap _ _).symm
theorem j2x{T:TypeId}(old ps:List (List Td))(n b:Nat)(A:Option Addr)(c:Nat)(w:World)(hS:z1s T w b old n)(hP:Prg w A ps)(hok:∀t∈ps,q0d t=0)(hni:∀t∈ps,z4e t)(hl:ps.length<=20)(ht:q5u w):
  Calls prog 72 #[.pointer (some ⟨b,0,none⟩),.slice A ps.length c] w fun e w'=>y1b ps old n w e w':=by
 obtain⟨oA,oc,m,s0,s1,s2,sf,_,skn⟩:=hS.cell;have hblt:=hS.lt;obtain⟨ov0,mv0,hS1,hSM⟩:=hS;have hold:=hSM.ok;have hw1:=hSM.w1;have hw2:=hSM.w2;have HP:Hid (Prg w A ps):=hP;have HOK:Hid (∀t∈ps,q0d t=0):=hok;have HNI:Hid (∀t∈ps,z4e t):=hni;have HOLD:Hid (∀t∈old,q0d t=0):=hold;have HPG:Hid (∀t∈old,pgE t=0):=hSM.pg;have HT:Hid (q5u w):=ht;have HKN:Hid ((m=none/\old=[])\/∃b,m=some b/\KnM w w b old n):=skn;have HBC:Hid (∀W,Below w w W->W.cell? ⟨b,0,none⟩=some (.int .i64 (n:Int))/\W.cell? ⟨b,2,none⟩=some (.map m)):=fun W h=>⟨((q1c h).1 _ _ hblt).trans s0,((q1c h).1 _ _ hblt).trans s2⟩
 have s0':(w.alloc (.cells #[.int .i64 0,.slice none 0 0,.map none] 141)).cell? ⟨b,0,none⟩=some (.int .i64 (n:Int)):=((q1c (q1t w _)).1 _ _ hblt).trans s0;clear hP hok hni hold ht skn hS1 hSM s0 s1 s2 sf ov0 mv0;generalize hnp:ps.length=np at hl⊢;have HNP:Hid (ps.length=np):=hnp;clear hnp;go_in;have hmm:=@run_makeMap prog
 have HS0:Hid (q8i ps old n w 0 0 0 ((w.alloc (.cells #[.int .i64 (n:Int),.slice none 0 0,.map (some (w.heap.size+1))] 141)).alloc (.map #[] 0))):=by
  refine q8i.start ?_ ?_ (j5p w _ _)
  ·show((w.heap.push _).push _)[w.heap.size]?=_
   simp[Array.getElem?_push]
  ·exact g6h w.heap _ _
 go_wp2_with fail;clear s0' hmm
 go_loopw [5,23] (fun q x wr=>∃i k:Nat,q=.int .i64 (k:Int)/\x=.int .i64 (i:Int)/\q8i ps old n w i i k wr) (fun _ x _=>np-(intOf x).toNat)
 case atStart=>exact⟨0,0,rfl,rfl,HS0.o⟩
 case round=>
  clear HS0;obtain⟨i,k,rfl,rfl,hV⟩:=hrel;have hll:=HNP.o;have hle:=hV.le;by_cases hlt:i<np
  ·have hii:(i:Int)<(np:Int):=by omega
   have hip:i<ps.length:=by omega
   obtain⟨b0,o0,A0,c0,rfl,hb0,d00,hc0,hT0⟩:=HP.o i hip;have d0:=((q1c hV.bl).1 _ _ hb0).trans d00;have ht0:=HOK.o ps[i] (List.getElem_mem _);have HK:Hid (Calls prog 118 #[.slice A0 ps[i].length c0] wr fun e w'=>e=.returned (.tuple #[.string (kyB ps[i]),.nilIface])/\Below wr wr w'):=v5y ht0 (HNI.o _ (List.getElem_mem _)) A0 c0 hc0 wr (hT0.W hV.bl) (HT.o.W hV.bl);have HV:Hid (q8i ps old n w i i k wr):=hV;have hkl:=k6i ht0;have HTD:Hid (Tds w A0 ps[i]):=hT0;have HT0:Hid (q0d ps[i]=0):=ht0;have HKE:Hid (kyB ps[i]=kyB ps[i]):=rfl;clear hV d00 hT0 ht0;go_wp2_with fail;refine HK.o.mono ?_;rintro e w3⟨rfl,b3⟩;have HV3:Hid (q8i ps old n w i i k w3):=HV.o.grow b3;obtain⟨A3,c3,x0,x1,x2,xf,xh,xo⟩:=HV3.o.cells;have HXH:=(show Hid (_=_)from xh);have HXO:Hid (q1j (w.heap.size+2) (.slice A3 i c3) ((ps.take i).map kyB) w3):=xo;clear b3 xh xo HV HK d0 xf;go_wp2_with(at_builtin;refine z8p rfl _ _ rfl (w.heap.size+2) _ ((ps.take i).map kyB) rfl ?c1 (some ⟨w3,0,none⟩) 1 [kyB ps[i]] rfl 1 rfl ?c2 (fun h=>by cases h) (i+1) ?c3 ?c4 ?c5 ?_)
   case c1=>exact q2r HXO.o (q1t _ _)
   case c2=>
    intro j hj;have hj0:j=0:=by simp at hj;exact hj
    subst hj0;exact⟨w3.heap.size,0,rfl,by simp,by simp[go_sem]⟩
   case c3=>simp;omega
   case c4=>omega
   case c5=>
    have:=HV3.o.sz
    simp;omega
   intro A4 c4 w4 hS4 hg4;obtain⟨hF4,hH4⟩:=HV3.o.key hip HXH.o HXO.o hg4 (by rw[List.map_take];exact hS4);have HF4:Hid (q8i ps old n w (i+1) i k (w4.setCell ⟨w,1,none⟩ (.slice A4 (i+1) c4))):=hF4;have z1:w4.cell? ⟨w,1,none⟩=some (.slice A3 i c3):=by simp[World.cell?,hH4]
   have z2:w4.cell? ⟨w,2,none⟩=some (.map (some (w.heap.size+1))):=by simp[World.cell?,hH4]
   have zf:w4.frozen? ⟨w,1,none⟩=false:=by simp[World.frozen?,hH4]
   clear hF4 hH4 hS4 hg4 HXH HXO HV3 x0 x1 x2;go_wp2_with fail
   generalize(w4.setCell ⟨w,1,none⟩ (.slice A4 (i+1) c4))=w5 at HF4⊢
   clear z1 z2 zf
   have hk20:k<=20:=by
    have h1:=HF4.o.cnt;have h2:=g0u ps old;omega
   by_cases hm:ps[i]∈ps.take i
   ·obtain⟨A6,c6,_,hlk,_,_⟩:=HF4.o.kn.look hm HT0.o;have HN:Hid (q8i ps old n w (i+1) (i+1) k w5):=HF4.o.same HOK.o HOLD.o hm;clear hm;generalize wbS (q4r n ps[i])=S6 at hlk;rw[hlk];go_wp2;refine⟨⟨i+1,k,rfl,by go_num,HN.o.grow (q1t w5 _)⟩,?_⟩;simp[intOf];omega
   ·have hlk:=HF4.o.kn.miss (k:=kyB ps[i]) (by omega) (fun u hu e=>hm (by rw[<-k6h (HOK.o u (List.mem_of_mem_take hu)) HT0.o e];exact hu));have HF6:Hid (q8i ps old n w (i+1) i k (w5.alloc (.cells #[.slice none 0 0,.string ⟨#[]⟩] 195))):=HF4.o.grow (q1t w5 _);obtain⟨s06,s26⟩:=HBC.o _ HF6.o.bl;have HM:Hid (ps[i]∉ps.take i):=hm;clear HF4 hm s06;rw[hlk];go_wp2_with fail;clear hlk s26
    generalize(w5.alloc (.cells #[.slice none 0 0,.string ⟨#[]⟩] 195))=w6 at HF6⊢
    by_cases ho:ps[i]∈old
    ·rcases HKN.o with⟨_,e0⟩|⟨mb,rfl,hkn⟩
     ·rw[e0]at ho;simp at ho
     ·obtain⟨A6,c6,_,hlk,hc6,hT6⟩:=(hkn.kept (HF6.o.bl.block mb hkn.lt)).look ho HT0.o;have hCN:=(k5x hip HOK.o HOLD.o HF6.o.cnt).1 (.inl ho);have HF7:Hid (q8i ps old n w (i+1) i k (w6.alloc (.cells #[.slice A6 ps[i].length c6,.string (wbS (q4r n ps[i]))] 195))):=HF6.o.grow (q1t w6 _);obtain⟨_,_,_,_,x2,_,_,_⟩:=HF7.o.cells;obtain⟨w8,hrun,hk8,hg8⟩:=HF7.o.kn.put (t:=ps[i]) (fun u hu=>HOK.o u (List.mem_of_mem_take hu)) (by simp;omega) HT0.o HM.o hc6 hT6;have hpg:pgE ps[i]=0:=HPG.o _ ho;have HN:Hid (q8i ps old n w (i+1) (i+1) k w8):=HF7.o.put hpg hCN hk8 hg8;clear hCN hk8 hg8 hkn hT6 hpg HF7 HF6;generalize wbS (q4r n ps[i])=S6 at hlk hrun x2;rw[hlk];go_wp2;refine⟨⟨i+1,k,rfl,by go_num,HN.o⟩,?_⟩;simp[intOf];omega
    ·have hlk:(Instr.lookup 139 (.map m) (.string (kyB ps[i])) true).run prog w6=.ok (.tuple #[zEn,.bool false]) w6:=by
      rcases HKN.o with⟨rfl,e0⟩|⟨mb,rfl,hkn⟩
      ·exact v8c w6 (by omega)
      ·exact(hkn.kept (HF6.o.bl.block mb hkn.lt)).miss (by omega) (fun u hu e=>ho (by rw[<-k6h (HOLD.o u hu) HT0.o e];exact hu))
     have hCN:=(k5x hip HOK.o HOLD.o HF6.o.cnt).2 (fun q=>q.elim ho HM.o);have HF7:Hid (q8i ps old n w (i+1) i k (w6.alloc (.cells #[.slice none 0 0,.string ⟨#[]⟩] 195))):=HF6.o.grow (q1t w6 _);obtain⟨s07,_⟩:=HBC.o _ HF7.o.bl;have HCN:=(show Hid (_=_)from hCN);have h6s:w.heap.size+2<=w6.heap.size:=HF6.o.sz;clear hCN ho;by_cases hp:pgE ps[i]=0
     ·have HL:Hid (Calls prog 119 #[.slice A0 ps[i].length c0,.int .i64 (n:Int)] (w6.alloc (.cells #[.slice none 0 0,.string ⟨#[]⟩] 195)) fun e w'=>e=.returned (.tuple #[enV A0 ps[i].length c0 (wbS (q4r n ps[i])),.nilIface])/\Below (w6.heap.size+1) (w6.alloc (.cells #[.slice none 0 0,.string ⟨#[]⟩] 195)) w'):=by
       have h1:=y4w HT0.o (HNI.o _ (List.getElem_mem hip)) hp hw1 hw2 A0 c0 hc0 (w6.alloc (.cells #[.slice none 0 0,.string ⟨#[]⟩] 195)) (HTD.o.W HF7.o.bl) (HT.o.W HF7.o.bl);rw[World.size_alloc]at h1;exact h1
      have HPP:Hid (pgE ps[i]=0):=hp;clear hp;rw[hlk];go_wp2_with fail;refine HL.o.mono ?_;rintro e w7⟨rfl,b7⟩;have b69:Below w6 w6 ((w7.setCell ⟨w6,0,none⟩ (.slice A0 ps[i].length c0)).setCell ⟨w6,1,none⟩ (.string (wbS (q4r n ps[i])))):=(((q1t w6 _).trans (b7.mono (Nat.le_succ _))).setCell (p:=⟨w6,0,none⟩) Zl _).setCell (p:=⟨w6,1,none⟩) Zl _;have HF9:Hid (q8i ps old n w (i+1) i k ((w7.setCell ⟨w6,0,none⟩ (.slice A0 ps[i].length c0)).setCell ⟨w6,1,none⟩ (.string (wbS (q4r n ps[i]))))):=HF6.o.grow b69;have y0:w7.cell? ⟨w6,0,none⟩=some (.slice none 0 0):=(b7.cell (p:=⟨w6,0,none⟩) (Nat.lt_succ_self _)).trans (by simp[go_sem]);have y1:w7.cell? ⟨w6,1,none⟩=some (.string ⟨#[]⟩):=(b7.cell (p:=⟨w6,1,none⟩) (Nat.lt_succ_self _)).trans (by simp[go_sem]);have f0:w7.frozen? ⟨w6,0,none⟩=false:=(b7.frozen (p:=⟨w6,0,none⟩) (Nat.lt_succ_self _)).trans (by simp[go_sem]);have f1:w7.frozen? ⟨w6,1,none⟩=false:=(b7.frozen (p:=⟨w6,1,none⟩) (Nat.lt_succ_self _)).trans (by simp[go_sem]);obtain⟨_,_,_,_,x2,_,_,_⟩:=HF9.o.cells;obtain⟨w8,hrun,hk8,hg8⟩:=HF9.o.kn.put (t:=ps[i]) (fun u hu=>HOK.o u (List.mem_of_mem_take hu)) (by simp;omega) HT0.o HM.o hc0 HTD.o;have HN:Hid (q8i ps old n w (i+1) (i+1) (k+1) w8):=HF9.o.put HPP.o HCN.o hk8 hg8;clear hk8 hg8 b69 b7 HF9 HF7 HF6 HL s07 hlk;generalize wbS (q4r n ps[i])=S6 at hrun x2⊢;go_wp2;refine⟨⟨i+1,k+1,by go_num,by go_num,HN.o⟩,?_⟩;simp[intOf];omega
     ·have HL:Hid (Calls prog 119 #[.slice A0 ps[i].length c0,.int .i64 (n:Int)] (w6.alloc (.cells #[.slice none 0 0,.string ⟨#[]⟩] 195)) fun e w'=>e=.returned (.tuple #[zEn,.iface 22 (.int .i64 (pgE ps[i]))])/\Below (w6.heap.size+1) (w6.alloc (.cells #[.slice none 0 0,.string ⟨#[]⟩] 195)) w'):=by
       have h1:=y4v HT0.o (HNI.o _ (List.getElem_mem hip)) hp hw1 hw2 A0 c0 hc0 (w6.alloc (.cells #[.slice none 0 0,.string ⟨#[]⟩] 195)) (HTD.o.W HF7.o.bl) (HT.o.W HF7.o.bl);rw[World.size_alloc]at h1;exact h1
      have HPP:Hid (fmE ps≠0/\q0s (fmE ps)=.iface 22 (.int .i64 (pgE ps[i]))):=by
       have hz:=HF7.o.z;rw[List.drop_eq_getElem_cons hip,z5a hp]at hz;rw[<-hz];exact⟨hp,q0f hp⟩
      clear hp;rw[hlk];go_wp2_with fail;refine HL.o.mono ?_;rintro e w7⟨rfl,b7⟩;have b69:Below w6 w6 ((w7.setCell ⟨w6,0,none⟩ (.slice none 0 0)).setCell ⟨w6,1,none⟩ (.string ⟨#[]⟩)):=(((q1t w6 _).trans (b7.mono (Nat.le_succ _))).setCell (p:=⟨w6,0,none⟩) Zl _).setCell (p:=⟨w6,1,none⟩) Zl _;have HF9:Hid (q8i ps old n w (i+1) i k ((w7.setCell ⟨w6,0,none⟩ (.slice none 0 0)).setCell ⟨w6,1,none⟩ (.string ⟨#[]⟩))):=HF6.o.grow b69;have y0:w7.cell? ⟨w6,0,none⟩=some (.slice none 0 0):=(b7.cell (p:=⟨w6,0,none⟩) (Nat.lt_succ_self _)).trans (by simp[go_sem]);have y1:w7.cell? ⟨w6,1,none⟩=some (.string ⟨#[]⟩):=(b7.cell (p:=⟨w6,1,none⟩) (Nat.lt_succ_self _)).trans (by simp[go_sem]);have f0:w7.frozen? ⟨w6,0,none⟩=false:=(b7.frozen (p:=⟨w6,0,none⟩) (Nat.lt_succ_self _)).trans (by simp[go_sem]);have f1:w7.frozen? ⟨w6,1,none⟩=false:=(b7.frozen (p:=⟨w6,1,none⟩) (Nat.lt_succ_self _)).trans (by simp[go_sem]);obtain⟨A9,c9,x0,x1,x2,xf,_,_⟩:=HF9.o.cells;have xf0:=xf 0;have xf1:=xf 1;have xf2:=xf 2;clear b69 b7 HF7 HF6 HL s07 hlk xf;generalize pgE ps[i]=z at HPP⊢;go_wp2_with fail;refine bodyPost_ret (v:=.tuple #[.agg #[.int .i64 0,.slice none 0 0,.map none],.int .i64 0,.iface 22 (.int .i64 z)]) (by simp[results,Tryz.results72,go_sem,x0,x1,x2]) rfl ?_;exact⟨((HF9.o.bl.setCell (p:=⟨w,0,none⟩) Zl _).setCell (p:=⟨w,1,none⟩) Zl _).setCell (p:=⟨w,2,none⟩) Zl _,.inr ⟨HPP.o.1,by rw[HPP.o.2]⟩⟩
  ·have hii:¬(i:Int)<(np:Int):=by omega
   have hie:i=ps.length:=by omega
   subst hie;obtain⟨hz,hk,A9,c9,q1,q2⟩:=hV.sheet HOK.o HNI.o (by omega) hw1 hw2;rw[hll]at q1 q2;have x0:wr.cell? ⟨w,0,none⟩=some (.int .i64 (n:Int)):=by simp[World.cell?,q1]
   have x1:wr.cell? ⟨w,1,none⟩=some (.slice A9 np c9):=by simp[World.cell?,q1]
   have x2:wr.cell? ⟨w,2,none⟩=some (.map (some (w.heap.size+1))):=by simp[World.cell?,q1]
   have xf0:wr.frozen? ⟨w,0,none⟩=false:=by simp[World.frozen?,q1]
   have xf1:wr.frozen? ⟨w,1,none⟩=false:=by simp[World.frozen?,q1]
   have xf2:wr.frozen? ⟨w,2,none⟩=false:=by simp[World.frozen?,q1]
   have HQ:Hid (z1s 141 wr w.heap.size ps n):=⟨_,_,q1,q2⟩;have HM:Hid (ShM wr (.slice A9 np c9) (.map (some (w.heap.size+1))) ps n):=q2;have HB:Hid (Below w w wr):=hV.bl;have HZ:Hid (fmE ps=0/\k=frP ps old):=⟨hz,hk⟩;clear hV q1 q2 hz hk;go_wp2_with fail;refine bodyPost_ret (v:=.tuple #[.agg #[.int .i64 (n:Int),.slice A9 np c9,.map (some (w.heap.size+1))],.int .i64 (k:Int),.nilIface]) (by simp[results,Tryz.results72,go_sem,x0,x1,x2]) rfl ?_;obtain⟨_,hx⟩:=HQ.o.put HM.o;exact⟨((HB.o.setCell (p:=⟨w,0,none⟩) Zl _).setCell (p:=⟨w,1,none⟩) Zl _).setCell (p:=⟨w,2,none⟩) Zl _,.inl ⟨HZ.o.1,_,_,by rw[HZ.o.2],HM.o.apart hx HQ.o.blk⟩⟩
theorem v6o(a b:Value)(w:World):(Instr.field 195 (.agg #[a,b]) 1).run prog w=.ok b w:=by kernel_rfl
theorem j7o{T:TypeId}(qs:List (List Td))(n b:Nat)(w:World)(hS:z1s T w b qs n):
  Calls prog 73 #[.pointer (some ⟨b,0,none⟩)] w fun e w'=>e=.returned (.string (wbS (q3k n qs)))/\Below w w w':=by
 obtain⟨oA,oc,m,s0,s1,s2,sf,sW,skn⟩:=hS.cell;have hblt:=hS.lt;obtain⟨_,_,_,hSM⟩:=hS;have hl20:=hSM.len;have HOK:Hid (∀t∈qs,q0d t=0):=hSM.ok;have HPG:Hid (∀t∈qs,pgE t=0):=hSM.pg;have HW:Hid (Wds w oA (qs.map kyB)):=sW;have HKN:Hid ((m=none/\qs=[])\/∃b,m=some b/\KnM w w b qs n):=skn;have HBC:Hid (∀W,Below w w W->W.cell? ⟨b,2,none⟩=some (.map m)):=fun W h=>((q1c h).1 _ _ hblt).trans s2
 have s1':(w.alloc (.cells #[.pointer none,.slice none 0 0] 96)).cell? ⟨b,1,none⟩=some (.slice oA qs.length oc):=((q1c (q1t w _)).1 _ _ hblt).trans s1;have HS0:Hid (v4r qs n w 0 (w.alloc (.cells #[.pointer none,.slice none 0 0] 96))):=⟨Nat.zero_le _,rfl,IsX.fresh 96 w [],q1t w _,by simp[q3k]⟩;clear sW skn hSM s0 s1 s2 sf;generalize hnp:qs.length=np at hl20 s1'⊢;have HNP:Hid (qs.length=np):=hnp;clear hnp;go_in;go_wp2_with fail;clear s1'
 go_loopw [11] (fun x wr=>∃i:Nat,x=.int .i64 (i:Int)/\v4r qs n w i wr) (fun x _=>np-(intOf x).toNat)
 case atStart=>exact⟨0,rfl,HS0.o⟩
 case round=>
  clear HS0;obtain⟨i,rfl,hV⟩:=hrel;have hll:=HNP.o;have hle:=hV.le;have hln:=hV.ln;by_cases hlt:i<np
  ·have hii:(i:Int)<(np:Int):=by omega
   have hip:i<qs.length:=by omega
   obtain⟨ob,oo,rfl,hob,d00⟩:=HW.o i (by simpa using hip);rw[List.getElem_map]at d00;have d0:=((q1c hV.bl).1 _ _ hob).trans d00;have ht0:=HOK.o qs[i] (List.getElem_mem _);have hp0:=HPG.o qs[i] (List.getElem_mem _);rcases HKN.o with⟨_,e0⟩|⟨mb,rfl,hkn⟩
   ·rw[e0]at hip;simp at hip
   ·obtain⟨A6,c6,hlk,_,_,_⟩:=(hkn.kept (hV.bl.block mb hkn.lt)).look (List.getElem_mem hip) ht0;have s2:=HBC.o wr hV.bl;have hol:=k0e ht0 hp0 n;have HFO:=(show Hid (_=_)from k0h (ps:=qs) n hip)
    have HNX:Hid (Calls prog 47 #[.pointer (some ⟨w,0,none⟩),.string (wbS (q4r n qs[i]))] wr fun e w'=>(∃z,e=.returned (.tuple #[z,.nilIface]))/\v4r qs n w (i+1) w'):=by
     have hsz:=hV.bl.size;refine(q7h 96 w.heap.size w.heap.size (Lib.byteCells (q3k n (qs.take i))) [] (wbS (q4r n qs[i])) wr g1c g6g hV.x (by rw[Lib.byteCells_length,q6h];omega) (by omega)).mono ?_;rintro e w'⟨rfl,q1,q2,_⟩;refine⟨⟨_,rfl⟩,by omega,?_,?_,?_,?_⟩
     ·have hz:=hV.z;rw[j1c hip,q4o hp0]at hz;exact hz
     ·rw[HFO.o,q3j];exact q1
     ·exact hV.bl.trans (q2.W Zl)
     ·rw[HFO.o,List.length_append];omega
    clear hkn hV d00 ht0 hp0 HFO hol;generalize wbS (q4r n qs[i])=S6 at hlk HNX;have hfl:=v6o;go_wp2_with fail;refine HNX.o.mono ?_;rintro e w4⟨⟨q,rfl⟩,h4⟩;have HX4:Hid (v4r qs n w (i+1) w4):=h4;clear h4;go_wp2;refine⟨⟨i+1,by go_num,HX4.o⟩,?_⟩;simp[intOf];omega
  ·have hii:¬(i:Int)<(np:Int):=by omega
   have hie:qs.take i=qs:=List.take_of_length_le (by omega);have hx:=hV.x;rw[hie]at hx;have HO:Hid (Calls prog 48 #[.pointer (some ⟨w,0,none⟩)] wr fun e w'=>e=.returned (.string (wbS (q3k n qs)))/\Below w wr w'):=z4c _ _ _ _ _ _ hx;have HB:Hid (Below w w wr):=hV.bl;clear hV hie hx;generalize hSS:wbS (q3k n qs)=S at HO;have HSS:Hid (wbS (q3k n qs)=S):=hSS;clear hSS;go_wp2_with fail;refine HO.o.mono ?_;rintro e w3⟨rfl,b3⟩;have HR3:Hid (Below w w w3):=HB.o.trans b3;clear b3;go_wp2;go_ret;refine⟨?_,HR3.o⟩;rw[HSS.o];rfl
inductive y9g (s:ByteArray) (old:List (List Td)):List (List Td)->Nat->Int->Int->Prop where
 | bad {ps k f} (hp:q2h s ps k f) (hf:f≠0):y9g s old old 0 k f
 | full {ps} (hp:q2h s ps 0 0) (hf:fmE ps≠0):y9g s old old 0 0 (fmE ps)
 | ok {ps} (hp:q2h s ps 0 0) (hf:fmE ps=0):y9g s old ps (frP ps old) 0 0
theorem ShM.fresh(w:World){n:Nat}(hw1:10<=n)(hw2:n<=100):ShM w (.slice none 0 0) (.map none) [] n:=
 ⟨fun t ht=>by simp at ht,fun t ht=>by simp at ht,fun t ht=>by simp at ht,by simp,hw1,hw2,⟨none,0,rfl,z3p.nil _ _ _⟩,.inl ⟨rfl,rfl⟩⟩
theorem z1s.fresh(T:TypeId)(w:World){n:Nat}(hw1:10<=n)(hw2:n<=100):z1s T (w.alloc (.cells #[.int .i64 (n:Int),.slice none 0 0,.map none] T)) w.heap.size [] n:=
 ⟨_,_,by show(w.heap.push _)[w.heap.size]?=_;simp,ShM.fresh _ hw1 hw2⟩
theorem y4x{n:Nat}(hw1:10<=n)(hw2:n<=100)(w:World):
  Calls prog 28 #[.int .i64 (n:Int)] w fun e w'=>e=.returned (.tuple #[.pointer (some ⟨w,0,none⟩),.nilIface])/\z1s 143 w' w.heap.size [] n/\Below w w w':=by
 have HW:Hid (Calls prog 46 #[.int .i64 (n:Int)] w fun e w'=>e=.returned .nilIface/\w=w'):=v1y hw1 hw2 w;go_in;go_wp2_with fail;refine HW.o.mono ?_;rintro e w1⟨rfl,rfl⟩;go_wp2;go_ret2;exact⟨rfl,z1s.fresh _ w hw1 hw2,q1t w _⟩
theorem j7g{T:TypeId}{qs:List (List Td)}{n b:Nat}(w:World)(hS:z1s T w b qs n):
  Calls prog 30 #[.pointer (some ⟨b,0,none⟩)] w fun e w'=>e=.returned (.string (wbS (q3k n qs)))/\Below w w w':=by
 have HD:Hid (Calls prog 73 #[.pointer (some ⟨b,0,none⟩)] w fun e w'=>e=.returned (.string (wbS (q3k n qs)))/\Below w w w'):=j7o qs n b w hS;clear hS;generalize wbS (q3k n qs)=S at HD⊢;go_in;go_wp2_with fail;refine HD.o.mono ?_;rintro e w1⟨rfl,b1⟩;go_wp2;go_ret;exact⟨rfl,b1⟩
theorem k9t{T:TypeId}(s:ByteArray)(old:List (List Td))(n d:Nat)(w:World)(hS:z1s T w d old n)(ht:q5u w):
  Calls prog 29 #[.pointer (some ⟨d,0,none⟩),.string s] w fun e w'=>∃qs x k f,e=.returned (.tuple #[.int .i64 (x:Nat),.int .i64 k,q0s f])/\y9g s old qs x k f/\z1s T w' d qs n/\q0p w d w w':=by
 have HS:Hid (z1s T w d old n):=hS;have HT:Hid (q5u w):=ht;have HSY:Hid (Calls prog 20 #[.string s] w fun e w'=>∃ps k f A c,e=.returned (.tuple #[.slice A ps.length c,.int .i64 k,q0s f])/\q2h s ps k f/\Prg w' A ps/\ps.length<=c/\Below w w w'):=q4g s w ht;clear hS ht;go_in;go_wp2_with fail;refine HSY.o.mono ?_;rintro e w2⟨ps,k,f,A,c,rfl,hR,hP,_,b2⟩;have HB2:Hid (Below w w w2):=b2;have HS2:Hid (z1s T w2 d old n):=HS.o.W b2;by_cases hf:f=0
 ·subst hf;obtain⟨rfl,_,hl20,hall⟩:=q2g hR;have HF:Hid (Calls prog 72 #[.pointer (some ⟨d,0,none⟩),.slice A ps.length c] w2 fun e w'=>y1b ps old n w2 e w'):=j2x old ps n d A c w2 HS2.o hP hall (z4b hR) hl20 (HT.o.W b2);have HR:Hid (q2h s ps 0 0):=hR;rw[q0e];clear hP b2 hall hR HSY;generalize ps.length=np at HF⊢;go_wp2_with fail;refine HF.o.mono ?_;rintro e w3⟨b3,h3⟩;have HS3:Hid (z1s T w3 d old n):=HS2.o.W b3;have HB3:Hid (Below w w w3):=q0c HB2.o Zl b3;clear b3;rcases h3 with⟨hz,ov,mv,rfl,hM⟩|⟨hz,rfl⟩
  ·have HM:Hid (ShM w3 ov mv ps n):=hM;obtain⟨A3,c3,rfl,_⟩:=hM.ord
   obtain⟨m3,rfl⟩:∃m3,mv=.map m3:=by
    rcases hM.kn with⟨rfl,_⟩|⟨b,rfl,_⟩
    ·exact⟨_,rfl⟩
    ·exact⟨_,rfl⟩
   have HS4:Hid (z1s T (w3.alloc (.cells #[.int .i64 (n:Int),.slice A3 ps.length c3,.map m3] 141)) d old n):=HS3.o.W (q1t w3 _);have HM4:Hid (ShM (w3.alloc (.cells #[.int .i64 (n:Int),.slice A3 ps.length c3,.map m3] 141)) (.slice A3 ps.length c3) (.map m3) ps n):=hM.W (q1t w3 _);have HB4:Hid (Below w w (w3.alloc (.cells #[.int .i64 (n:Int),.slice A3 ps.length c3,.map m3] 141))):=HB3.o.trans ((q1t w3 _).mono HB3.o.size);have HZ:Hid (fmE ps=0):=hz;obtain⟨oA,oc,om,s0,s1,s2,sf,_,_⟩:=HS4.o.cell;have sf0:=sf 0;have sf1:=sf 1;have sf2:=sf 2;clear hM hz HF sf;go_wp2;go_ret3;obtain⟨q1,q2⟩:=HS4.o.put HM4.o;exact⟨ps,_,0,0,rfl,.ok HR.o HZ.o,q1,(q0p.of HB4.o).trans (q2.mono HB4.o.size)⟩
  ·have HZ:Hid (fmE ps≠0):=hz;have HE:Hid (q0s (fmE ps)=.iface 22 (.int .i64 (fmE ps))):=q0f hz;rw[HE.o];clear hz HF;go_wp2;go_ret3;exact⟨old,0,0,fmE ps,by rw[HE.o];rfl,.full HR.o HZ.o,HS3.o.W (q1t w3 _),q0p.of (HB3.o.trans ((q1t w3 _).mono HB3.o.size))⟩
 ·have HE:Hid (q0s f=.iface 22 (.int .i64 f)):=q0f hf;have HR:Hid (q2h s ps k f/\f≠0):=⟨hR,hf⟩;rw[HE.o];clear hR hP b2 hf HSY;generalize ps.length=np;go_wp2;go_ret3;exact⟨old,0,k,f,by rw[HE.o];rfl,.bad HR.o.1 HR.o.2,HS2.o,q0p.of HB2.o⟩
end Go.Proofs.YthcpdohdppkmkaaGreatDoor
