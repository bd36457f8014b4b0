import Derived.Test.YthcpdohdppkmkaaGreatDoorPu47
open Go.Proofs.Tryz
namespace Go.Proofs.YthcpdohdppkmkaaGreatDoor
open Go Go.RowKit
set_option maxRecDepth 100000
set_option maxHeartbeats 8000000
theorem z7h{s:ByteArray}{wd:Int}{T:ByteArray}{k:Int}(h:q9v s wd T k 0):∃(n:Nat)(ps:List (List Td)),wd=(n:Int)/\10<=n/\n<=100/\k=0/\q2h s ps 0 0/\fmE ps=0/\T=wbS (q3k n ps):=by
 generalize hz:(0:Int)=z at h;cases h with
 | range=>cases hz
 | bad _ _ hf=>exact absurd hz.symm hf
 | full _ _ hf=>exact absurd hz.symm hf
 | ok h hp hf=>exact⟨wd.toNat,_,by omega,by omega,by omega,rfl,hp,hf,rfl⟩
theorem k4b{s:ByteArray}{old ps qs:List (List Td)}{x:Nat}{k f:Int}(hp:q2h s ps 0 0)(he:fmE ps=0)(h:y9g s old qs x k f):qs=ps/\f=0:=by
 cases h with
 | bad h0 hf=>exact absurd (q0k h0 hp).2.2 hf
 | full h0 hf=>rw[(q0k h0 hp).1]at hf;exact absurd he hf
 | ok h0 _=>exact⟨(q0k h0 hp).1,rfl⟩
theorem k9e{w0 w w':World}{d:Nat}(h:Below w0 w0 w)(k:q0p w d w w')(hd:w0.heap.size<=d):Below w0 w0 w':=h.trans ((k.mono h.size).W hd)
theorem j8g:∀{p q:List (List Td)},fmE p=0->fmE q=0->fmE (p++q)=0
 | [],_,_,h=>h
 | t::r,q,h,h'=>by
  have h1:pgE t=0:=by
   by_cases hz:pgE t=0
   ·exact hz
   ·rw[z5a hz]at h;exact absurd h hz
  rw[q4o h1]at h;rw[List.cons_append,q4o h1];exact j8g h h'
theorem v6q{p q:List (List Td)}{n:Nat}(hw1:10<=n)(hw2:n<=100)(hp:(q0q p).2=0)(hq:(q0q q).2=0)(ep:fmE p=0)(eq:fmE q=0)(hne:p≠[])(hl:p.length+q.length<=20)(hn:∀t u,p.getLast?=some t->q.head?=some u->¬(opT t=9/\opT u=9)){T:ByteArray}{k f:Int}(h:q9v (wbS (q3k n p)++wbS (q3k n q)) (n:Int) T k f):f=3\/f=0/\T=wbS (q3k n p)++wbS (q3k n q):=by
 have e:wbS (q3k n p)++wbS (q3k n q)=wbS (q3k n (p++q)):=by rw[y5e,k1h]
 rw[e]at h⊢;rcases v6r (v1v hp hq hne hl hn) n with h1|⟨k',h1⟩
 ·have h2:=q9v.ok (q8q hw1 hw2) h1 (j8g ep eq);obtain⟨rfl,_,rfl⟩:=z9g h h2;exact .inr ⟨rfl,rfl⟩
 ·have h2:=q9v.bad (q8q hw1 hw2) h1 (by decide);exact .inl (z9g h h2).2.2
theorem k3y{w:World}{A:Option Addr}{ps:List (List Td)}{i:Nat}(hP:Prg w A ps)(h:i<ps.length)(h0:0<ps[i].length):∃b o b' o' c',A=some ⟨b,o,none⟩/\w.cell? ⟨b,o+i,none⟩=some (.slice (some ⟨b',o',none⟩) ps[i].length c')/\w.cell? ⟨b',o',none⟩=some (.int .i64 (opT ps[i])):=by
 obtain⟨b,o,a',c',e,_,c1,_,hT⟩:=hP i h;obtain⟨b',o',rfl,_,d1,_,_⟩:=hT 0 h0;refine⟨b,o,b',o',c',e,c1,?_⟩;rw[k0f h0];simpa using d1
theorem k4u{t:List Td}(h:q0d t=0):0<t.length:=by
 cases t with
 | nil=>exact absurd h (by decide)
 | cons x r=>simp
theorem k4o(hF:y3l)(hO:g4d)(s t:ByteArray)(wd:Int)(w:World)(hg:Hnd w)(ht:q5u w):
  Calls prog 6 #[.string s,.string t,.int .i64 wd] w fun e w'=>e=.returned (.bool true)/\Below w w w':=by
 have HON:Hid (Calls prog 17 #[] w fun e w'=>e=.returned (.bool true)/\Below w w w'):=q8v hF w ht;have HFM:Hid (∀(W:World)(s:ByteArray)(wd:Int),Below w w W->Calls prog 18 #[.string s,.int .i64 wd] W fun e w'=>∃T k f,e=.returned (.tuple #[.string T,.int .i64 k,q0s f])/\q9v s wd T k f/\Below W W w'):=fun W s wd h=>hF s wd W (ht.W h)
 have HSY:Hid (∀(W:World)(s:ByteArray),Below w w W->Calls prog 20 #[.string s] W fun e w'=>∃ps k f A c,e=.returned (.tuple #[.slice A ps.length c,.int .i64 k,q0s f])/\q2h s ps k f/\Prg w' A ps/\ps.length<=c/\Below W W w'):=fun W s h=>q4g s W (ht.W h)
 have HSE:Hid (∀(n:Int)(W:World),Below w w W->Calls prog 14 #[q0s n,.int .i64 3] W fun e w'=>e=.returned (.bool (n==3))/\Below W W w'):=fun n W h=>v9l n 3 W (hg.W h)
 have HTB:Hid (∀W,Below w w W->q5u W):=fun W h=>ht.W h
 have HO:Hid g4d:=hO;clear ht hF hg hO;go_in;go_wp2_with fail;refine HON.o.mono ?_;rintro e w1⟨rfl,b1⟩;have HB1:Hid (Below w w w1):=b1;clear b1 HON;go_wp2_with fail;refine(HFM.o _ _ _ HB1.o).mono ?_;rintro e w2⟨T,k,f,rfl,hR,b2⟩;have HB2:Hid (Below w w w2):=q0c HB1.o Zl b2;clear b2 HB1;go_wp2_with fail;refine(HFM.o _ _ _ HB2.o).mono ?_;rintro e w3⟨U,k',f',rfl,hR',b3⟩;have HB3:Hid (Below w w w3):=q0c HB2.o Zl b3;clear b3 HB2;by_cases hf:f=0
 ·subst hf;rw[q0e];by_cases hf':f'=0
  ·subst hf';rw[q0e];have hz1:=(k6b hR).2.1;have hz2:=(k6b hR').2.1;obtain⟨n,ps,rfl,hw1,hw2,rfl,hp,he,hT⟩:=z7h hR;obtain⟨n',qs,hn',_,_,rfl,hq,he',hU⟩:=z7h hR';obtain rfl:n=n':=by omega
   have HP:Hid (q2h s ps 0 0):=hp;have HQ:Hid (q2h t qs 0 0):=hq;have HE:Hid (fmE ps=0):=he;have HE':Hid (fmE qs=0):=he';have HTT:Hid (T=wbS (q3k n ps)):=hT;have HUU:Hid (U=wbS (q3k n qs)):=hU;have htt:(T.toList==T.toList)=true:=by simp
   have hw1':=hw1;have HAL:Hid (∀t∈ps,q0d t=0):=(q2g hp).2.2.2;have HAL':Hid (∀t∈qs,q0d t=0):=(q2g hq).2.2.2;have hl20:=(q2g hp).2.2.1;have hl20':=(q2g hq).2.2.1;clear hR hR' hn' hp hq he he' hT hU;go_wp2_with fail;refine(HSY.o _ _ HB3.o).mono ?_;rintro e w4⟨ps4,k4,f4,A,c,rfl,h4,hA,hc4,b4⟩;obtain⟨rfl,rfl,rfl⟩:=q0k HP.o h4;rw[q0e];have HB4:Hid (Below w w w4):=q0c HB3.o Zl b4;have HA4:Hid (Prg w4 A ps):=hA;clear b4 h4 hA HB3 hc4;generalize hnp:ps.length=np at hl20⊢;have HNP:Hid (ps.length=np):=hnp;clear hnp;go_wp2_with fail;refine(HSY.o _ _ HB4.o).mono ?_;rintro e w5⟨qs5,k5,f5,A',c',rfl,h5,hA',hc5,b5⟩;obtain⟨rfl,rfl,rfl⟩:=q0k HQ.o h5;rw[q0e];have HB5:Hid (Below w w w5):=q0c HB4.o Zl b5;have HA5:Hid (Prg w5 A ps):=HA4.o.W b5;have HA5':Hid (Prg w5 A' qs):=hA';clear b5 h5 hA' HB4 HA4 hc5 HSY;generalize hnq:qs.length=nq at hl20'⊢;have HNQ:Hid (qs.length=nq):=hnq;clear hnq;go_wp2_with fail
   go_loopw [18,19] (fun x i wr=>Below w5 w5 wr/\∃j:Nat,j<=np/\i=.int .i64 (j:Int)/\x=.string (wbS (q3k n (ps.take j)))) (fun _ i _=>np-(intOf i).toNat)
   case atStart=>exact⟨Below.refl _ _,0,Nat.zero_le _,rfl,by simp[q3k];rfl⟩
   case round=>
    obtain⟨hbr,j,hj,rfl,rfl⟩:=hrel;have HBr:Hid (Below w5 w5 wr):=hbr;have HBw:Hid (Below w w wr):=q0c HB5.o Zl hbr;by_cases hlt:j<np
    ·have hki:(j:Int)<(np:Int):=by omega
     have hjp:j<ps.length:=by rw[HNP.o];exact hlt
     obtain⟨b0,o0,A0,c0,rfl,hb0,d0,hc0,hT0⟩:=(HA5.o.W hbr) j hjp;have ht0:=HAL.o ps[j] (List.getElem_mem _)
     have hz0:pgE ps[j]=0:=by
      have h9:=HE.o;exact z9f ps h9 _ (List.getElem_mem _)
     have HO1:Hid (Calls prog 22 #[.slice A0 ps[j].length c0,.int .i64 (n:Int)] wr fun e w'=>e=.returned (.tuple #[.string (wbS (q4r n ps[j])),.nilIface])/\Below wr wr w'):=by
      have h9:=HO.o ps[j] A0 c0 (n:Int) wr hc0 hT0 (z4b HP.o ps[j] (List.getElem_mem _)) (HTB.o _ HBw.o);have e1:z5m ps[j] (n:Int)=0:=by rw[z2r (q8q hw1 hw2) ht0];exact hz0
      rw[z5n e1,e1,q0e]at h9;exact h9
     have HFO:Hid (wbS (q3k n (ps.take (j+1)))=wbS (q3k n (ps.take j))++wbS (q4r n ps[j])):=by
      show _=_;rw[k0h n hjp,k1h]
     have hwz:(wbS (q4r n ps[j])).size<=2000001:=by rw[q6h];exact k0e ht0 hz0 n
     have htz:(wbS (q3k n (ps.take j))).size<=100000000:=by
      rw[q6h];have h9:=k6c n (ps.take j) (fun t ht=>HAL.o t (List.mem_of_mem_take ht)) (k6a _ fun t ht=>z9f ps HE.o t (List.mem_of_mem_take ht));have h8:(ps.take j).length<=20:=by rw[List.length_take];omega
      have h7:=Nat.mul_le_mul_right 2000001 h8;omega
     clear hbr hT0 ht0 hz0 hc0;generalize ps[j].length=tn at d0 HO1;generalize wbS (q4r n ps[j])=X at *;generalize wbS (q3k n (ps.take j))=Y at *;go_wp2_with fail;refine HO1.o.mono ?_;rintro e w6⟨rfl,b6⟩;have HB6:Hid (Below w5 w5 w6):=q0c HBr.o Zl b6;clear b6;go_wp2
     go_roundw
     case rel=>exact⟨HB6.o,j+1,by omega,by go_num,by rw[HFO.o]⟩
     case measure=>simp[intOf];omega
    ·have hki:¬(j:Int)<(np:Int):=by omega
     have hje:ps.take j=ps:=List.take_of_length_le (by have:=HNP.o;omega);rw[hje,<-HTT.o];clear hje hbr;go_wp2_with fail;refine(y4x hw1 hw2 wr).mono ?_;rintro e w6⟨rfl,hS6,b6⟩;have HS6:Hid (z1s 143 w6 wr.heap.size [] n):=hS6;have HB6:Hid (Below w5 w5 w6):=q0c HBr.o Zl b6;have HD:Hid (w5.heap.size<=wr.heap.size):=HBr.o.size;clear hS6 b6 HBr HBw;generalize wr.heap.size=d at *;go_wp2_with fail;refine(k9t t [] n d w6 HS6.o (HTB.o _ (q0c HB5.o Zl HB6.o))).mono ?_;rintro e w7⟨qs7,x7,k7,f7,rfl,h7,hS7,b7⟩;obtain⟨rfl,rfl⟩:=k4b HQ.o HE'.o h7;rw[q0e];have HS7:Hid (z1s 143 w7 d qs7 n):=hS7;have HB7:Hid (Below w5 w5 w7):=k9e HB6.o b7 HD.o;clear hS7 b7 h7 HS6 HB6
     generalize(x7:Int)=z7
     go_wp2_with fail;refine(k9t s qs7 n d w7 HS7.o (HTB.o _ (q0c HB5.o Zl HB7.o))).mono ?_;rintro e w8⟨ps8,x8,k8,f8,rfl,h8,hS8,b8⟩;obtain⟨rfl,rfl⟩:=k4b HP.o HE.o h8;rw[q0e];have HB8:Hid (Below w5 w5 w8):=k9e HB7.o b8 HD.o
     have HTX:Hid (Calls prog 30 #[.pointer (some ⟨d,0,none⟩)] w8 fun e w'=>e=.returned (.string T)/\Below w8 w8 w'):=by
      have h9:=j7g w8 hS8;rw[<-HTT.o]at h9;exact h9
     clear hS8 b8 h8 HS7 HB7
     generalize(x8:Int)=z8
     go_wp2_with fail;refine HTX.o.mono ?_;rintro e w9⟨rfl,b9⟩;have HB9:Hid (Below w5 w5 w9):=q0c HB8.o Zl b9;have HBz:Hid (Below w w w9):=q0c HB5.o Zl HB9.o;have HA9:Hid (Prg w9 A ps8):=HA5.o.W HB9.o;have HA9':Hid (Prg w9 A' qs7):=HA5'.o.W HB9.o;clear b9 HB8 HTX HB9 HA5 HA5' HB5;by_cases g1:np=0
     ·subst g1;go_wp2;go_ret;exact⟨rfl,HBz.o⟩
     ·by_cases g2:nq=0
      ·subst g2;have g1':((np:Int)==0)=false:=by simp;omega
       go_wp2;go_ret;exact⟨rfl,HBz.o⟩
      ·obtain⟨p,rfl⟩:∃p,np=p+1:=⟨np-1,by omega⟩;obtain⟨q,rfl⟩:∃q,nq=q+1:=⟨nq-1,by omega⟩;have hpl:p<ps8.length:=by rw[HNP.o];omega
       have hql:0<qs7.length:=by rw[HNQ.o];omega
       have hpb:p<=19:=by omega
       have hqb:q<=19:=by omega
       clear g1 g2 hl20 hl20';by_cases g3:20<p+1+(q+1)
       ·have g3':(20:Int)<(p:Int)+1+((q:Int)+1):=by omega
        clear g3;go_wp2;go_ret;exact⟨rfl,HBz.o⟩
       ·have g3':¬(20:Int)<(p:Int)+1+((q:Int)+1):=by omega
        have HL2:Hid (ps8.length+qs7.length<=20):=by
         show _<=_;rw[HNP.o,HNQ.o];omega
        have hpp:=k4u (HAL.o ps8[p] (List.getElem_mem _));have hqp:=k4u (HAL'.o qs7[0] (List.getElem_mem _));obtain⟨b1,o1,b2,o2,c2,rfl,d1,d2⟩:=k3y HA9.o hpl hpp;obtain⟨b3,o3,b4,o4,c4,rfl,d3,d4⟩:=k3y HA9'.o hql hqp;rw[Nat.add_zero]at d3
        have HNN:Hid (¬(opT ps8[p]=9/\opT qs7[0]=9)->∀{X:ByteArray}{k f:Int},q9v (T++U) (n:Int) X k f->f=3\/f=0/\X=T++U):=fun hno X k f h=>by
         rw[HTT.o,HUU.o]at h⊢;refine v6q hw1 hw2 (q3c HP.o).2.2 (q3c HQ.o).2.2 HE.o HE'.o (fun e=>by rw[e]at hpl;simp at hpl) HL2.o ?_ h;intro t u ht hu
         have e1:t=ps8[p]:=by
          rw[List.getLast?_eq_getElem?]at ht
          have:ps8.length-1=p:=by rw[HNP.o];omega
          rw[this,List.getElem?_eq_getElem hpl]at ht;exact(Option.some.inj ht).symm
         have e2:u=qs7[0]:=by
          rw[List.head?_eq_getElem?,List.getElem?_eq_getElem hql]at hu;exact(Option.some.inj hu).symm
         rw[e1,e2];exact hno
        have hpp1:(0:Int)<(ps8[p].length:Int):=by omega
        have hqp1:(0:Int)<(qs7[0].length:Int):=by omega
        have y1:(((p:Int)+1)==0)=false:=by simp;omega
        have y2:(((q:Int)+1)==0)=false:=by simp;omega
        clear g3 hpp hqp;generalize ps8[p].length=pl at *;generalize qs7[0].length=ql at *;generalize opT ps8[p]=po at *;generalize opT qs7[0]=qo at *;by_cases g4:po=9
        ·subst g4;by_cases g5:qo=9
         ·subst g5;go_wp2;go_ret;exact⟨rfl,HBz.o⟩
         ·have g5':(qo==9)=false:=by simpa using g5
          have HNF:Hid (∀{X:ByteArray}{k f:Int},q9v (T++U) (n:Int) X k f->f=3\/f=0/\X=T++U):=HNN.o (fun h=>g5 h.2);clear HNN HP HQ HE HE' HTT HUU HAL HAL' HA9 HA9';go_wp2_with fail;refine(HFM.o _ _ _ HBz.o).mono ?_;rintro e wa⟨X,ka,fa,rfl,ha,ba⟩;have HBa:Hid (Below w w wa):=q0c HBz.o Zl ba;have hq:=HNF.o ha;clear ba ha HNF HBz;rcases hq with rfl|⟨rfl,rfl⟩
          ·go_wp2_with fail;refine(HSE.o 3 _ HBa.o).mono ?_;rintro e wb⟨rfl,bb⟩;have HBb:Hid (Below w w wb):=q0c HBa.o Zl bb;clear bb;generalize q0s 3=E3;go_wp2;go_ret;exact⟨rfl,HBb.o⟩
          ·have HS0:Hid (Calls prog 14 #[.nilIface,.int .i64 3] wa fun e w'=>e=.returned (.bool false)/\Below wa wa w'):=HSE.o 0 _ HBa.o;have htu:((T++U).toList==(T++U).toList)=true:=by simp
           rw[q0e];go_wp2_with fail;refine HS0.o.mono ?_;rintro e wb⟨rfl,bb⟩;have HBb:Hid (Below w w wb):=q0c HBa.o Zl bb;clear bb;go_wp2;go_ret;exact⟨rfl,HBb.o⟩
        ·have g4':(po==9)=false:=by simpa using g4
         have HNF:Hid (∀{X:ByteArray}{k f:Int},q9v (T++U) (n:Int) X k f->f=3\/f=0/\X=T++U):=HNN.o (fun h=>g4 h.1);clear HNN HP HQ HE HE' HTT HUU HAL HAL' HA9 HA9';go_wp2_with fail;refine(HFM.o _ _ _ HBz.o).mono ?_;rintro e wa⟨X,ka,fa,rfl,ha,ba⟩;have HBa:Hid (Below w w wa):=q0c HBz.o Zl ba;have hq:=HNF.o ha;clear ba ha HNF HBz;rcases hq with rfl|⟨rfl,rfl⟩
         ·go_wp2_with fail;refine(HSE.o 3 _ HBa.o).mono ?_;rintro e wb⟨rfl,bb⟩;have HBb:Hid (Below w w wb):=q0c HBa.o Zl bb;clear bb;generalize q0s 3=E3;go_wp2;go_ret;exact⟨rfl,HBb.o⟩
         ·have HS0:Hid (Calls prog 14 #[.nilIface,.int .i64 3] wa fun e w'=>e=.returned (.bool false)/\Below wa wa w'):=HSE.o 0 _ HBa.o;have htu:((T++U).toList==(T++U).toList)=true:=by simp
          rw[q0e];go_wp2_with fail;refine HS0.o.mono ?_;rintro e wb⟨rfl,bb⟩;have HBb:Hid (Below w w wb):=q0c HBa.o Zl bb;clear bb;go_wp2;go_ret;exact⟨rfl,HBb.o⟩
  ·rw[q0f hf'];clear hf' hR hR';go_wp2;go_ret;exact⟨rfl,HB3.o⟩
 ·rw[q0f hf];clear hf hR hR';generalize q0s f'=G;go_wp2;go_ret;exact⟨rfl,HB3.o⟩
theorem v9b{us:List Wd}{k:Nat}(h:k<us.length):plF (us.take (k+1))=plF (us.take k)++(if plB us[k]then [us[k]]else []):=by
 rw[List.take_succ_eq_append_getElem h,plF,List.filter_append]
 congr 1
 by_cases hb:plB us[k]=true
 ·rw[if_pos hb,List.filter_cons_of_pos hb,List.filter_nil]
 ·rw[if_neg hb,List.filter_cons_of_neg hb,List.filter_nil]
theorem z8f(us:List Wd)(hne:∀u∈us,u≠[])(hl:us.length<=60000)(a:Option Addr)(cap:Nat)(w:World)(hW:Wds w a (us.map wbS)):
  Calls prog 31 #[.slice a us.length cap] w fun e w'=>∃A c,e=.returned (.slice A (plF us).length c)/\Wds w' A ((plF us).map wbS)/\Below w w w':=by
 have HW:Hid (Wds w a (us.map wbS)):=hW;have HNE:Hid (∀u∈us,u≠[]):=hne;clear hW hne;go_in;go_wp2
 go_loopw [3,4] (fun v i wr=>∃(k:Nat)(A:Option Addr)(c m:Nat),v=.slice A m c/\i=.int .i64 (k:Int)/\k<=us.length/\(plF (us.take k)).length=m/\q1j w (.slice A m c) ((plF (us.take k)).map wbS) wr/\Below w w wr) (fun _ i _=>us.length-(intOf i).toNat)
 case atStart=>exact⟨0,none,0,0,rfl,rfl,Nat.zero_le _,rfl,World.ownsRow_nil _ _ _ _,Below.refl _ _⟩
 case round=>
  obtain⟨k,A,c,m,rfl,rfl,hk,hm,hO,hB⟩:=hrel;have HM:Hid ((plF (us.take k)).length=m):=hm;have HO:Hid (q1j w (.slice A m c) ((plF (us.take k)).map wbS) wr):=hO;have HB:Hid (Below w w wr):=hB
  have hmk:m<=60000:=by
   rw[<-hm];exact Nat.le_trans (List.length_filter_le _ _) (Nat.le_trans (List.length_take_le' _ _) hl)
  clear hm hO hB;by_cases hlt:k<us.length
  ·have hki:(k:Int)<(us.length:Int):=by omega
   obtain⟨g,o,rfl,hg,hc⟩:=HW.o k (by rw[List.length_map];exact hlt)
   have hc':wr.cell? ⟨g,o+k,none⟩=some (.string (wbS us[k])):=by
    rw[(HB.o.cell (p:=⟨g,_,none⟩) hg),hc,List.getElem_map]
   have hu0:=HNE.o _ (List.getElem_mem hlt);have HT:Hid (plF (us.take (k+1))=plF (us.take k)++(if plB us[k]then [us[k]]else [])):=v9b hlt;clear hc;generalize us[k]=u at hc' hu0 HT;have HU:Hid (u≠[]):=hu0;clear hu0;have q0:(⟨#[40]⟩:ByteArray).toList=[40]:=by rw[ByteArray.toList_eq]
   have q1:(⟨#[41]⟩:ByteArray).toList=[41]:=by rw[ByteArray.toList_eq]
   have hx:(wbS u).toList=u:=by rw[ByteArray.toList_eq];simp[wbS]
   by_cases hp:plB u=true
   ·have HE:Hid (plF (us.take (k+1))=plF (us.take k)++[u]):=(show _=_ by rw[HT.o,if_pos hp]);simp only[plB,Bool.and_eq_true,bne_iff_ne,ne_eq]at hp;obtain⟨⟨h40,h41⟩,h35⟩:=hp;have g0:((wbS u).toList==[40])=false:=by rw[hx];simp[h40]
    have g1:((wbS u).toList==[41])=false:=by rw[hx];simp[h41]
    obtain⟨hz,g2⟩:∃hz:0<(wbS u).size,((((wbS u)[0]).toNat:Int) != 35)=true:=by
     cases u with
     | nil=>exact absurd rfl HU.o
     | cons y r=>
      refine⟨by simp[wbS,ByteArray.size],?_⟩;have e:(wbS (y::r))[0]'(by simp[wbS,ByteArray.size])=y:=rfl;rw[e];simp only[bne_iff_ne,ne_eq];exact fun h=>h35 (UInt8.toNat_inj.1 (by simpa using(by omega:y.toNat=35)))
    have hz1:(0:Int)<((wbS u).size:Int):=by omega
    clear h40 h41 h35 HT hx HU;have hsz:=HB.o.size;generalize hs:wbS u=x at *;have HS:Hid (wbS u=x):=hs;clear hs;obtain⟨i0,hi0,hz0,hz3,hz2⟩:=info_parts z3g;have hsl:(strCells ((plF (us.take k)).map wbS)).length=m:=by simp[strCells];exact HM.o
    have HO2:Hid (wr.ownsRow w.heap.size 9 1 (.slice A m c) m (strCells ((plF (us.take k)).map wbS))):=by
     have h:=HO.o;unfold q1j at h;rw[List.length_map,HM.o]at h;exact h
    go_wp2_with(at_builtin;refine wpList_append_lies _ rfl _ _ 42 rfl w.heap.size 9 i0 _ 1 16 Tryz.underlying42 hi0 hz0 hz3 hz2 rfl (by decide) _ _ _ rfl (World.ownsRow.alloc HO2.o _) ⟨wr,0,none⟩ 1 1 [.string x] rfl rfl (cell_one_new wr _ _) (by intro u hu;simp at hu;subst hu;rfl) (by decide) (by unfold maxLen;omega) (by omega) (by simp;omega) (wr.heap.size+1) (by simp) ?_);intro g2 cap2 w3 hown3 hgrow3 hat3 hlt3;have hb3:=(HB.o.alloc (by omega) (.cells #[.string x] 9)).grown hgrow3 (by simp;omega) (fun j hj=>(World.ownsRow.lt HO2.o j hj).1)
    have hO3:q1j w (.slice (some ⟨g2,0,none⟩) (m+1) cap2) ((plF (us.take (k+1))).map wbS) w3:=by
     show w3.ownsRow _ _ _ _ _ _;rw[HE.o,List.map_append,q3e,List.length_append,List.length_map,HM.o];simp only[List.map_cons,List.map_nil,HS.o];exact hown3
    have HO3:Hid (q1j w (.slice (some ⟨g2,0,none⟩) (m+1) cap2) ((plF (us.take (k+1))).map wbS) w3):=hO3;have HB3:Hid (Below w w w3):=hb3;have HM3:Hid ((plF (us.take (k+1))).length=m+1):=(show _=_ by rw[HE.o,List.length_append,HM.o];rfl);clear hown3 hgrow3 hb3 hO3 hat3 hlt3 HO2 hsl;go_wp2
    go_roundw
    case rel=>exact⟨k+1,some ⟨g2,0,none⟩,cap2,m+1,rfl,by go_num,by omega,HM3.o,HO3.o,HB3.o⟩
    case measure=>simp[intOf];omega
   ·have HE:Hid (plF (us.take (k+1))=plF (us.take k)):=(show _=_ by rw[HT.o,if_neg hp];exact List.append_nil _);by_cases h40:u=[40]
    ·have g0:((wbS u).toList==[40])=true:=by rw[hx,h40];rfl
     clear hx hp h40;clear HT HU;generalize wbS u=x at *;go_wp2
     go_roundw
     case rel=>exact⟨k+1,A,c,m,rfl,by go_num,by omega,by rw[HE.o];exact HM.o,by rw[HE.o];exact HO.o,HB.o⟩
     case measure=>simp[intOf];omega
    ·have g0:((wbS u).toList==[40])=false:=by rw[hx];simp[h40]
     by_cases h41:u=[41]
     ·have g1:((wbS u).toList==[41])=true:=by rw[hx,h41];rfl
      clear hx hp h40 h41;clear HT HU;generalize wbS u=x at *;go_wp2
      go_roundw
      case rel=>exact⟨k+1,A,c,m,rfl,by go_num,by omega,by rw[HE.o];exact HM.o,by rw[HE.o];exact HO.o,HB.o⟩
      case measure=>simp[intOf];omega
     ·have g1:((wbS u).toList==[41])=false:=by rw[hx];simp[h41]
      obtain⟨hz,g2⟩:∃hz:0<(wbS u).size,((((wbS u)[0]).toNat:Int) != 35)=false:=by
       cases u with
       | nil=>exact absurd rfl HU.o
       | cons y r=>
        refine⟨by simp[wbS,ByteArray.size],?_⟩;have e:(wbS (y::r))[0]'(by simp[wbS,ByteArray.size])=y:=rfl;rw[e]
        have h35:y=35:=by
         simp only[plB,Bool.and_eq_true,bne_iff_ne,ne_eq,not_and,Decidable.not_not]at hp;exact hp ⟨h40,h41⟩
        rw[h35];rfl
      have hz1:(0:Int)<((wbS u).size:Int):=by omega
      clear hx hp h40 h41;clear HT HU;generalize wbS u=x at *;go_wp2
      go_roundw
      case rel=>exact⟨k+1,A,c,m,rfl,by go_num,by omega,by rw[HE.o];exact HM.o,by rw[HE.o];exact HO.o,HB.o⟩
      case measure=>simp[intOf];omega
  ·have hki:¬(k:Int)<(us.length:Int):=by omega
   have he:us.take k=us:=List.take_of_length_le (by omega);have HO2:Hid (Wds wr A ((plF us).map wbS)):=(show Wds wr A _ by have h:=HO.o;rw[he]at h;exact q6g h);have HM2:Hid ((plF us).length=m):=(show _=_ by have h:=HM.o;rw[he]at h;exact h);clear he HO HM;go_wp2;go_ret;exact⟨A,⟨c,by rw[HM2.o];rfl⟩,HO2.o,HB.o⟩
theorem k7l(xs:List ByteArray)(a b:Option Addr)(ca cb:Nat)(w:World)(hx:Wds w a xs)(hy:Wds w b xs)(hl:xs.length<=9223372036854775807):
  Calls prog 32 #[.slice a xs.length ca,.slice b xs.length cb] w fun e w'=>e=.returned (.bool true)/\∃q,w'=w.drewN q:=by
 have HX:Hid (Wds w a xs):=hx;have HY:Hid (Wds w b xs):=hy;have hle':((xs.length:Int) != (xs.length:Int))=false:=by simp
 clear hx hy;go_in;go_wp2
 go_loopw [5] (fun i wr=>(∃q:Nat,wr=w.drewN q)/\∃k:Nat,k<=xs.length/\i=.int .i64 k) (fun i _=>xs.length-(intOf i).toNat)
 case atStart=>exact⟨⟨0,rfl⟩,0,Nat.zero_le _,rfl⟩
 case round=>
  obtain⟨⟨q,rfl⟩,k,hk,rfl⟩:=hrel;by_cases hlt:k<xs.length
  ·have hi1:(k:Int)<(xs.length:Int):=by omega
   obtain⟨b1,o1,ea,_,c1⟩:=HX.o k hlt;obtain⟨b2,o2,eb,_,c2⟩:=HY.o k hlt;subst ea eb;generalize xs[k]=x at c1 c2;go_wp2_with fail
   go_quiet (fail)
   go_wp2
   go_roundw
   case rel=>exact⟨⟨_,rfl⟩,k+1,by omega,by go_num⟩
   case measure=>simp[intOf];omega
  ·go_wp2;go_ret;exact⟨rfl,q,rfl⟩
theorem v2n(n:Nat)(xs:List ByteArray)(hn:xs.length=n)(a b:Option Addr)(ca cb:Nat)(w:World)(hx:Wds w a xs)(hy:Wds w b xs)(hl:xs.length<=9223372036854775807):
  Calls prog 32 #[.slice a n ca,.slice b n cb] w fun e w'=>e=.returned (.bool true)/\∃q,w'=w.drewN q:=by
 subst hn;exact k7l xs a b ca cb w hx hy hl
theorem k4t(hF:y3l)(s:ByteArray)(wd:Int)(w:World)(ht:q5u w):
  Calls prog 7 #[.string s,.int .i64 wd] w fun e w'=>e=.returned (.bool true)/\Below w w w':=by
 have HON:Hid (Calls prog 17 #[] w fun e w'=>e=.returned (.bool true)/\Below w w w'):=q8v hF w ht;have HFM:Hid (∀(W:World),Below w w W->Calls prog 18 #[.string s,.int .i64 wd] W fun e w'=>∃T k f,e=.returned (.tuple #[.string T,.int .i64 k,q0s f])/\q9v s wd T k f/\Below W W w'):=fun W h=>hF s wd W (ht.W h)
 clear ht hF;go_in;go_wp2_with fail;refine HON.o.mono ?_;rintro e w1⟨rfl,b1⟩;have HB1:Hid (Below w w w1):=b1;clear b1 HON;go_wp2_with fail;refine(HFM.o _ HB1.o).mono ?_;rintro e w2⟨T,k,f,rfl,hR,b2⟩;have HB2:Hid (Below w w w2):=q0c HB1.o Zl b2;clear b2 HB1 HFM;by_cases hf:f=0
 ·subst hf;obtain⟨ps,hp1,hp2⟩:=z5b hR;have e1:=(q3c hp1).1;have e2:=(q3c hp2).1;have l1:=z9m e1;have l2:=z9m e2;have HPL:Hid (plF (q1d (btL T))=plF (q1d (btL s))):=(show _=_ by rw[z7y hp1,z7y hp2])
  have HW1:Hid (∀W,Calls prog 19 #[.string s] W fun e w'=>(∃A P ac pc,e=.returned (.tuple #[.slice A (q1d (btL s)).length ac,.slice P (q1d (btL s)).length pc,.int .i64 0,.nilIface])/\Wds w' A ((q1d (btL s)).map wbS))/\Below W W w'):=fun W=>(z6f s W).mono fun e w'⟨h,b⟩=>by
   rcases h with⟨h,_⟩|⟨_,A,P,ac,pc,he,h2⟩
   ·exact absurd e1 h
   ·exact⟨⟨A,P,ac,pc,he,h2.ws⟩,b⟩
  have HW2:Hid (∀W,Calls prog 19 #[.string T] W fun e w'=>(∃A P ac pc,e=.returned (.tuple #[.slice A (q1d (btL T)).length ac,.slice P (q1d (btL T)).length pc,.int .i64 0,.nilIface])/\Wds w' A ((q1d (btL T)).map wbS))/\Below W W w'):=fun W=>(z6f T W).mono fun e w'⟨h,b⟩=>by
   rcases h with⟨h,_⟩|⟨_,A,P,ac,pc,he,h2⟩
   ·exact absurd e2 h
   ·exact⟨⟨A,P,ac,pc,he,h2.ws⟩,b⟩
  have HN1:Hid (∀u∈q1d (btL s),u≠[]):=fun u hu e=>by
   have:=k0q (z6d _ u hu)
   rw[e]at this;simp at this
  have HN2:Hid (∀u∈q1d (btL T),u≠[]):=fun u hu e=>by
   have:=k0q (z6d _ u hu)
   rw[e]at this;simp at this
  rw[q0e];clear hR hp1 hp2 e1 e2;generalize q1d (btL s)=us at *;generalize q1d (btL T)=vs at *;have HL1:Hid (us.length<=60000):=l1;have HL2:Hid (vs.length<=60000):=l2;clear l1 l2;go_wp2_with fail;refine(HW1.o _).mono ?_;rintro e w3⟨⟨A3,P3,ac3,pc3,rfl,hq3⟩,b3⟩;have HB3:Hid (Below w w w3):=q0c HB2.o Zl b3;have HQ3:Hid (Wds w3 A3 (us.map wbS)):=hq3;clear b3 HB2 hq3 HW1;generalize hn1:us.length=n1;have HNA:Hid (us.length=n1):=hn1;clear hn1;go_wp2_with fail;refine(HW2.o _).mono ?_;rintro e w4⟨⟨A4,P4,ac4,pc4,rfl,hq4⟩,b4⟩;have HB4:Hid (Below w w w4):=q0c HB3.o Zl b4;have HQ4:Hid (Wds w4 A4 (vs.map wbS)):=hq4
  have HPa:Hid (Calls prog 31 #[.slice A3 n1 ac3] w4 fun e w'=>∃A c,e=.returned (.slice A (plF us).length c)/\Wds w' A ((plF us).map wbS)/\Below w4 w4 w'):=by
   have h:=z8f us HN1.o HL1.o A3 ac3 w4 (HQ3.o.W b4);rw[HNA.o]at h;exact h
  clear b4 HB3 hq4 HW2 HQ3;generalize hn2:vs.length=n2;have HNB:Hid (vs.length=n2):=hn2;clear hn2;generalize hm:(plF us).length=m at HPa;have HM:Hid ((plF us).length=m):=hm;clear hm;go_wp2_with fail;refine HPa.o.mono ?_;rintro e w5⟨A5,c5,rfl,hq5,b5⟩;have HB5:Hid (Below w w w5):=q0c HB4.o Zl b5;have HQ5:Hid (Wds w5 A5 ((plF us).map wbS)):=hq5
  have HPb:Hid (Calls prog 31 #[.slice A4 n2 ac4] w5 fun e w'=>∃A c,e=.returned (.slice A m c)/\Wds w' A ((plF us).map wbS)/\Below w5 w5 w'):=by
   have h:=z8f vs HN2.o HL2.o A4 ac4 w5 (HQ4.o.W b5);rw[HNB.o,HPL.o,HM.o]at h;exact h
  clear b5 HB4 hq5 HPa HQ4;go_wp2_with fail;refine HPb.o.mono ?_;rintro e w6⟨A6,c6,rfl,hq6,b6⟩;have HB6:Hid (Below w w w6):=q0c HB5.o Zl b6
  have HST:Hid (Calls prog 32 #[.slice A5 m c5,.slice A6 m c6] w6 fun e w'=>e=.returned (.bool true)/\∃q,w'=w6.drewN q):=v2n m ((plF us).map wbS) (by rw[List.length_map];exact HM.o) A5 A6 c5 c6 w6 (HQ5.o.W b6) hq6 (by
   have h1:(plF us).length<=us.length:=List.length_filter_le _ _;have h2:=HL1.o;rw[List.length_map]
   omega)
  clear b6 HB5 hq6 HPb HQ5;go_wp2_with fail;refine HST.o.mono ?_;rintro e w7⟨rfl,q,rfl⟩;go_wp2;go_ret;exact⟨rfl,q5n HB6.o q⟩
 ·rw[q0f hf];clear hf hR;go_wp2;go_ret;exact⟨rfl,HB2.o⟩
end Go.Proofs.YthcpdohdppkmkaaGreatDoor
