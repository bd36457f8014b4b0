import Derived.Test.YthcpdohdppkmkaaGreatDoorPl42
open Go.Proofs.Tryz
namespace Go.Proofs.YthcpdohdppkmkaaGreatDoor
open Go Go.RowKit
set_option maxRecDepth 100000
set_option maxHeartbeats 4000000
inductive v1u (ps:List (List Td)) (wd:Nat):Ending->Prop where
 | ok (h:fmE ps=0) (hf:∀t∈ps,fwW t):v1u ps wd (.returned (.tuple #[.string (wbS (q7t wd ps)),.int .i64 0,.bool true]))
 | full (h:fmE ps≠0):v1u ps wd (.returned (.tuple #[.string ⟨#[]⟩,.int .i64 (fmE ps),.bool true]))
 | many (hm:¬∀t∈ps,fwW t):v1u ps wd (.returned (.tuple #[.string ⟨#[]⟩,.int .i64 0,.bool false]))
theorem k2d{t:List Td}(h:pgE t≠0):pgE t=3:=by
 unfold pgE at h⊢
 split
 ·rename_i h9;rw[if_pos h9]at h;exact absurd rfl h
 ·rename_i h9;rw[if_neg h9]at h
  split
  ·rfl
  ·rename_i hm;rw[if_neg hm]at h;exact absurd rfl h
structure v9u(ps:List (List Td))(wd:Nat)(w:World)(i:Nat)(wr:World):Prop where
 le:i<=ps.length
 z:fmE (ps.drop i)=fmE ps
 b:Below w w wr
 ln:(q7t wd (ps.take i)).length<=i*2000001
 fw:∀t∈ps.take i,fwW t
theorem y0x{ps:List (List Td)}{i:Nat}(h:i<ps.length):ps.drop i=ps[i]::ps.drop (i+1):=List.drop_eq_getElem_cons h
theorem y1e{ps:List (List Td)}{i:Nat}(wd:Nat)(h:i<ps.length):q7t wd (ps.take (i+1))=q7t wd (ps.take i)++z4l wd ps[i]:=by
 rw[q7t,List.take_succ_eq_append_getElem h,List.flatMap_append];simp[q7t]
theorem k4a{ps:List (List Td)}(G:∀t∈ps,q0c t=0)(Y:ps.length<=20)(wd:Nat)(o:10<=wd)(p:wd<=100)(a:Option Addr)(cap:Nat)(w:World)(hP:Prg w a ps):
  Calls prog 11 #[.slice a ps.length cap,.int .i64 (wd:Int)] w fun e w'=>v1u ps wd e/\Below w w w':=by
 have HP:Hid (Prg w a ps):=hP;have HA:Hid (∀t∈ps,q0c t=0):=G;clear hP G;generalize hn:ps.length=n at Y⊢;have HN:Hid (ps.length=n):=hn;clear hn;have d:Hid (v9u ps wd w 0 w):=⟨Nat.zero_le _,rfl,Below.refl _ _,by simp[q7t],fun t h=>by simp at h⟩;go_in;go_wp2_with fail
 go_loopw [7,8] (fun s x wr=>∃i:Nat,x=.int .i64 (i:Int)/\s=.string (wbS (q7t wd (ps.take i)))/\v9u ps wd w i wr) (fun _ x _=>n-(intOf x).toNat)
 case atStart=>exact⟨0,rfl,rfl,d.o⟩
 case round=>
  obtain⟨i,rfl,rfl,E⟩:=hrel;have Ac:=HN.o;have Ab:=E.le;by_cases Ad:i<n
  ·have g:(i:Int)<(n:Int):=by omega
   have D:i<ps.length:=by omega
   obtain⟨b0,o0,r,y,rfl,Aa,d0,U,R⟩:=(HP.o.W E.b) i D;have L:=HA.o ps[i] (List.getElem_mem _);have B:Hid (Calls prog 40 #[.slice r ps[i].length y,.int .i64 (wd:Int)] wr fun e w'=>j1u ps[i] wd e/\Below wr wr w'):=j0g L wd o p r y wr R;have v:=hid E;have V:=y0x D;have M:=E.z;rw[V]at M;have O:=(show Hid (_=_)from M);have A:=(show Hid (_=_)from y1e (ps:=ps) wd D);have C:Hid (q0c ps[i]=0):=L;have k:=E.ln;clear E V M L R;have I:Hid (∀t,t∈ps.take (i+1)↔t∈ps.take i\/t=ps[i]):=fun t=>by rw[List.take_succ_eq_append_getElem D,List.mem_append,List.mem_singleton]
   have J:Hid (ps[i]∈ps):=List.getElem_mem D;generalize j:ps[i]=t at I J B O A C d0 U;generalize t.length=tn at B d0;clear j U;go_wp2_with fail;refine B.o.mono ?_;rintro e w1⟨hR,c⟩;have H:Hid (Below w w w1):=q0e v.o.b Zl c;cases hR with
   | ok hz hfw=>
    have Z:=k4v C.o hz wd
    have HX:Hid (v9u ps wd w (i+1) w1):=by
     refine⟨by omega,?_,H.o,?_,fun u hu=>?_⟩
     ·have:=O.o
      rw[z8i hz]at this;exact this
     ·rw[A.o,List.length_append];omega
     ·rcases(I.o u).1 hu with q|rfl
      ·exact v.o.fw u q
      ·exact hfw
    have f:Hid (wbS (q7t wd (ps.take (i+1)))=wbS (q7t wd (ps.take i))++wbS (z4l wd t)):=by
     show _=_;rw[A.o,q1y]
    have l:(wbS (q7t wd (ps.take i))).size<=50000000:=by rw[z1c];omega
    have m:(wbS (z4l wd t)).size<=2000001:=by rw[z1c];exact Z
    clear hz Z c B k O A C hfw I J;generalize wbS (q7t wd (ps.take i))=S at f l⊢;generalize wbS (z4l wd t)=T at f m⊢;have g1:¬9223372036854775807<S.size+T.size:=by omega
    go_wp2;refine⟨⟨i+1,by go_num,?_,HX.o⟩,?_⟩
    ·rw[f.o]
    ·simp[intOf];omega
   | full hz=>
    have N:Hid (v1u ps wd (.returned (.tuple #[.string ⟨#[]⟩,.int .i64 3,.bool true]))):=by
     have P:=O.o;rw[k3q hz,k2d hz]at P;have Q:=v1u.full (ps:=ps) (wd:=wd) (by rw[<-P];decide);rw[<-P]at Q;exact Q
    rw[k2d hz];clear hz c B k O A C;go_wp2;go_ret3;exact⟨N.o,H.o⟩
   | many s hm=>
    have N:Hid (v1u ps wd (.returned (.tuple #[.string ⟨#[]⟩,.int .i64 0,.bool false]))):=.many fun h=>hm (h t J.o)
    clear c B k O A C hm;go_wp2;go_ret3;exact⟨N.o,H.o⟩
  ·have g:¬(i:Int)<(n:Int):=by omega
   have K:ps.take i=ps:=List.take_of_length_le (by omega);have X:ps.drop i=[]:=List.drop_eq_nil_of_le (by omega);rw[K]
   have N:Hid (v1u ps wd (.returned (.tuple #[.string (wbS (q7t wd ps)),.int .i64 0,.bool true]))):=by
    have P:=E.z;have Q:=E.fw;rw[X]at P;rw[K]at Q;exact .ok P.symm Q
   have HB:Hid (Below w w wr):=E.b;clear E K X;generalize wbS (q7t wd ps)=S at N⊢;go_wp2;go_ret3;exact⟨N.o,HB.o⟩
end Go.Proofs.YthcpdohdppkmkaaGreatDoor
