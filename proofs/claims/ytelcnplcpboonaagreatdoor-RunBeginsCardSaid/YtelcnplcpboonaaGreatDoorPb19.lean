import Derived.Test.YtelcnplcpboonaaGreatDoorPb14
import Derived.Lib.AppendIntMem
import Derived.Lib.ItoaNum
import Derived.Test.YtelcnplcpboonaaGreatDoorPb11
import Derived.BigQuiet
import Derived.Deep.QuietTactic
open Go.Proofs.Tryz
namespace Go.Proofs.YtelcnplcpboonaaGreatDoor
open Go Go.RowKit
set_option maxRecDepth 100000
set_option maxHeartbeats 2000000
theorem k2g(n:Nat):Lib.decDigits n=q1u n:=by
 induction n using Nat.strongRecOn with
 | ind n ih=>
  rw[Lib.decDigits,q1u];by_cases h:n<10
  ·rw[dif_pos h,dif_pos (by omega)]
  ·rw[dif_neg h,dif_neg (by omega),ih (n / 10) (by omega)]
theorem q8w(n:Int)(h0:0<=n)(h1:n<=999999)(w:World)(ht:z4x w):Calls prog 62 #[.int .i64 n] w fun e w'=>e=.returned (.string (wbS (q1u n.toNat)))/\Below w w w':=by
 refine(itoa_sh n (by omega) (by omega) w ht).mono ?_;rintro e w'⟨rfl,k,A,rfl⟩;refine⟨?_,Lib.below_grow _ _ Zl _ _⟩;rw[Lib.itoa,if_neg (by omega),k2g];rfl
abbrev ExC(w0:World)(b:Nat)(x:Td)(k:Fo):Prop:=∀(bs:List UInt8)(rest:List Td)(w:World),bs.length+(q2v x k.R).length<=500000->WyE w0 b bs (x::(k.N++rest)) w->
 Calls prog 168 #[.pointer (some ⟨b,0,none⟩)] w fun e w'=>e=.returned (.tuple #[])/\WyE w0 b (bs++q2v x k.R) rest w'
def v7v(w0:World)(b:Nat):Fo->Prop
 | .nil=>True
 | .cons x k n=>ExC w0 b x k/\v7v w0 b n
theorem v5c{w0:World}{b:Nat}(ht:z4x w0)(n:Int)(h0:0<=n)(h9:n<=999999)(tx:ByteArray):ExC w0 b ⟨1,tx,n⟩ .nil:=by
 intro J B w P O;obtain⟨A,c,h⟩:=O;have H:Hid (Calls prog 166 #[.pointer (some ⟨b,0,none⟩)] w fun e C=>e=.returned (tdV ⟨1,tx,n⟩)/\WyE w0 b J B C):=q4j h;have K:Hid (q2v ⟨1,tx,n⟩ Fo.nil.R=q1u n.toNat):=rfl;rw[K.o]at P⊢;have L:Hid (z4x w0):=ht;clear h ht;go_in;go_wp2_with fail;refine H.o.mono ?_;rintro e D⟨rfl,Q,U,E⟩;have G:Hid (∀W:World,Below D D W->Calls prog 62 #[.int .i64 n] W fun e C=>e=.returned (.string (wbS (q1u n.toNat)))/\Below W W C):=fun W hb=>q8w n h0 h9 W ((L.o.W E.bl).W hb)
 have I:Hid (∀W:World,Below D D W->Calls prog 10 #[.pointer (some ⟨b,0,none⟩),.string (wbS (q1u n.toNat))] W fun e C=>(∃z,e=.returned (.tuple #[z,.nilIface]))/\WyE w0 b (J++q1u n.toNat) B C):=fun W hb=>by
  refine(q4k (E.grew hb) (wbS (q1u n.toNat)) (by omega) (by rw[<-q0b,y8o];omega)).mono ?_;rintro e C⟨rfl,h,_⟩;exact⟨⟨_,rfl⟩,_,_,h⟩
 generalize wbS (q1u n.toNat)=S at G I;clear E H;go_wp2_with fail
 go_region_with (first|(go_at_call 62;refine(G.o _ (z1m D _)).mono ?_;rintro e V⟨rfl,M⟩)|(go_at_call 10;refine(I.o _ (q0g (z1m D _) Zl M)).mono ?_;rintro e X⟨⟨z,rfl⟩,N⟩))
 all_goals
  go_wp2
  go_end0
  exact⟨rfl,N⟩
theorem j8x{w0:World}{b:Nat}(tx:ByteArray)(n:Int):ExC w0 b ⟨2,tx,n⟩ .nil:=by
 intro G B w M L;obtain⟨A,c,h⟩:=L;have E:Hid (Calls prog 166 #[.pointer (some ⟨b,0,none⟩)] w fun e C=>e=.returned (tdV ⟨2,tx,n⟩)/\WyE w0 b G B C):=q4j h;have I:Hid (q2v ⟨2,tx,n⟩ Fo.nil.R=btL tx):=rfl;rw[I.o]at M⊢;clear h;go_in;go_wp2_with fail;refine E.o.mono ?_;rintro e D⟨rfl,N,O,H⟩
 have J:Hid (∀W:World,Below D D W->Calls prog 10 #[.pointer (some ⟨b,0,none⟩),.string tx] W fun e C=>(∃z,e=.returned (.tuple #[z,.nilIface]))/\WyE w0 b (G++btL tx) B C):=fun W hb=>by
  refine(q4k (H.grew hb) tx (by omega) (by rw[<-q0b];omega)).mono ?_;rintro e C⟨rfl,h,_⟩;exact⟨⟨_,rfl⟩,_,_,h⟩
 clear H E;go_wp2_with fail
 go_region_with (go_at_call 10;refine(J.o _ (z1m D _)).mono ?_;rintro e P⟨⟨z,rfl⟩,K⟩)
 all_goals
  go_wp2
  go_end0
  exact⟨rfl,K⟩
abbrev KdC(w0:World)(b:Nat)(F:Fo)(o z:UInt8):Prop:=∀(bs:List UInt8)(rest:List Td)(w:World),bs.length+(cmx F.R).length+2<=500000->WyE w0 b bs (F.N++rest) w->
 Calls prog 207 #[.pointer (some ⟨b,0,none⟩),.int .i64 (F.len:Int),.int .u8 (o.toNat:Int),.int .u8 (z.toNat:Int)] w fun e w'=>e=.returned (.tuple #[])/\WyE w0 b (bs++o::(cmx F.R++[z])) rest w'
theorem j8w{w0:World}{b:Nat}{F:Fo}(tx:ByteArray)(hK:KdC w0 b F 91 93):ExC w0 b ⟨4,tx,(F.len:Int)⟩ F:=by
 intro C B w I M;obtain⟨A,c,h⟩:=M;have G:Hid (Calls prog 166 #[.pointer (some ⟨b,0,none⟩)] w fun e w'=>e=.returned (tdV ⟨4,tx,(F.len:Int)⟩)/\WyE w0 b C (F.N++B) w'):=q4j h;have J:Hid (q2v ⟨4,tx,(F.len:Int)⟩ F.R=91::(cmx F.R++[93])):=rfl;rw[J.o]at I⊢;have E:Hid (KdC w0 b F 91 93):=hK;clear h hK;simp only[List.length_cons,List.length_append,List.length_nil]at I;go_in;go_wp2_with fail;refine G.o.mono ?_;rintro e D⟨rfl,O,P,H⟩;have K:Hid (∀W:World,Below D D W->Calls prog 207 #[.pointer (some ⟨b,0,none⟩),.int .i64 (F.len:Int),.int .u8 91,.int .u8 93] W fun e w'=>e=.returned (.tuple #[])/\WyE w0 b (C++91::(cmx F.R++[93])) B w'):=fun W hb=>E.o C B W (by omega) ⟨_,_,H.grew hb⟩
 clear H G E;go_wp2_with fail;refine(K.o _ (q1c D _)).mono ?_;rintro e Q⟨rfl,L⟩;go_wp2
 go_end0
 exact⟨rfl,L⟩
theorem j8v{w0:World}{b:Nat}{F:Fo}(tx:ByteArray)(hK:KdC w0 b F 40 41):ExC w0 b ⟨3,tx,(F.len:Int)⟩ F:=by
 intro I B w Q K;obtain⟨A,c,h⟩:=K;have O:Hid (Calls prog 166 #[.pointer (some ⟨b,0,none⟩)] w fun e D=>e=.returned (tdV ⟨3,tx,(F.len:Int)⟩)/\WyE w0 b I (F.N++B) D):=q4j h;have M:Hid (q2v ⟨3,tx,(F.len:Int)⟩ F.R=btL tx++40::(cmx F.R++[41])):=rfl;rw[M.o]at Q⊢;have L:Hid (KdC w0 b F 40 41):=hK;clear h hK;simp only[List.length_cons,List.length_append,List.length_nil]at Q;go_in;go_wp2_with fail;refine O.o.mono ?_;rintro e E⟨rfl,a,d,J⟩
 have U:Hid (∀W:World,Below E E W->Calls prog 10 #[.pointer (some ⟨b,0,none⟩),.string tx] W fun e D=>(∃z,e=.returned (.tuple #[z,.nilIface]))/\WyE w0 b (I++btL tx) (F.N++B) D/\Lib.OthersKept 5 (some b) W D):=fun W hb=>by
  refine(q4k (J.grew hb) tx (by omega) (by rw[<-q0b];omega)).mono ?_;rintro e D⟨rfl,h,Y⟩;exact⟨⟨_,rfl⟩,⟨_,_,h⟩,Y⟩
 have G:Hid (∀W:World,WyE w0 b (I++btL tx) (F.N++B) W->Calls prog 207 #[.pointer (some ⟨b,0,none⟩),.int .i64 (F.len:Int),.int .u8 40,.int .u8 41] W fun e D=>e=.returned (.tuple #[])/\WyE w0 b ((I++btL tx)++40::(cmx F.R++[41])) B D):=fun W K=>L.o _ B W (by rw[List.length_append];omega) K
 have X:b<E.heap.size:=J.x.lt;clear J O L;generalize F.len=fn at G M⊢;go_wp2_with fail
 go_region_with (go_at_call 10;refine(U.o _ (z1m E _)).mono ?_;rintro e S⟨⟨z,rfl⟩,V,H⟩)
 all_goals
  have C:S.heap[E.heap.size]?=some (.cells #[.int .i64 3,.string tx,.int .i64 (fn:Int)] 81 (0,0)):=H _ _ (heap_alloc_new E _) (by simp;omega) (fun c fz e=>by cases e);have Z:S.cell? ⟨E,2,none⟩=some (.int .i64 (fn:Int)):=by rw[Lib.cell_of_heap C];rfl
  clear C H;go_wp2_with fail;refine(G.o _ V).mono ?_;rintro e f⟨rfl,P⟩;go_wp2
  go_end0
  rw[List.append_assoc]at P;exact⟨rfl,P⟩
theorem j9k(ws:List ByteArray)(a:Option Addr)(A:Nat)(wd:Int)(w:World)(hW:Wds w a ws):
  Calls prog 196 #[.slice a ws.length A,.int .i64 wd] w fun e w'=>e=.returned (q0s (q5o ws wd))/\w=w':=by
 have E:Hid (Wds w a ws):=hW;clear hW;by_cases D:q1h ws=0
 ·have C:Hid (q1h ws=0):=D;clear D;by_cases I:wd<1
  ·have B:Hid (q5o ws wd=1):=by
    show q5o ws wd=1;rw[q5o,if_neg (by rw[C.o];simp),if_pos (.inl I)]
   go_in;go_wp2_with fail;refine(q5k ws a A _ E.o).mono ?_;rintro e G⟨rfl,rfl⟩;rw[C.o,q0q];go_wp2;go_ret;exact⟨by rw[B.o];rfl,rfl⟩
  by_cases J:100<wd
  ·have B:Hid (q5o ws wd=1):=by
    show q5o ws wd=1;rw[q5o,if_neg (by rw[C.o];simp),if_pos (.inr J)]
   go_in;go_wp2_with fail;refine(q5k ws a A _ E.o).mono ?_;rintro e G⟨rfl,rfl⟩;rw[C.o,q0q];go_wp2;go_ret;exact⟨by rw[B.o];rfl,rfl⟩
  ·have B:Hid (q5o ws wd=0):=by
    show q5o ws wd=0;rw[q5o,if_neg (by rw[C.o];simp),if_neg (by omega)]
   go_in;go_wp2_with fail;refine(q5k ws a A _ E.o).mono ?_;rintro e G⟨rfl,rfl⟩;rw[C.o,q0q];go_wp2;go_ret;exact⟨by rw[B.o];rfl,rfl⟩
 ·have B:Hid (q5o ws wd=q1h ws):=by
   show q5o ws wd=q1h ws;rw[q5o,if_pos D]
  have H:Hid (q0s (q1h ws)=.iface 50 (.int .i64 (q1h ws))):=q0h D;clear D;go_in;go_wp2_with fail;refine(q5k ws a A _ E.o).mono ?_;rintro e G⟨rfl,rfl⟩;rw[H.o];go_wp2;go_ret;exact⟨by rw[B.o,H.o];rfl,rfl⟩
theorem j9j(ws:List ByteArray)(a:Option Addr)(C:Nat)(w:World)(h0:ws≠[])(hF:Few ws)(hW:Wds w a ws):
  Calls prog 223 #[.slice a ws.length C] w fun e w'=>e=.returned (.int .i64 (ln ws))/\w=w':=by
 have I:Hid (Wds w a ws):=hW;have R:0<ws.length:=List.length_pos_iff.2 h0;have Q:=hF.1
 have G:Hid ((ln ws:Int)=(ws.length:Int)-1+tot ws):=by
  show(ln ws:Int)=_
  simp only[ln];omega
 have E:Hid (Few ws):=hF;clear hW hF h0;go_in;go_wp2
 go_loopw [3,11] (fun s i wr=>wr=w/\∃k:Nat,k<=ws.length/\i=.int .i64 k/\s=.int .i64 ((ws.length:Int)-1+tot (ws.take k))) (fun _ i _=>ws.length-(intOf i).toNat)
 case atStart=>exact⟨rfl,0,Nat.zero_le _,rfl,by simp[tot]⟩
 case round=>
  obtain⟨rfl,k,P,rfl,rfl⟩:=hrel;by_cases A:k<ws.length
  ·obtain⟨O,S,K,L,J⟩:=I.o k A;subst K;have B:Hid (tot (ws.take (k+1))=tot (ws.take k)+ws[k].size):=v5a A;have M:=(E.o.take k).tot;have N:=E.o.2 _ (List.getElem_mem A);generalize ws[k]=x at J B N;generalize tot (ws.take k)=t0 at B M;go_wp2
   go_roundw
   case rel=>exact⟨by trivial,k+1,by omega,by go_num,by rw[B.o];go_num⟩
   case measure=>simp[intOf];omega
  ·have D:k=ws.length:=by omega
   subst D;have H:Hid (tot (ws.take ws.length)=tot ws):=by show _=_;rw[List.take_length]
   go_wp2;go_ret;exact⟨by rw[G.o,<-H.o];rfl,rfl⟩
theorem v8f{n wd:Nat}{last:Bool}(h:wd<n):(bd n wd last:Int)=1000*((n:Int)-wd):=by
 rw[bd,if_pos h];omega
theorem v8e{n wd:Nat}(h:¬wd<n):bd n wd true=0:=by rw[bd,if_neg h];rfl
theorem v0j{n wd:Nat}(h:¬wd<n):(bd n wd false:Int)=((wd:Int)-n)*((wd:Int)-n):=by
 rw[bd,if_neg h];simp only[Bool.false_eq_true,if_false];rw[Int.natCast_mul]
 congr 1<;>omega
theorem v5k(n wd:Nat)(last:Bool)(w:World)(hn:n<=1260)(hw:wd<=100):
  Calls prog 222 #[.int .i64 n,.int .i64 wd,.bool last] w fun e w'=>e=.returned (.int .i64 (bd n wd last))/\w=w':=by
 by_cases h:wd<n
 ·have A:Hid ((bd n wd last:Int)=1000*((n:Int)-wd)):=v8f h;have B:(wd:Int)-n<0:=by omega
  clear h;go_in;go_wp2;go_ret;exact⟨by rw[A.o];go_num,rfl⟩
 ·cases last with
  | true=>
   have A:Hid (bd n wd true=0):=v8e h;have B:¬(wd:Int)-n<0:=by omega
   clear h;go_in;go_wp2;go_ret;exact⟨by rw[A.o];rfl,rfl⟩
  | false=>
   have A:Hid ((bd n wd false:Int)=((wd:Int)-n)*((wd:Int)-n)):=v0j h;have B:¬(wd:Int)-n<0:=by omega
   obtain⟨m,C⟩:∃m:Int,m=(wd:Int)-n:=⟨_,rfl⟩;have G:IntKind.i64.wrap ((wd:Int)-n)=(wd:Int)-n:=by rw[IntKind.wrap_i64];omega
   have H:IntKind.i64.wrap (((wd:Int)-n)*((wd:Int)-n))=((wd:Int)-n)*((wd:Int)-n):=by
    have D:0<=((wd:Int)-n)*((wd:Int)-n):=Int.mul_nonneg (by omega) (by omega);have E:((wd:Int)-n)*((wd:Int)-n)<=100*100:=Int.mul_le_mul (by omega) (by omega) (by omega) (by omega);rw[IntKind.wrap_i64];omega
   clear h C;go_in;go_wp2;go_ret;exact⟨by rw[A.o];rfl,rfl⟩
theorem k3i(c:Int)(h:c=0\/c=1)(w:World):Calls prog 259 #[.int .i64 c] w fun e w'=>e=.returned (.bool false)/\w=w':=by
 rcases h with rfl|rfl
 all_goals
  go_in;go_wp2;go_ret;exact⟨rfl,rfl⟩
theorem k0a(c:Int)(h0:c≠0)(h1:c≠1)(w:World):Calls prog 259 #[.int .i64 c] w fun e w'=>e=.returned (.bool true)/\w=w':=by
 have A:(c != 0)=true:=by simp[h0]
 have B:(c != 1)=true:=by simp[h1]
 clear h0 h1;go_in;go_wp2;go_ret;exact⟨rfl,rfl⟩
theorem q8u(ws:List Int)(wa:Option Addr)(wc:Nat)(w:World)(hI:z4j w wa ws)(hl:ws.length<=9223372036854775807):
  Calls prog 277 #[.slice wa ws.length wc,.func (.func 259) #[] #[]] w fun e w'=>((q1y ws/\e=.returned (.int .i64 (-1)))\/(¬q1y ws/\∃k:Nat,e=.returned (.int .i64 k)))/\w=w':=by
 have L:Hid (z4j w wa ws):=hI;clear hI;go_in;go_wp2_with fail
 go_loopw [8] (fun i wr=>wr=w/\∃k:Nat,k<=ws.length/\i=.int .i64 k/\∀j(h:j<ws.length),j<k->ws[j]=0\/ws[j]=1) (fun i _=>ws.length-(intOf i).toNat)
 case atStart=>exact⟨rfl,0,Nat.zero_le _,rfl,fun j _ I=>by omega⟩
 case round=>
  obtain⟨rfl,k,R,rfl,C⟩:=hrel;have K:Hid (∀j(h:j<ws.length),j<k->ws[j]=0\/ws[j]=1):=C;clear C;by_cases E:k<ws.length
  ·obtain⟨P,S,M,N,Q⟩:=L.o k E;subst M;by_cases A:ws[k]=0\/ws[k]=1
   ·have G:Hid (∀j(h:j<ws.length),j<k+1->ws[j]=0\/ws[j]=1):=fun j h I=>by
     by_cases J:j=k
     ·subst J;exact A
     ·exact K.o j h (by omega)
    have D:Hid (ws[k]=0\/ws[k]=1):=A;clear A;go_wp2_with fail;refine(k3i _ D.o _).mono ?_;rintro e O⟨rfl,rfl⟩;go_wp2
    go_roundw
    case rel=>exact⟨by trivial,k+1,by omega,by go_num,G.o⟩
    case measure=>simp[intOf];omega
   ·have D:Hid (¬(ws[k]=0\/ws[k]=1)):=A;clear A;go_wp2_with fail;refine(k0a _ (fun h=>D.o (.inl h)) (fun h=>D.o (.inr h)) _).mono ?_;rintro e O⟨rfl,rfl⟩;go_wp2;go_ret;exact⟨.inr ⟨fun B=>D.o (B _ (List.getElem_mem E)),k,rfl⟩,rfl⟩
  ·have B:q1y ws:=fun c hc=>by
    obtain⟨j,I,rfl⟩:=List.getElem_of_mem hc;exact K.o j I (by omega)
   have H:Hid (q1y ws):=B;clear B;go_wp2;go_ret;exact⟨.inl ⟨H.o,rfl⟩,rfl⟩
theorem y8p(ws:List Int)(wa:Option Addr)(wc:Nat)(w:World)(hI:z4j w wa ws)(hl:ws.length<=9223372036854775807)(h:q1y ws):
  Calls prog 258 #[.slice wa ws.length wc,.func (.func 259) #[] #[]] w fun e w'=>e=.returned (.bool false)/\w=w':=by
 have B:Hid (z4j w wa ws):=hI;have H:Hid (q1y ws):=h;clear hI h;go_in;go_wp2_with fail;refine(q8u ws wa wc _ B.o hl).mono ?_;rintro e C⟨A,rfl⟩;rcases A with⟨_,rfl⟩|⟨A,_⟩
 ·go_wp2;go_ret;exact⟨rfl,rfl⟩
 ·exact absurd H.o A
theorem y4c(ws:List Int)(wa:Option Addr)(wc:Nat)(w:World)(hI:z4j w wa ws)(hl:ws.length<=9223372036854775807)(h:¬q1y ws):
  Calls prog 258 #[.slice wa ws.length wc,.func (.func 259) #[] #[]] w fun e w'=>e=.returned (.bool true)/\w=w':=by
 have B:Hid (z4j w wa ws):=hI;have H:Hid (¬q1y ws):=h;clear hI h;go_in;go_wp2_with fail;refine(q8u ws wa wc _ B.o hl).mono ?_;rintro e D⟨A,rfl⟩;rcases A with⟨A,_⟩|⟨_,k,rfl⟩
 ·exact absurd A H.o
 ·have C:(0:Int)<=(k:Int):=by omega
  go_wp2;go_ret;exact⟨rfl,rfl⟩
end Go.Proofs.YtelcnplcpboonaaGreatDoor
namespace Go.Proofs.YtelcnplcpboonaaGreatDoor
noncomputable def q6r(ds:List Nd)(ws:List Int):Except Int (List UInt8):=if h:q2o ds=0 then(v6c ds h).show ws else .error (q2o ds)
theorem j7m{ds:List Nd}{ws:List Int}(h:q2o ds≠0):q6r ds ws=.error (q2o ds):=dif_neg h
theorem z5z{ds:List Nd}{ws:List Int}{t:Tr}(ht:t.Wf)(e:ds=t.N)(hl:ds.length<=400):q6r ds ws=t.show ws:=by
 have h:q2o ds=0:=by rw[e];exact q9n ht (by rw[<-e];exact hl)
 rw[q6r,dif_pos h,z6r h ht e]
theorem q8b:∀(t:Tr)(u:List Int),u∈t.ways->u.length<=t.N.length
 | .leaf _,u,h=>by simp[Tr.ways]at h;subst h;simp
 | .one x a,u,h=>by
  simp only[Tr.ways]at h;simp only[Tr.N,List.length_cons]
  split at h
  ·have:=q8b a u h;omega
  ·rcases List.mem_append.1 h with h|h
   ·split at h
    ·simp at h;subst h;simp
    ·simp at h
   ·obtain⟨v,hv,rfl⟩:=List.mem_map.1 h
    have:=q8b a v hv
    simp;omega
 | .two x a b,u,h=>by
  simp only[Tr.ways]at h;simp only[Tr.N,List.length_cons,List.length_append]
  split at h
  ·obtain⟨p,hp,hpq⟩:=List.mem_flatMap.1 h;obtain⟨q,hq,rfl⟩:=List.mem_map.1 hpq;have h1:=q8b a p hp;have h2:=q8b b q hq;rw[List.length_append];omega
  ·rcases List.mem_append.1 h with h|h
   ·obtain⟨v,hv,rfl⟩:=List.mem_map.1 h
    have:=q8b a v hv
    simp;omega
   ·obtain⟨v,hv,rfl⟩:=List.mem_map.1 h
    have:=q8b b v hv
    simp;omega
end Go.Proofs.YtelcnplcpboonaaGreatDoor
namespace Go.Proofs.YtelcnplcpboonaaGreatDoor
open Go Go.RowKit
def hdD(ps:List (Td × Tr)):Tr:=match ps with
 | p::_=>p.2
 | []=>wdD []
def q1a(t:List Td):Tr:=match j1p t with
 | .nil=>wdD []
 | .cons x k _=>stD x (hdD k.D)
theorem z7y{x:Td}{F:Fo}(h:F.ok)(hl:F.len=kdT x):q1a (x::F.N)=stD x (hdD F.D):=by
 rw[q1a,v7o h hl]
structure y8c(t:List Td):Prop where
 f:(q1a t).flat=some (q2n t)
 w:(q1a t).Wf
 e:(q1a t).noE
 n:(q1a t).N.length<=900
theorem y2e{F:Fo}(hl:F.len=1):∃y k,F=.cons y k .nil:=by
 cases F with
 | nil=>cases hl
 | cons y k n=>cases n with
  | nil=>exact⟨y,k,rfl⟩
  | cons _ _ _=>simp[Fo.len]at hl
theorem z8a{t:List Td}(h:q0c t=0)(h9:opT t≠9):∃(x y:Td)(k:Fo),t=x::(Fo.cons y k .nil).N/\(Fo.cons y k .nil).ok/\(Fo.cons y k .nil).exs/\(Fo.cons y k .nil).len=kdT x/\((x.op=7/\q1f x.tx=true/\x.n=0)\/(x.op=8/\x.tx=⟨#[]⟩/\x.n=0)):=by
 rcases q5y h with⟨x,rfl,A,_⟩|⟨x,F,rfl,C,B,D,E⟩
 ·exact absurd A h9
 ·obtain⟨y,k,rfl⟩:=y2e D;refine⟨x,y,k,rfl,C,B,?_,E⟩;rw[D];unfold kdT;rcases E with⟨A,_⟩|⟨A,_⟩<;>rw[A]<;>rfl
theorem z1d{t:List Td}(h:q0c t=0)(h9:opT t≠9):y8c t:=by
 have J:=(q4d h).1;obtain⟨x,y,k,rfl,E,I,U,Z⟩:=z8a h h9;have X:=z1y _ E I;have Y:=j2v _ E I;have W:=k2f (.cons y k .nil);have V:=z9a (.cons y k .nil);have B:q1a (x::(Fo.cons y k .nil).N)=stD x (q0n y k.D):=z7y E U;have S:q2n (x::(Fo.cons y k .nil).N)=stX x (Fo.cons y k .nil).R:=(z7z E U).1
 have M:(q0n y k.D).flat=some (q0x y k.R).tx:=by
  cases X with
  | cons h1 _=>exact h1.2
 have H:(q0n y k.D).Wf:=Y (y,q0n y k.D) (by simp[Fo.D]);have G:(q0n y k.D).noE:=W (y,q0n y k.D) (by simp[Fo.D])
 have O:(q0n y k.D).N.length+5<=20*(Fo.cons y k .nil).N.length:=by
  rw[Fo.D,q3m]at V
  have:z4t Fo.nil.D=0:=rfl
  exact Nat.le_trans (Nat.le_add_right _ _) V
 simp only[List.length_cons]at J;generalize q0n y k.D=D at B M H G O;have K:(wdD [59]).Wf:=z1q (by decide) (by decide) (by decide);have Q:(1:Int)≠4:=by decide
 have b:(2:Int)≠4:=by decide
 rcases Z with⟨L,P,_⟩|⟨L,_,_⟩
 ·obtain⟨d,e,a⟩:=z3i P;have C:stD x D=grD (twD (wdD ([108,101,116,32]++btL x.tx++[32,61])) (dpD (twD blD (twD D (wdD [59]))))):=by rw[stD,if_pos L]
  refine⟨?_,?_,?_,?_⟩
  ·rw[B,S,C,v1r,q5e (z2x _) (by rw[v1q];exact q5e v1p (q5e M (z2x _)))];simp[stX,L,hdT,Fo.R]
  ·rw[B,C];refine v5g (q6c (z1q (by simp) (by simp only[List.length_append,List.length_cons,List.length_nil];omega) fun c A=>?_) (v5f (q6c v5e (q6c H K))));rcases List.mem_append.1 A with A|A
   ·rcases List.mem_append.1 A with A|A
    ·simp at A;rcases A with rfl|rfl|rfl|rfl<;>decide
    ·exact a c A
   ·simp at A;rcases A with rfl|rfl<;>decide
  ·rw[B,C];exact⟨rfl,Q,rfl,b,rfl,G,Q⟩
  ·rw[B,C];simp only[Tr.N,List.length_cons,List.length_append,List.length_nil];omega
 ·have C:stD x D=twD D (wdD [59]):=by rw[stD,if_neg (by omega)]
  refine⟨?_,?_,?_,?_⟩
  ·rw[B,S,C,q5e M (z2x _)];simp[stX,L,hdT,Fo.R]
  ·rw[B,C];exact q6c H K
  ·rw[B,C];exact⟨rfl,G,Q⟩
  ·rw[B,C];simp only[Tr.N,List.length_cons,List.length_append,List.length_nil];omega
theorem v9r:∀g:List Wd,jnL (g.map wbS)=jb g
 | []=>rfl
 | [w]=>by simp[jnL,jb,wbS,Lib.join_one]
 | w::u::r=>by
  have ih:=v9r (u::r);have e:jb (w::u::r)=w++32::jb (u::r):=rfl;rw[e,<-ih];simp[jnL,wbS,Lib.join_cons,Lib.joinTail]
def ntL(wd:Nat)(tx:ByteArray):List UInt8:=if q0i (btL tx)=[]then [35,10]else(k8u ((q0i (btL tx)).map wbS) (z2q (wd-2) ((q0i (btL tx)).map wbS))).flatMap fun l=>35::32::(btL l++[10])
def dcL(wd:Nat)(t:List Td):List UInt8:=(q1a t).txt (bs wd 0 [(0,q1a t)]).2++[10]
def k0d(t:List Td)(wd:Int):Int:=if wd<10\/100<wd then 1 else if q0c t≠0 then q0c t else if opT t=9 then 0 else if 400<(q1a t).N.length then 3 else 0
def q5g(wd:Nat)(t:List Td):List UInt8:=match t with
 | []=>[]
 | x::_=>if x.op=9 then ntL wd x.tx else dcL wd t
set_option maxRecDepth 100000
set_option maxHeartbeats 4000000
def y6n(ks:List Tn):List UInt8:=match ks with
 | []=>[]
 | _::_=>44::32::cmx ks
def y3k(i:Nat)(ks:List Tn):List UInt8:=if i=0 then cmx ks else y6n ks
theorem v8x(t:Tn)(r:List Tn):cmx (t::r)=t.tx++y6n r:=by
 cases r<;>rfl
structure y7q(w0:World)(b:Nat)(rest:List Td)(T:List UInt8)(n:Nat)(i:Nat)(G:Fo)(bs:List UInt8)(w:World):Prop where
 n:i+G.len=n
 e:v7v w0 b G
 w:WyE w0 b bs (G.N++rest) w
 t:bs++y3k i G.R=T
theorem k1i{w0:World}{b:Nat}{F:Fo}(hE:v7v w0 b F)(hn:F.len<=1000)(o z:UInt8):KdC w0 b F o z:=by
 intro I B w hl O;obtain⟨A,c,h⟩:=O
 have r:Hid (Calls prog 132 #[.pointer (some ⟨b,0,none⟩),.int .u8 (o.toNat:Int)] w fun e D=>e=.returned .nilIface/\WyE w0 b (I++[o]) (F.N++B) D):=by
  refine(q6w h o (by omega)).mono ?_;rintro e D⟨rfl,K⟩;exact⟨rfl,_,_,K⟩
 have s:Hid (∀W:World,WyE w0 b (I++[o]++cmx F.R) B W->CallsD prog 132 #[.pointer (some ⟨b,0,none⟩),.int .u8 (z.toNat:Int)] .returning W fun e n D=>n=.returning/\(e=.returned .nilIface/\WyE w0 b (I++o::(cmx F.R++[z])) B D)):=fun W O=>by
  obtain⟨A,c,h⟩:=O;refine(k1h h z .returning (by simp only[List.length_append,List.length_cons,List.length_nil];omega)).mono ?_;rintro e n D⟨rfl,rfl,K⟩;refine⟨rfl,rfl,A,c,?_⟩;have V:I++o::(cmx F.R++[z])=I++[o]++cmx F.R++[z]:=by simp
  rw[V];exact K
 have Z:Hid (∀Y,WyE w0 b (I++[o]) (F.N++B) Y->y7q w0 b B (I++[o]++cmx F.R) F.len 0 F (I++[o]) Y):=fun Y K=>⟨by omega,hE,K,rfl⟩
 have U:Hid ((I++[o]++cmx F.R).length<=500000):=(show _<=_ by simp only[List.length_append,List.length_cons,List.length_nil];omega);clear h hE hl;generalize F.len=fn at Z hn⊢;generalize I++[o]++cmx F.R=T at Z s U;go_enter_defers func207,ntmps207;go_wp2_with fail;refine r.o.mono ?_;rintro e Y⟨rfl,K⟩;have g:=hid (Z.o Y K);clear K r Z;go_wp2_with fail
 go_loopw [19] (fun x wr=>∃(i:Nat)(G:Fo)(C:List UInt8),x=.int .i64 (i:Int)/\y7q w0 b B T fn i G C wr) (fun x _=>fn-(intOf x).toNat)
 case atStart=>exact⟨0,F,_,rfl,g.o⟩
 case round=>
  obtain⟨i,G,C,rfl,u⟩:=hrel;have S:=U.o;cases G with
  | nil=>
   obtain⟨P,_,L,H⟩:=u;have Ac:¬(i:Int)<(fn:Int):=by simp only[Fo.len]at P;omega
   have X:C=T:=by
    rw[<-H];unfold y3k
    split<;>simp[Fo.R,cmx,y6n]
   have j:Hid (WyE w0 b T B wr):=(show WyE w0 b T B wr by rw[<-X];exact L);clear L H X P;go_wp2;refine leaves_cons (f:=132) (args:=#[.pointer (some ⟨b,0,none⟩),.int .u8 (z.toNat:Int)]) (by simp) (by simp[go_sem]) ?_;refine(s.o _ j.o).mono ?_;rintro e n Ae⟨rfl,rfl,h5⟩;exact⟨_,results_none rfl _ _ _,rfl,h5⟩
  | cons y k G'=>
   obtain⟨P,hE,L,H⟩:=u;have Ad:(i:Int)<(fn:Int):=by simp only[Fo.len]at P;omega
   have Ab:i+1+G'.len=fn:=by simp only[Fo.len]at P;omega
   have a:Hid (ExC w0 b y k):=hE.1;have p:Hid (v7v w0 b G'):=hE.2;have l:(Fo.cons y k G').R=q0x y k.R::G'.R:=rfl;have V:(Fo.cons y k G').N++B=y::(k.N++(G'.N++B)):=by simp[Fo.N]
   rw[V]at L;rw[l]at H;have E:=v8x (q0x y k.R) G'.R;have Q:(q0x y k.R).tx=q2v y k.R:=rfl;rw[Q]at E;by_cases t:i=0
   ·subst t;rw[y3k,if_pos rfl,E]at H
    have M:Hid (∀W,WyE w0 b C (y::(k.N++(G'.N++B))) W->Calls prog 168 #[.pointer (some ⟨b,0,none⟩)] W fun e D=>e=.returned (.tuple #[])/\y7q w0 b B T fn 1 G' (C++q2v y k.R) D):=fun W O=>by
     refine(a.o C (G'.N++B) W (by rw[<-H]at S;simp only[List.length_append]at S;omega) O).mono ?_;rintro e D⟨rfl,m⟩;exact⟨rfl,by omega,p.o,m,by rw[y3k,if_neg (by omega),List.append_assoc];exact H⟩
    have HW:=hid L;clear L H E l V hE a P Q;go_wp2_with fail;refine(M.o _ HW.o).mono ?_;rintro e w2⟨rfl,d⟩;go_wp2;refine⟨⟨1,G',_,rfl,d⟩,?_⟩;simp[intOf];omega
   ·rw[y3k,if_neg t]at H
    have J:C++[44,32]++(q2v y k.R++y6n G'.R)=T:=by
     rw[<-H,<-E];simp[y6n]
    have Aa:0<(i:Int):=by omega
    have HC:Hid (Calls prog 10 #[.pointer (some ⟨b,0,none⟩),.string ⟨#[44,32]⟩] wr fun e D=>(∃z,e=.returned (.tuple #[z,.nilIface]))/\WyE w0 b (C++[44,32]) (y::(k.N++(G'.N++B))) D):=by
     obtain⟨A,c,h⟩:=L;refine(q4k h ⟨#[44,32]⟩ (by rw[<-J]at S;simp only[List.length_append]at S;omega) (by decide)).mono ?_;rintro e D⟨rfl,h,_⟩;exact⟨⟨_,rfl⟩,_,_,h⟩
    have M:Hid (∀W,WyE w0 b (C++[44,32]) (y::(k.N++(G'.N++B))) W->Calls prog 168 #[.pointer (some ⟨b,0,none⟩)] W fun e D=>e=.returned (.tuple #[])/\y7q w0 b B T fn (i+1) G' (C++[44,32]++q2v y k.R) D):=fun W O=>by
     refine(a.o (C++[44,32]) (G'.N++B) W (by rw[<-J]at S;simp only[List.length_append]at S⊢;omega) O).mono ?_;rintro e D⟨rfl,m⟩;exact⟨rfl,by omega,p.o,m,by rw[y3k,if_neg (by omega),List.append_assoc];exact J⟩
    clear L H J E l V hE a P Q;go_wp2_with fail;refine HC.o.mono ?_;rintro e w2⟨⟨q,rfl⟩,d⟩;have v:=hid d;clear d;go_wp2_with fail;refine(M.o _ v.o).mono ?_;rintro e w3⟨rfl,h3⟩;go_wp2;refine⟨⟨i+1,G',_,by go_num,h3⟩,?_⟩;simp[intOf];omega
theorem k1j{w0:World}{b:Nat}{y:Td}{k:Fo}(hX:ExC w0 b y k)(op:Int)(E:op=5\/op=6)(s:Bool)(bs:List UInt8)(rest:List Td)(w:World)(hl:bs.length+(brx ((op-5).toNat+s.toNat) (q0x y k.R)).length<=500000)(hW:WyE w0 b bs (y::(k.N++rest)) w):
  Calls prog 234 #[.pointer (some ⟨b,0,none⟩),.int .i64 op,.bool s] w fun e w'=>e=.returned (.tuple #[])/\WyE w0 b (bs++brx ((op-5).toNat+s.toNat) (q0x y k.R)) rest w':=by
 have B:Hid (∀W,Calls prog 262 #[.int .i64 y.op,.int .i64 op,.bool s] W fun e w'=>e=.returned (.bool (decide (prc y<(op-5).toNat+s.toNat)))/\w'=W):=fun W=>z9z y op E s W
 have Q:Hid (ExC w0 b y k):=hX;obtain⟨A,c,h⟩:=hW;obtain⟨U,V,rfl,M,H,_,_⟩:=h.td 0 (by simp);simp only[List.getElem_cons_zero,Nat.zero_mul,Nat.add_zero]at H;obtain⟨K,_⟩:=q0t h.bl;have o:w.cell? ⟨U,V,none⟩=some (.int .i64 y.op):=(K _ _ M).trans H;have a:w.cell? ⟨b,2,none⟩=some (.slice (some ⟨U,V,none⟩) (y::(k.N++rest)).length c):=h.x.cellR 0;generalize O:(y::(k.N++rest)).length=n at a;have g:0<n:=by rw[<-O];simp
 have D:brx ((op-5).toNat+s.toNat) (q0x y k.R)=if prc y<(op-5).toNat+s.toNat then 40::(q2v y k.R++[41])else q2v y k.R:=rfl
 rw[D]at hl⊢;by_cases I:prc y<(op-5).toNat+s.toNat
 ·rw[if_pos I]at hl⊢;rw[decide_eq_true I]at B;simp only[List.length_cons,List.length_append,List.length_nil]at hl
  have Y:Hid (Calls prog 132 #[.pointer (some ⟨b,0,none⟩),.int .u8 40] w fun e w'=>e=.returned .nilIface/\WyE w0 b (bs++[40]) (y::(k.N++rest)) w'):=by
   refine(q6w h 40 (by omega)).mono ?_;rintro e w'⟨rfl,L⟩;exact⟨rfl,_,_,L⟩
  have C:Hid (∀W,WyE w0 b (bs++[40]) (y::(k.N++rest)) W->Calls prog 168 #[.pointer (some ⟨b,0,none⟩)] W fun e w'=>e=.returned (.tuple #[])/\WyE w0 b (bs++[40]++q2v y k.R) rest w'):=fun W hW=>Q.o (bs++[40]) rest W (by simp only[List.length_append,List.length_cons,List.length_nil];omega) hW
  have Z:Hid (∀W:World,WyE w0 b (bs++[40]++q2v y k.R) rest W->CallsD prog 132 #[.pointer (some ⟨b,0,none⟩),.int .u8 41] .returning W fun e P w'=>P=.returning/\(e=.returned .nilIface/\WyE w0 b (bs++40::(q2v y k.R++[41])) rest w')):=fun W hW=>by
   obtain⟨A,c,h⟩:=hW;refine(k1h h 41 .returning (by simp only[List.length_append,List.length_cons,List.length_nil];omega)).mono ?_;rintro e P w'⟨rfl,rfl,L⟩;refine⟨rfl,rfl,A,c,?_⟩;have d:bs++40::(q2v y k.R++[41])=bs++[40]++q2v y k.R++[41]:=by simp
   rw[d];exact L
  clear h K H D hl E O hX;go_enter_defers func234,ntmps234;go_wp2_with fail;refine(B.o _).mono ?_;rintro e l⟨rfl,rfl⟩;go_wp2_with fail;refine Y.o.mono ?_;rintro e p⟨rfl,S⟩;have X:=hid S;clear S;go_wp2_with fail;refine(C.o _ X.o).mono ?_;rintro e m⟨rfl,G⟩;have J:=hid G;clear G;go_wp2;refine leaves_cons (f:=132) (args:=#[.pointer (some ⟨b,0,none⟩),.int .u8 41]) (by simp) (by simp[go_sem]) ?_;refine(Z.o _ J.o).mono ?_;rintro e P j⟨rfl,rfl,i⟩;exact⟨_,results_none rfl _ _ _,rfl,i⟩
 ·rw[if_neg I]at hl⊢;rw[decide_eq_false I]at B;have C:Hid (Calls prog 168 #[.pointer (some ⟨b,0,none⟩)] w fun e w'=>e=.returned (.tuple #[])/\WyE w0 b (bs++q2v y k.R) rest w'):=Q.o bs rest w (by omega) ⟨_,_,h⟩;clear h K H D hl E O hX;go_enter_defers func234,ntmps234;go_wp2_with fail;refine(B.o _).mono ?_;rintro e l⟨rfl,rfl⟩;go_wp2_with fail;refine C.o.mono ?_;rintro e m⟨rfl,G⟩;have J:=hid G;clear G;go_wp2;exact⟨_,results_none rfl _ _ _,rfl,J.o⟩
theorem j0m{w0:World}{b:Nat}{y z:Td}{k l:Fo}(hX:ExC w0 b y k)(hZ:ExC w0 b z l)(op:Int)(B:op=5\/op=6)(m:ByteArray)(hm:m.size=3)(bs:List UInt8)(rest:List Td)(w:World)
  (hl:bs.length+(brx (op-5).toNat (q0x y k.R)).length+(brx ((op-5).toNat+1) (q0x z l.R)).length+3<=500000) (hW:WyE w0 b bs (y::(k.N++(z::(l.N++rest)))) w):
  Calls prog 208 #[.pointer (some ⟨b,0,none⟩),.int .i64 op,.string m] w fun e w'=>e=.returned (.tuple #[])/\WyE w0 b (bs++(brx (op-5).toNat (q0x y k.R)++btL m++brx ((op-5).toNat+1) (q0x z l.R))) rest w':=by
 have C:(btL m).length=3:=by rw[q0b,hm]
 have D:Hid (Calls prog 234 #[.pointer (some ⟨b,0,none⟩),.int .i64 op,.bool false] w fun e w'=>e=.returned (.tuple #[])/\WyE w0 b (bs++brx (op-5).toNat (q0x y k.R)) (z::(l.N++rest)) w'):=k1j hX op B false bs _ w (by simp only[Bool.toNat_false,Nat.add_zero];omega) hW;generalize brx (op-5).toNat (q0x y k.R)=X at D hl⊢
 have J:Hid (∀W,WyE w0 b (bs++X) (z::(l.N++rest)) W->Calls prog 10 #[.pointer (some ⟨b,0,none⟩),.string m] W fun e w'=>(∃z,e=.returned (.tuple #[z,.nilIface]))/\WyE w0 b (bs++X++btL m) (z::(l.N++rest)) w'):=fun W hW=>by
  obtain⟨A,c,h⟩:=hW;refine(q4k h m (by simp only[List.length_append];omega) (by omega)).mono ?_;rintro e w'⟨rfl,h,_⟩;exact⟨⟨_,rfl⟩,_,_,h⟩
 have K:Hid (∀W,WyE w0 b (bs++X++btL m) (z::(l.N++rest)) W->Calls prog 234 #[.pointer (some ⟨b,0,none⟩),.int .i64 op,.bool true] W fun e w'=>e=.returned (.tuple #[])/\WyE w0 b (bs++X++btL m++brx ((op-5).toNat+1) (q0x z l.R)) rest w'):=fun W hW=>k1j hZ op B true _ _ W (by simp only[List.length_append,Bool.toNat_true];omega) hW
 clear hW hl hX hZ C hm;go_in;go_wp2_with fail;refine D.o.mono ?_;rintro e P⟨rfl,E⟩;have L:=hid E;clear E;go_wp2_with fail;refine(J.o _ L.o).mono ?_;rintro e Q⟨⟨q,rfl⟩,G⟩;have M:=hid G;clear G;go_wp2_with fail;refine(K.o _ M.o).mono ?_;rintro e S⟨rfl,H⟩;have O:=hid H;clear H;go_wp2
 go_end0
 refine⟨rfl,?_⟩;have I:=O.o;simp only[List.append_assoc]at I⊢;exact I
theorem v5d{w0:World}{b:Nat}{y z:Td}{k l:Fo}(hX:ExC w0 b y k)(hZ:ExC w0 b z l)(op:Int)(M:op=5\/op=6)(tx:ByteArray)(n:Int):ExC w0 b ⟨op,tx,n⟩ (.cons y k (.cons z l .nil)):=by
 intro C B w E H;obtain⟨A,c,h⟩:=H;have L:(Fo.cons y k (.cons z l .nil)).N++B=y::(k.N++(z::(l.N++B))):=by simp[Fo.N]
 rw[L]at h;have O:Hid (Calls prog 166 #[.pointer (some ⟨b,0,none⟩)] w fun e I=>e=.returned (tdV ⟨op,tx,n⟩)/\WyE w0 b C (y::(k.N++(z::(l.N++B)))) I):=q4j h;have D:=hid (fun m hm W E H=>j0m hX hZ op M m hm C B W E H);clear h L hX hZ;rcases M with rfl|rfl
 ·have Q:Hid (q2v ⟨5,tx,n⟩ (Fo.cons y k (.cons z l .nil)).R=brx 0 (q0x y k.R)++32::43::32::brx 1 (q0x z l.R)):=rfl;rw[Q.o]at E⊢;simp only[List.length_append,List.length_cons]at E
  have G:Hid (∀W:World,WyE w0 b C (y::(k.N++(z::(l.N++B)))) W->Calls prog 208 #[.pointer (some ⟨b,0,none⟩),.int .i64 5,.string ⟨#[32,43,32]⟩] W fun e I=>e=.returned (.tuple #[])/\WyE w0 b (C++(brx 0 (q0x y k.R)++32::43::32::brx 1 (q0x z l.R))) B I):=fun W H=>by
   refine(D.o ⟨#[32,43,32]⟩ rfl W (by show C.length+(brx 0 _).length+(brx 1 _).length+3<=500000;omega) H).mono ?_;rintro e I⟨rfl,V⟩;refine⟨rfl,?_⟩;have S:brx 0 (q0x y k.R)++32::43::32::brx 1 (q0x z l.R)=brx ((5:Int)-5).toNat (q0x y k.R)++btL ⟨#[32,43,32]⟩++brx (((5:Int)-5).toNat+1) (q0x z l.R):=by simp;rfl
   rw[S];exact V
  clear D E;go_in;go_wp2_with fail;refine O.o.mono ?_;rintro e J⟨rfl,X,Y,K⟩;have P:Hid (∀W:World,Below J J W->WyE w0 b C (y::(k.N++(z::(l.N++B)))) W):=fun W hb=>⟨_,_,K.grew hb⟩
  clear K O;go_wp2_with fail;refine(G.o _ (P.o _ (q1c J _))).mono ?_;rintro e Z⟨rfl,U⟩;go_wp2
  go_end0
  exact⟨rfl,U⟩
 ·have Q:Hid (q2v ⟨6,tx,n⟩ (Fo.cons y k (.cons z l .nil)).R=brx 1 (q0x y k.R)++32::42::32::brx 2 (q0x z l.R)):=rfl;rw[Q.o]at E⊢;simp only[List.length_append,List.length_cons]at E
  have G:Hid (∀W:World,WyE w0 b C (y::(k.N++(z::(l.N++B)))) W->Calls prog 208 #[.pointer (some ⟨b,0,none⟩),.int .i64 6,.string ⟨#[32,42,32]⟩] W fun e I=>e=.returned (.tuple #[])/\WyE w0 b (C++(brx 1 (q0x y k.R)++32::42::32::brx 2 (q0x z l.R))) B I):=fun W H=>by
   refine(D.o ⟨#[32,42,32]⟩ rfl W (by show C.length+(brx 1 _).length+(brx 2 _).length+3<=500000;omega) H).mono ?_;rintro e I⟨rfl,V⟩;refine⟨rfl,?_⟩;have S:brx 1 (q0x y k.R)++32::42::32::brx 2 (q0x z l.R)=brx ((6:Int)-5).toNat (q0x y k.R)++btL ⟨#[32,42,32]⟩++brx (((6:Int)-5).toNat+1) (q0x z l.R):=by simp;rfl
   rw[S];exact V
  clear D E;go_in;go_wp2_with fail;refine O.o.mono ?_;rintro e J⟨rfl,X,Y,K⟩;have P:Hid (∀W:World,Below J J W->WyE w0 b C (y::(k.N++(z::(l.N++B)))) W):=fun W hb=>⟨_,_,K.grew hb⟩
  clear K O;go_wp2_with fail;refine(G.o _ (P.o _ (q1c J _))).mono ?_;rintro e Z⟨rfl,U⟩;go_wp2
  go_end0
  exact⟨rfl,U⟩
theorem z8j{w0:World}{b:Nat}(ht:z4x w0):∀F:Fo,F.ok->F.exs->v7v w0 b F
 | .nil,_,_=>trivial
 | .cons x k n,hok,hex=>by
  have hk:v7v w0 b k:=z8j ht k hok.2.1 fun y hy=>hex y (by simp[Fo.N,hy])
  have hn:v7v w0 b n:=z8j ht n hok.2.2 fun y hy=>hex y (by simp[Fo.N,hy])
  refine⟨?_,hn⟩;have hx:=hex x (by simp[Fo.N]);have hkl:=hok.1;obtain⟨op,tx,m⟩:=x;rcases q3i hx with⟨e1,e2,e3,e4,e5⟩|⟨e1,e2,e3,e5⟩|⟨e1,e2,e3,e4,e5⟩|⟨e1,e2,e3,e4,e5⟩|⟨e1,e2,e3,e5⟩|⟨e1,e2,e3,e5⟩
  ·rw[e5]at hkl;cases k with
   | cons=>simp[Fo.len]at hkl
   | nil=>
    dsimp only at e1 e3 e4;subst e1;exact v5c ht m e3 e4 tx
  ·rw[e5]at hkl;cases k with
   | cons=>simp[Fo.len]at hkl
   | nil=>
    dsimp only at e1;subst e1;exact j8x tx m
  ·rw[e5]at hkl;dsimp only at e1 e3 e4 hkl;subst e1
   have:m=(k.len:Int):=by omega
   subst this;exact j8v tx (k1i hk (by omega) 40 41)
  ·rw[e5]at hkl;dsimp only at e1 e3 e4 hkl;subst e1
   have:m=(k.len:Int):=by omega
   subst this;exact j8w tx (k1i hk (by omega) 91 93)
  all_goals
   rw[e5]at hkl;dsimp only at e1;cases k with
   | nil=>simp[Fo.len]at hkl
   | cons y ky r=>
    cases r with
    | nil=>simp[Fo.len]at hkl
    | cons z kz r2=>
     cases r2 with
     | cons=>simp[Fo.len]at hkl
     | nil=>exact v5d hk.1 hk.2.1 op (by omega) tx m
end Go.Proofs.YtelcnplcpboonaaGreatDoor
