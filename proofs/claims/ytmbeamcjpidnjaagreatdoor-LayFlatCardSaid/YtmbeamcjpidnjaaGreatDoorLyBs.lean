/- Some texts as one: LyB, LyC. -/
import Derived.Test.YtmbeamcjpidnjaaGreatDoorLySs
import Derived.Test.YtmbeamcjpidnjaaGreatDoorLayPs
import Derived.Test.YtmbeamcjpidnjaaGreatDoorSyBs
import Derived.Test.YtmbeamcjpidnjaaGreatDoorLexYs
import Derived.Test.YtmbeamcjpidnjaaGreatDoorLayO
namespace Go.Proofs.YtmbeamcjpidnjaaGreatDoor
open Go Go.RowKit

/-- An expression is laid. -/
abbrev ExL (w0 : World) (b : Nat) (x : Td) (k : Fo) : Prop := ∀ (rest : List Td) (w : World), LyE w0 b (x :: (k.nodes ++ rest)) w →
  Calls Tryz.prog 124 #[.pointer (some ⟨b, 0, none⟩)] w fun e w' => NdG w0 b w (dcOf x k.dcs).nodes rest e w'
def EAL (w0 : World) (b : Nat) : Fo → Prop
  | .nil => True
  | .cons x k n => ExL w0 b x k ∧ EAL w0 b n
theorem LyE.in {w0 : World} {b : Nat} {ds : List Td} {w : World} (h : LyE w0 b ds w) : b < w.heap.size := by
  obtain ⟨A, c, h⟩ := h
  exact h.in
theorem LyE.lk {w0 : World} {b : Nat} {ds : List Td} {w : World} (h : LyE w0 b ds w) : Lk w0 b w ds w := ⟨But.refl _ _ _, h, h.in⟩
set_option maxRecDepth 100000 in
set_option maxHeartbeats 8000000 in
theorem lkids_any {w0 : World} {b : Nat} : ∀ (K : Fo), EAL w0 b K → K.len ≠ 0 → sumD K.dcs ≤ 1000 → K.len ≤ 1000 → ∀ (r : List Td) (w : World), LyE w0 b (K.nodes ++ r) w →
    Calls Tryz.prog 179 #[.pointer (some ⟨b, 0, none⟩), .int .i64 (K.len : Int)] w fun e w' => NdG w0 b w (kdD K.dcs).nodes r e w'
  | .nil, _, h0, _, _, _, _, _ => absurd rfl h0
  | .cons y ky .nil, hE, _, _, _, r, w, hW => by
    have HX : Hid (Calls Tryz.prog 124 #[.pointer (some ⟨b, 0, none⟩)] w fun e w' => NdG w0 b w (dcOf y ky.dcs).nodes r e w') := hE.1 r w (by simpa [Fo.nodes] using hW)
    show Calls Tryz.prog 179 #[.pointer (some ⟨b, 0, none⟩), .int .i64 1] w fun e w' => NdG w0 b w (dcOf y ky.dcs).nodes r e w'
    generalize (dcOf y ky.dcs).nodes = xs at HX ⊢
    clear hE hW
    go_enter Tryz.func179, Tryz.ntmps179
    go_wp2_with fail
    refine HX.out.mono ?_
    rintro e w1 h1
    have HR : Hid (NdG w0 b w xs r e w1) := h1
    obtain ⟨v1, rfl, _, _⟩ := h1.val
    clear h1
    go_wp2
    go_ret
    exact HR.out
  | .cons y ky (.cons z kz n), hE, _, hs, hkl, r, w, hW => by
    have hs2 : (dcOf y ky.dcs).nodes.length + sumD (Fo.cons z kz n).dcs ≤ 1000 := by
      rw [Fo.dcs, sumD_cons] at hs
      have h : (dcOf y ky.dcs).nodes.length + 5 + sumD (Fo.cons z kz n).dcs ≤ 1000 := hs
      omega
    have hkd := nl_kd (Fo.cons z kz n).dcs
    have hln : n.len ≤ 1000 := by simp only [Fo.len] at hkl; omega
    have HX : Hid (Calls Tryz.prog 124 #[.pointer (some ⟨b, 0, none⟩)] w fun e w' => NdG w0 b w (dcOf y ky.dcs).nodes ((Fo.cons z kz n).nodes ++ r) e w') := hE.1 _ w (by simpa [Fo.nodes] using hW)
    have HK : Hid (∀ W, LyE w0 b ((Fo.cons z kz n).nodes ++ r) W → Calls Tryz.prog 179 #[.pointer (some ⟨b, 0, none⟩), .int .i64 ((n.len : Int) + 1)] W fun e w' => NdG w0 b W (kdD (Fo.cons z kz n).dcs).nodes r e w') := fun W hW => by
      have h := lkids_any (.cons z kz n) hE.2 (by simp [Fo.len]) (by omega) (by simp only [Fo.len] at hkl ⊢; omega) r W hW
      have e : (((Fo.cons z kz n).len : Nat) : Int) = (n.len : Int) + 1 := by simp [Fo.len]
      rw [e] at h
      exact h
    have HL : Hid (Lk w0 b w ((Fo.cons y ky (.cons z kz n)).nodes ++ r) w) := hW.lk
    have HRR : Hid ((kdD (Fo.cons y ky (.cons z kz n)).dcs).nodes = ⟨6, ⟨#[]⟩, 0⟩ :: ((⟨6, ⟨#[]⟩, 0⟩ :: ((dcOf y ky.dcs).nodes ++ [⟨1, ⟨#[44]⟩, 0⟩])) ++ (⟨6, ⟨#[]⟩, 0⟩ :: ([⟨2, ⟨#[]⟩, 0⟩] ++ (kdD (Fo.cons z kz n).dcs).nodes)))) := rfl
    have elen : (((Fo.cons y ky (.cons z kz n)).len : Nat) : Int) = (n.len : Int) + 1 + 1 := by simp [Fo.len]
    rw [elen]
    generalize (kdD (Fo.cons y ky (.cons z kz n)).dcs).nodes = R at HRR ⊢
    generalize (dcOf y ky.dcs).nodes = xs at HX HRR hs2
    generalize (kdD (Fo.cons z kz n).dcs).nodes = ks at HK HRR hkd
    generalize (Fo.cons z kz n).nodes ++ r = r1 at HX HK
    generalize (Fo.cons y ky (.cons z kz n)).nodes ++ r = r0 at HL
    generalize sumD (Fo.cons z kz n).dcs = sd at hs2 hkd
    generalize n.len = nl at HK hln ⊢
    have hn1 : ((nl : Int) + 1 + 1 == 1) = false := by simp; omega
    clear hE hW hs hkl elen
    go_enter Tryz.func179, Tryz.ntmps179
    go_wp2_with fail
    refine (HX.out).mono ?_
    rintro e w1 h1
    obtain ⟨v1, rfl, n1, l1⟩ := h1.val
    have HLq : Hid (Lk w0 b w r1 w1) := HL.out.then l1
    have DX : Hid (NdB b w1 v1 xs) := n1
    clear h1 n1 l1 HL
    have HL : Hid (Lk w0 b w r1 w1) := HLq
    clear HLq
    go_wp2_with fail
    refine (lword_any _ _).mono ?_
    rintro e w2 h2
    obtain ⟨v2, rfl, n2, b2⟩ := h2.valB HL.out.in
    have HLq : Hid (Lk w0 b w r1 w2) := HL.out.step b2
    have DXq : Hid (NdB b w2 v1 xs) := DX.out.bel b2
    clear DX
    have DX : Hid (NdB b w2 v1 xs) := DXq
    clear DXq
    have DC : Hid (NdB b w2 v2 [⟨1, ⟨#[44]⟩, 0⟩]) := n2
    clear h2 n2 b2 HL
    have HL : Hid (Lk w0 b w r1 w2) := HLq
    clear HLq
    go_wp2_with fail
    refine (lboth_any _ DX.out.val DC.out.val (by first | (simp; done) | (simp; omega))).mono ?_
    rintro e w3 h3
    obtain ⟨v3, rfl, n3, b3⟩ := h3.valB HL.out.in
    have HLq : Hid (Lk w0 b w r1 w3) := HL.out.step b3
    clear DX
    clear DC
    have DP : Hid (NdB b w3 v3 (⟨6, ⟨#[]⟩, 0⟩ :: (xs ++ [⟨1, ⟨#[44]⟩, 0⟩]))) := n3
    clear h3 n3 b3 HL
    have HL : Hid (Lk w0 b w r1 w3) := HLq
    clear HLq
    go_wp2_with fail
    refine (lblank_any _).mono ?_
    rintro e w4 h4
    obtain ⟨v4, rfl, n4, b4⟩ := h4.valB HL.out.in
    have HLq : Hid (Lk w0 b w r1 w4) := HL.out.step b4
    have DPq : Hid (NdB b w4 v3 (⟨6, ⟨#[]⟩, 0⟩ :: (xs ++ [⟨1, ⟨#[44]⟩, 0⟩]))) := DP.out.bel b4
    clear DP
    have DP : Hid (NdB b w4 v3 (⟨6, ⟨#[]⟩, 0⟩ :: (xs ++ [⟨1, ⟨#[44]⟩, 0⟩]))) := DPq
    clear DPq
    have DB : Hid (NdB b w4 v4 [⟨2, ⟨#[]⟩, 0⟩]) := n4
    clear h4 n4 b4 HL
    have HL : Hid (Lk w0 b w r1 w4) := HLq
    clear HLq
    go_wp2_with fail
    refine (HK.out _ HL.out.ly).mono ?_
    rintro e w5 h5
    obtain ⟨v5, rfl, n5, l5⟩ := h5.val
    have HLq : Hid (Lk w0 b w r w5) := HL.out.then l5
    have DPq : Hid (NdB b w5 v3 (⟨6, ⟨#[]⟩, 0⟩ :: (xs ++ [⟨1, ⟨#[44]⟩, 0⟩]))) := DP.out.but l5.bt
    clear DP
    have DP : Hid (NdB b w5 v3 (⟨6, ⟨#[]⟩, 0⟩ :: (xs ++ [⟨1, ⟨#[44]⟩, 0⟩]))) := DPq
    clear DPq
    have DBq : Hid (NdB b w5 v4 [⟨2, ⟨#[]⟩, 0⟩]) := DB.out.but l5.bt
    clear DB
    have DB : Hid (NdB b w5 v4 [⟨2, ⟨#[]⟩, 0⟩]) := DBq
    clear DBq
    have DK : Hid (NdB b w5 v5 ks) := n5
    clear h5 n5 l5 HL
    have HL : Hid (Lk w0 b w r w5) := HLq
    clear HLq
    go_wp2_with fail
    refine (lboth_any _ DB.out.val DK.out.val (by first | (simp; done) | (simp; omega))).mono ?_
    rintro e w6 h6
    obtain ⟨v6, rfl, n6, b6⟩ := h6.valB HL.out.in
    have HLq : Hid (Lk w0 b w r w6) := HL.out.step b6
    clear DB
    clear DK
    have DPq : Hid (NdB b w6 v3 (⟨6, ⟨#[]⟩, 0⟩ :: (xs ++ [⟨1, ⟨#[44]⟩, 0⟩]))) := DP.out.bel b6
    clear DP
    have DP : Hid (NdB b w6 v3 (⟨6, ⟨#[]⟩, 0⟩ :: (xs ++ [⟨1, ⟨#[44]⟩, 0⟩]))) := DPq
    clear DPq
    have DQ : Hid (NdB b w6 v6 (⟨6, ⟨#[]⟩, 0⟩ :: ([⟨2, ⟨#[]⟩, 0⟩] ++ ks))) := n6
    clear h6 n6 b6 HL
    have HL : Hid (Lk w0 b w r w6) := HLq
    clear HLq
    go_wp2_with fail
    refine (lboth_any _ DP.out.val DQ.out.val (by first | (simp; done) | (simp; omega))).mono ?_
    rintro e w7 h7
    have HX : Hid (NdG w0 b w R r e w7) := by
      have h := h7.gof HL.out
      show NdG w0 b w R r e w7
      rw [HRR.out]
      exact h
    obtain ⟨v7, rfl, _, _⟩ := h7.val
    clear h7 HL HRR DP DQ
    go_wp2
    go_ret
    exact HX.out
theorem man_no (o c : List UInt8) (ps : List (Td × Tr)) (h : ps.length = 0) : (manyD o c ps).nodes = [⟨1, wbS (o ++ c), 0⟩] := by rw [manyD, if_pos h]; rfl
theorem man_yes (o c : List UInt8) (ps : List (Td × Tr)) (h : ¬ ps.length = 0) : (manyD o c ps).nodes = ⟨8, ⟨#[]⟩, 0⟩ :: (⟨6, ⟨#[]⟩, 0⟩ :: ([⟨1, wbS o, 0⟩] ++ (⟨6, ⟨#[]⟩, 0⟩ :: ((⟨7, ⟨#[]⟩, 2⟩ :: (⟨6, ⟨#[]⟩, 0⟩ :: ([⟨3, ⟨#[]⟩, 0⟩] ++ (kdD ps).nodes))) ++ (⟨6, ⟨#[]⟩, 0⟩ :: ([⟨3, ⟨#[]⟩, 0⟩] ++ [⟨1, wbS c, 0⟩])))))) := by rw [manyD, if_neg h]; rfl
set_option maxRecDepth 100000 in
set_option maxHeartbeats 8000000 in
theorem lbetween_any {w0 : World} {b : Nat} (K : Fo) (hE : EAL w0 b K) (hs : sumD K.dcs ≤ 1000) (hkl : K.len ≤ 1000) (o c : ByteArray) (ho : o.size ≤ 100) (hc : c.size ≤ 100) (r : List Td) (w : World) (hW : LyE w0 b (K.nodes ++ r) w) :
    Calls Tryz.prog 157 #[.pointer (some ⟨b, 0, none⟩), .string o, .int .i64 (K.len : Int), .string c] w fun e w' => NdG w0 b w (manyD (btL o) (btL c) K.dcs).nodes r e w' := by
  have HL : Hid (Lk w0 b w (K.nodes ++ r) w) := hW.lk
  by_cases h0 : K.len = 0
  · have HRR : Hid ((manyD (btL o) (btL c) K.dcs).nodes = [⟨1, o ++ c, 0⟩]) := by
      show _ = _
      rw [man_no _ _ _ (by rw [dcs_len]; exact h0)]
      have e : wbS (btL o ++ btL c) = o ++ c := by rw [← wbS_two, wbS_bt, wbS_bt]
      rw [e]
    have hr : K.nodes ++ r = r := by
      cases K with
      | nil => rfl
      | cons => simp [Fo.len] at h0
    rw [hr] at HL
    rw [h0]
    generalize (manyD (btL o) (btL c) K.dcs).nodes = R at HRR ⊢
    clear hE hs hkl h0 hr hW
    have hsz : ¬ 9223372036854775807 < o.size + c.size := by omega
    go_enter Tryz.func157, Tryz.ntmps157
    go_wp2_with fail
    refine (lword_any _ _).mono ?_
    rintro e w1 h1
    have HX : Hid (NdG w0 b w R r e w1) := by
      have h := h1.gof HL.out
      show NdG w0 b w R r e w1
      rw [HRR.out]
      exact h
    obtain ⟨v1, rfl, _, _⟩ := h1.val
    clear h1 HL HRR
    go_wp2
    go_ret
    exact HX.out
  · have HRR : Hid ((manyD (btL o) (btL c) K.dcs).nodes = ⟨8, ⟨#[]⟩, 0⟩ :: (⟨6, ⟨#[]⟩, 0⟩ :: ([⟨1, o, 0⟩] ++ (⟨6, ⟨#[]⟩, 0⟩ :: ((⟨7, ⟨#[]⟩, 2⟩ :: (⟨6, ⟨#[]⟩, 0⟩ :: ([⟨3, ⟨#[]⟩, 0⟩] ++ (kdD K.dcs).nodes))) ++ (⟨6, ⟨#[]⟩, 0⟩ :: ([⟨3, ⟨#[]⟩, 0⟩] ++ [⟨1, c, 0⟩]))))))) := by
      show _ = _
      rw [man_yes _ _ _ (by rw [dcs_len]; exact h0), wbS_bt, wbS_bt]
    have HK : Hid (∀ W, LyE w0 b (K.nodes ++ r) W → Calls Tryz.prog 179 #[.pointer (some ⟨b, 0, none⟩), .int .i64 (K.len : Int)] W fun e w' => NdG w0 b W (kdD K.dcs).nodes r e w') := fun W hW => lkids_any K hE h0 hs hkl r W hW
    have hkd := nl_kd K.dcs
    generalize (manyD (btL o) (btL c) K.dcs).nodes = R at HRR ⊢
    generalize (kdD K.dcs).nodes = ks at HK HRR hkd
    generalize sumD K.dcs = sd at hs hkd
    generalize K.nodes ++ r = r0 at HL HK
    generalize K.len = kl at HK h0 ⊢
    have hk0 : ((kl : Int) == 0) = false := by simp; omega
    clear hE hkl hW
    go_enter Tryz.func157, Tryz.ntmps157
    go_wp2_with fail
    refine (lsoft_any _).mono ?_
    rintro e w1 h1
    obtain ⟨v1, rfl, n1, b1⟩ := h1.valB HL.out.in
    have HLq : Hid (Lk w0 b w r0 w1) := HL.out.step b1
    have DS : Hid (NdB b w1 v1 [⟨3, ⟨#[]⟩, 0⟩]) := n1
    clear h1 n1 b1 HL
    have HL : Hid (Lk w0 b w r0 w1) := HLq
    clear HLq
    go_wp2_with fail
    refine (HK.out _ HL.out.ly).mono ?_
    rintro e w2 h2
    obtain ⟨v2, rfl, n2, l2⟩ := h2.val
    have HLq : Hid (Lk w0 b w r w2) := HL.out.then l2
    have DSq : Hid (NdB b w2 v1 [⟨3, ⟨#[]⟩, 0⟩]) := DS.out.but l2.bt
    clear DS
    have DS : Hid (NdB b w2 v1 [⟨3, ⟨#[]⟩, 0⟩]) := DSq
    clear DSq
    have DK : Hid (NdB b w2 v2 ks) := n2
    clear h2 n2 l2 HL
    have HL : Hid (Lk w0 b w r w2) := HLq
    clear HLq
    go_wp2_with fail
    refine (lboth_any _ DS.out.val DK.out.val (by first | (simp; done) | (simp; omega))).mono ?_
    rintro e w3 h3
    obtain ⟨v3, rfl, n3, b3⟩ := h3.valB HL.out.in
    have HLq : Hid (Lk w0 b w r w3) := HL.out.step b3
    clear DS
    clear DK
    have DA : Hid (NdB b w3 v3 (⟨6, ⟨#[]⟩, 0⟩ :: ([⟨3, ⟨#[]⟩, 0⟩] ++ ks))) := n3
    clear h3 n3 b3 HL
    have HL : Hid (Lk w0 b w r w3) := HLq
    clear HLq
    go_wp2_with fail
    refine (ldeeper_any _ DA.out.val (by first | (simp; done) | (simp; omega))).mono ?_
    rintro e w4 h4
    obtain ⟨v4, rfl, n4, b4⟩ := h4.valB HL.out.in
    have HLq : Hid (Lk w0 b w r w4) := HL.out.step b4
    clear DA
    have DI : Hid (NdB b w4 v4 (⟨7, ⟨#[]⟩, 2⟩ :: (⟨6, ⟨#[]⟩, 0⟩ :: ([⟨3, ⟨#[]⟩, 0⟩] ++ ks)))) := n4
    clear h4 n4 b4 HL
    have HL : Hid (Lk w0 b w r w4) := HLq
    clear HLq
    go_wp2_with fail
    refine (lword_any _ _).mono ?_
    rintro e w5 h5
    obtain ⟨v5, rfl, n5, b5⟩ := h5.valB HL.out.in
    have HLq : Hid (Lk w0 b w r w5) := HL.out.step b5
    have DIq : Hid (NdB b w5 v4 (⟨7, ⟨#[]⟩, 2⟩ :: (⟨6, ⟨#[]⟩, 0⟩ :: ([⟨3, ⟨#[]⟩, 0⟩] ++ ks)))) := DI.out.bel b5
    clear DI
    have DI : Hid (NdB b w5 v4 (⟨7, ⟨#[]⟩, 2⟩ :: (⟨6, ⟨#[]⟩, 0⟩ :: ([⟨3, ⟨#[]⟩, 0⟩] ++ ks)))) := DIq
    clear DIq
    have DO : Hid (NdB b w5 v5 [⟨1, o, 0⟩]) := n5
    clear h5 n5 b5 HL
    have HL : Hid (Lk w0 b w r w5) := HLq
    clear HLq
    go_wp2_with fail
    refine (lsoft_any _).mono ?_
    rintro e w6 h6
    obtain ⟨v6, rfl, n6, b6⟩ := h6.valB HL.out.in
    have HLq : Hid (Lk w0 b w r w6) := HL.out.step b6
    have DIq : Hid (NdB b w6 v4 (⟨7, ⟨#[]⟩, 2⟩ :: (⟨6, ⟨#[]⟩, 0⟩ :: ([⟨3, ⟨#[]⟩, 0⟩] ++ ks)))) := DI.out.bel b6
    clear DI
    have DI : Hid (NdB b w6 v4 (⟨7, ⟨#[]⟩, 2⟩ :: (⟨6, ⟨#[]⟩, 0⟩ :: ([⟨3, ⟨#[]⟩, 0⟩] ++ ks)))) := DIq
    clear DIq
    have DOq : Hid (NdB b w6 v5 [⟨1, o, 0⟩]) := DO.out.bel b6
    clear DO
    have DO : Hid (NdB b w6 v5 [⟨1, o, 0⟩]) := DOq
    clear DOq
    have DT : Hid (NdB b w6 v6 [⟨3, ⟨#[]⟩, 0⟩]) := n6
    clear h6 n6 b6 HL
    have HL : Hid (Lk w0 b w r w6) := HLq
    clear HLq
    go_wp2_with fail
    refine (lword_any _ _).mono ?_
    rintro e w7 h7
    obtain ⟨v7, rfl, n7, b7⟩ := h7.valB HL.out.in
    have HLq : Hid (Lk w0 b w r w7) := HL.out.step b7
    have DIq : Hid (NdB b w7 v4 (⟨7, ⟨#[]⟩, 2⟩ :: (⟨6, ⟨#[]⟩, 0⟩ :: ([⟨3, ⟨#[]⟩, 0⟩] ++ ks)))) := DI.out.bel b7
    clear DI
    have DI : Hid (NdB b w7 v4 (⟨7, ⟨#[]⟩, 2⟩ :: (⟨6, ⟨#[]⟩, 0⟩ :: ([⟨3, ⟨#[]⟩, 0⟩] ++ ks)))) := DIq
    clear DIq
    have DOq : Hid (NdB b w7 v5 [⟨1, o, 0⟩]) := DO.out.bel b7
    clear DO
    have DO : Hid (NdB b w7 v5 [⟨1, o, 0⟩]) := DOq
    clear DOq
    have DTq : Hid (NdB b w7 v6 [⟨3, ⟨#[]⟩, 0⟩]) := DT.out.bel b7
    clear DT
    have DT : Hid (NdB b w7 v6 [⟨3, ⟨#[]⟩, 0⟩]) := DTq
    clear DTq
    have DC : Hid (NdB b w7 v7 [⟨1, c, 0⟩]) := n7
    clear h7 n7 b7 HL
    have HL : Hid (Lk w0 b w r w7) := HLq
    clear HLq
    go_wp2_with fail
    refine (lboth_any _ DT.out.val DC.out.val (by first | (simp; done) | (simp; omega))).mono ?_
    rintro e w8 h8
    obtain ⟨v8, rfl, n8, b8⟩ := h8.valB HL.out.in
    have HLq : Hid (Lk w0 b w r w8) := HL.out.step b8
    clear DT
    clear DC
    have DIq : Hid (NdB b w8 v4 (⟨7, ⟨#[]⟩, 2⟩ :: (⟨6, ⟨#[]⟩, 0⟩ :: ([⟨3, ⟨#[]⟩, 0⟩] ++ ks)))) := DI.out.bel b8
    clear DI
    have DI : Hid (NdB b w8 v4 (⟨7, ⟨#[]⟩, 2⟩ :: (⟨6, ⟨#[]⟩, 0⟩ :: ([⟨3, ⟨#[]⟩, 0⟩] ++ ks)))) := DIq
    clear DIq
    have DOq : Hid (NdB b w8 v5 [⟨1, o, 0⟩]) := DO.out.bel b8
    clear DO
    have DO : Hid (NdB b w8 v5 [⟨1, o, 0⟩]) := DOq
    clear DOq
    have DE : Hid (NdB b w8 v8 (⟨6, ⟨#[]⟩, 0⟩ :: ([⟨3, ⟨#[]⟩, 0⟩] ++ [⟨1, c, 0⟩]))) := n8
    clear h8 n8 b8 HL
    have HL : Hid (Lk w0 b w r w8) := HLq
    clear HLq
    go_wp2_with fail
    refine (lboth_any _ DI.out.val DE.out.val (by first | (simp; done) | (simp; omega))).mono ?_
    rintro e w9 h9
    obtain ⟨v9, rfl, n9, b9⟩ := h9.valB HL.out.in
    have HLq : Hid (Lk w0 b w r w9) := HL.out.step b9
    clear DI
    clear DE
    have DOq : Hid (NdB b w9 v5 [⟨1, o, 0⟩]) := DO.out.bel b9
    clear DO
    have DO : Hid (NdB b w9 v5 [⟨1, o, 0⟩]) := DOq
    clear DOq
    have DF : Hid (NdB b w9 v9 (⟨6, ⟨#[]⟩, 0⟩ :: ((⟨7, ⟨#[]⟩, 2⟩ :: (⟨6, ⟨#[]⟩, 0⟩ :: ([⟨3, ⟨#[]⟩, 0⟩] ++ ks))) ++ (⟨6, ⟨#[]⟩, 0⟩ :: ([⟨3, ⟨#[]⟩, 0⟩] ++ [⟨1, c, 0⟩]))))) := n9
    clear h9 n9 b9 HL
    have HL : Hid (Lk w0 b w r w9) := HLq
    clear HLq
    go_wp2_with fail
    refine (lboth_any _ DO.out.val DF.out.val (by first | (simp; done) | (simp; omega))).mono ?_
    rintro e w10 h10
    obtain ⟨v10, rfl, n10, b10⟩ := h10.valB HL.out.in
    have HLq : Hid (Lk w0 b w r w10) := HL.out.step b10
    clear DO
    clear DF
    have DG : Hid (NdB b w10 v10 (⟨6, ⟨#[]⟩, 0⟩ :: ([⟨1, o, 0⟩] ++ (⟨6, ⟨#[]⟩, 0⟩ :: ((⟨7, ⟨#[]⟩, 2⟩ :: (⟨6, ⟨#[]⟩, 0⟩ :: ([⟨3, ⟨#[]⟩, 0⟩] ++ ks))) ++ (⟨6, ⟨#[]⟩, 0⟩ :: ([⟨3, ⟨#[]⟩, 0⟩] ++ [⟨1, c, 0⟩]))))))) := n10
    clear h10 n10 b10 HL
    have HL : Hid (Lk w0 b w r w10) := HLq
    clear HLq
    go_wp2_with fail
    refine (lgroup_any _ DG.out.val (by first | (simp; done) | (simp; omega))).mono ?_
    rintro e w11 h11
    have HX : Hid (NdG w0 b w R r e w11) := by
      have h := h11.gof HL.out
      show NdG w0 b w R r e w11
      rw [HRR.out]
      exact h
    obtain ⟨v11, rfl, _, _⟩ := h11.val
    clear h11 HL HRR DG
    go_wp2
    go_ret
    exact HX.out
theorem inL_yes {l : Nat} {x : Td} {D : Tr} (h : prc x < l) : (inD l x D).nodes = ⟨6, ⟨#[]⟩, 0⟩ :: ([⟨1, ⟨#[40]⟩, 0⟩] ++ (⟨6, ⟨#[]⟩, 0⟩ :: (D.nodes ++ [⟨1, ⟨#[41]⟩, 0⟩]))) := by
  rw [inD, if_pos h]; rfl
theorem inL_no {l : Nat} {x : Td} {D : Tr} (h : ¬ prc x < l) : (inD l x D).nodes = D.nodes := by rw [inD, if_neg h]
set_option maxRecDepth 100000 in
set_option maxHeartbeats 4000000 in
/-- One side of a sum or a product. -/
theorem lside_any {w0 : World} {b : Nat} {y : Td} {k : Fo} (hX : ExL w0 b y k) (hz : (dcOf y k.dcs).nodes.length ≤ 1000) (op : Int) (hop : op = 5 ∨ op = 6) (s : Bool) (r : List Td) (w : World) (hW : LyE w0 b (y :: (k.nodes ++ r)) w) :
    Calls Tryz.prog 180 #[.pointer (some ⟨b, 0, none⟩), .int .i64 op, .bool s] w fun e w' => NdG w0 b w (inD ((op - 5).toNat + s.toNat) y (dcOf y k.dcs)).nodes r e w' := by
  have HNB : Hid (∀ W, Calls Tryz.prog 166 #[.int .i64 y.op, .int .i64 op, .bool s] W fun e w' => e = .returned (.bool (decide (prc y < (op - 5).toNat + s.toNat))) ∧ W = w') := fun W => (needs_any y op hop s W).mono fun _ _ h => ⟨h.1, h.2.symm⟩
  have HX : Hid (Calls Tryz.prog 124 #[.pointer (some ⟨b, 0, none⟩)] w fun e w' => NdG w0 b w (dcOf y k.dcs).nodes r e w') := hX r w hW
  have HL : Hid (Lk w0 b w (y :: (k.nodes ++ r)) w) := hW.lk
  obtain ⟨A, c, h⟩ := hW
  obtain ⟨tb, tq, rfl, hlt, d0, _, _⟩ := h.td 0 (by simp)
  simp only [List.getElem_cons_zero, Nat.zero_mul, Nat.add_zero] at d0
  obtain ⟨bc, _⟩ := bcell h.bl
  have e0 : w.cell? ⟨tb, tq, none⟩ = some (.int .i64 y.op) := (bc _ _ hlt).trans d0
  have cR : w.cell? ⟨b, 0, none⟩ = some (.slice (some ⟨tb, tq, none⟩) (y :: (k.nodes ++ r)).length c) := by rw [Lib.cell_of_heap h.x]; rfl
  generalize hn : (y :: (k.nodes ++ r)).length = n at cR
  have h1n : 0 < n := by rw [← hn]; simp
  have hi1 : (0 : Int) < (n : Int) := by omega
  have HY : Hid (prc y < (op - 5).toNat + s.toNat → (inD ((op - 5).toNat + s.toNat) y (dcOf y k.dcs)).nodes = ⟨6, ⟨#[]⟩, 0⟩ :: ([⟨1, ⟨#[40]⟩, 0⟩] ++ (⟨6, ⟨#[]⟩, 0⟩ :: ((dcOf y k.dcs).nodes ++ [⟨1, ⟨#[41]⟩, 0⟩])))) := inL_yes
  have HNO : Hid (¬ prc y < (op - 5).toNat + s.toNat → (inD ((op - 5).toNat + s.toNat) y (dcOf y k.dcs)).nodes = (dcOf y k.dcs).nodes) := inL_no
  generalize (inD ((op - 5).toNat + s.toNat) y (dcOf y k.dcs)).nodes = R at HY HNO ⊢
  generalize (dcOf y k.dcs).nodes = xs at HX HY HNO hz
  generalize y :: (k.nodes ++ r) = r0 at HL
  generalize (op - 5).toNat + s.toNat = lv at HNB HY HNO
  generalize prc y = py at HNB HY HNO
  generalize y.op = yo at HNB e0
  clear h bc d0 hop hn hX
  by_cases hp : py < lv
  · have HRR := (show Hid (_ = _) from HY.out hp)
    rw [decide_eq_true hp] at HNB
    clear HY HNO hp
    go_enter Tryz.func180, Tryz.ntmps180
    go_wp2_with fail
    refine (HNB.out _).mono ?_
    rintro e w1 ⟨rfl, rfl⟩
    go_wp2_with fail
    refine (HX.out).mono ?_
    rintro e w2 h2
    obtain ⟨v2, rfl, n2, l2⟩ := h2.val
    have HLq : Hid (Lk w0 b w r w2) := HL.out.then l2
    have DX : Hid (NdB b w2 v2 xs) := n2
    clear h2 n2 l2 HL
    have HL : Hid (Lk w0 b w r w2) := HLq
    clear HLq
    go_wp2_with fail
    refine (lword_any _ _).mono ?_
    rintro e w3 h3
    obtain ⟨v3, rfl, n3, b3⟩ := h3.valB HL.out.in
    have HLq : Hid (Lk w0 b w r w3) := HL.out.step b3
    have DXq : Hid (NdB b w3 v2 xs) := DX.out.bel b3
    clear DX
    have DX : Hid (NdB b w3 v2 xs) := DXq
    clear DXq
    have DO : Hid (NdB b w3 v3 [⟨1, ⟨#[40]⟩, 0⟩]) := n3
    clear h3 n3 b3 HL
    have HL : Hid (Lk w0 b w r w3) := HLq
    clear HLq
    go_wp2_with fail
    refine (lword_any _ _).mono ?_
    rintro e w4 h4
    obtain ⟨v4, rfl, n4, b4⟩ := h4.valB HL.out.in
    have HLq : Hid (Lk w0 b w r w4) := HL.out.step b4
    have DXq : Hid (NdB b w4 v2 xs) := DX.out.bel b4
    clear DX
    have DX : Hid (NdB b w4 v2 xs) := DXq
    clear DXq
    have DOq : Hid (NdB b w4 v3 [⟨1, ⟨#[40]⟩, 0⟩]) := DO.out.bel b4
    clear DO
    have DO : Hid (NdB b w4 v3 [⟨1, ⟨#[40]⟩, 0⟩]) := DOq
    clear DOq
    have DC : Hid (NdB b w4 v4 [⟨1, ⟨#[41]⟩, 0⟩]) := n4
    clear h4 n4 b4 HL
    have HL : Hid (Lk w0 b w r w4) := HLq
    clear HLq
    go_wp2_with fail
    refine (lboth_any _ DX.out.val DC.out.val (by first | (simp; done) | (simp; omega))).mono ?_
    rintro e w5 h5
    obtain ⟨v5, rfl, n5, b5⟩ := h5.valB HL.out.in
    have HLq : Hid (Lk w0 b w r w5) := HL.out.step b5
    clear DX
    clear DC
    have DOq : Hid (NdB b w5 v3 [⟨1, ⟨#[40]⟩, 0⟩]) := DO.out.bel b5
    clear DO
    have DO : Hid (NdB b w5 v3 [⟨1, ⟨#[40]⟩, 0⟩]) := DOq
    clear DOq
    have DQ : Hid (NdB b w5 v5 (⟨6, ⟨#[]⟩, 0⟩ :: (xs ++ [⟨1, ⟨#[41]⟩, 0⟩]))) := n5
    clear h5 n5 b5 HL
    have HL : Hid (Lk w0 b w r w5) := HLq
    clear HLq
    go_wp2_with fail
    refine (lboth_any _ DO.out.val DQ.out.val (by first | (simp; done) | (simp; omega))).mono ?_
    rintro e w6 h6
    have HX : Hid (NdG w0 b w R r e w6) := by
      have h := h6.gof HL.out
      show NdG w0 b w R r e w6
      rw [HRR.out]
      exact h
    obtain ⟨v6, rfl, _, _⟩ := h6.val
    clear h6 HL HRR DO DQ
    go_wp2
    go_ret
    exact HX.out
  · have HRR := (show Hid (_ = _) from HNO.out hp)
    rw [decide_eq_false hp] at HNB
    clear HY HNO hp
    go_enter Tryz.func180, Tryz.ntmps180
    go_wp2_with fail
    refine (HNB.out _).mono ?_
    rintro e w1 ⟨rfl, rfl⟩
    go_wp2_with fail
    refine HX.out.mono ?_
    rintro e w2 h2
    have HR : Hid (NdG w0 b w R r e w2) := by
      show NdG w0 b w R r e w2
      rw [HRR.out]
      exact h2
    obtain ⟨v2, rfl, _, _⟩ := h2.val
    clear h2
    go_wp2
    go_ret
    exact HR.out
set_option maxRecDepth 100000 in
set_option maxHeartbeats 4000000 in
/-- Both sides. -/
theorem lsides_any {w0 : World} {b : Nat} {y z : Td} {k l : Fo} (hX : ExL w0 b y k) (hZ : ExL w0 b z l) (hzy : (dcOf y k.dcs).nodes.length ≤ 1000) (hzz : (dcOf z l.dcs).nodes.length ≤ 1000) (op : Int) (hop : op = 5 ∨ op = 6) (m : ByteArray) (r : List Td) (w : World)
    (hW : LyE w0 b (y :: (k.nodes ++ (z :: (l.nodes ++ r)))) w) :
    Calls Tryz.prog 158 #[.pointer (some ⟨b, 0, none⟩), .int .i64 op, .string m] w fun e w' => NdG w0 b w (grD (twD (inD (op - 5).toNat y (dcOf y k.dcs)) (dpD (twD blD (twD (wdD (btL m)) (inD ((op - 5).toNat + 1) z (dcOf z l.dcs))))))).nodes r e w' := by
  have H1 : Hid (Calls Tryz.prog 180 #[.pointer (some ⟨b, 0, none⟩), .int .i64 op, .bool false] w fun e w' => NdG w0 b w (inD (op - 5).toNat y (dcOf y k.dcs)).nodes (z :: (l.nodes ++ r)) e w') := lside_any hX hzy op hop false _ w hW
  have H2 : Hid (∀ W, LyE w0 b (z :: (l.nodes ++ r)) W → Calls Tryz.prog 180 #[.pointer (some ⟨b, 0, none⟩), .int .i64 op, .bool true] W fun e w' => NdG w0 b W (inD ((op - 5).toNat + 1) z (dcOf z l.dcs)).nodes r e w') := fun W hW => lside_any hZ hzz op hop true _ W hW
  have HL : Hid (Lk w0 b w (y :: (k.nodes ++ (z :: (l.nodes ++ r)))) w) := hW.lk
  have n1 := nl_in (op - 5).toNat y (dcOf y k.dcs)
  have n2 := nl_in ((op - 5).toNat + 1) z (dcOf z l.dcs)
  have HRR : Hid ((grD (twD (inD (op - 5).toNat y (dcOf y k.dcs)) (dpD (twD blD (twD (wdD (btL m)) (inD ((op - 5).toNat + 1) z (dcOf z l.dcs))))))).nodes = ⟨8, ⟨#[]⟩, 0⟩ :: (⟨6, ⟨#[]⟩, 0⟩ :: ((inD (op - 5).toNat y (dcOf y k.dcs)).nodes ++ (⟨7, ⟨#[]⟩, 2⟩ :: (⟨6, ⟨#[]⟩, 0⟩ :: ([⟨2, ⟨#[]⟩, 0⟩] ++ (⟨6, ⟨#[]⟩, 0⟩ :: ([⟨1, m, 0⟩] ++ (inD ((op - 5).toNat + 1) z (dcOf z l.dcs)).nodes)))))))) := by
    show _ = _
    have e : wbS (btL m) = m := wbS_bt m
    simp only [Tr.nodes, e]
  generalize (grD (twD (inD (op - 5).toNat y (dcOf y k.dcs)) (dpD (twD blD (twD (wdD (btL m)) (inD ((op - 5).toNat + 1) z (dcOf z l.dcs))))))).nodes = R at HRR ⊢
  generalize (inD (op - 5).toNat y (dcOf y k.dcs)).nodes = xs at H1 HRR n1
  generalize (inD ((op - 5).toNat + 1) z (dcOf z l.dcs)).nodes = ys at H2 HRR n2
  have hxs : xs.length ≤ 1004 := by omega
  have hys : ys.length ≤ 1004 := by omega
  generalize z :: (l.nodes ++ r) = r1 at H1 H2 HL
  generalize y :: (k.nodes ++ r1) = r0 at HL
  clear hX hZ hzy hzz hW n1 n2 hop
  go_enter Tryz.func158, Tryz.ntmps158
  go_wp2_with fail
  refine (H1.out).mono ?_
  rintro e w1 h1
  obtain ⟨v1, rfl, n1, l1⟩ := h1.val
  have HLq : Hid (Lk w0 b w r1 w1) := HL.out.then l1
  have DX : Hid (NdB b w1 v1 xs) := n1
  clear h1 n1 l1 HL
  have HL : Hid (Lk w0 b w r1 w1) := HLq
  clear HLq
  go_wp2_with fail
  refine (H2.out _ HL.out.ly).mono ?_
  rintro e w2 h2
  obtain ⟨v2, rfl, n2, l2⟩ := h2.val
  have HLq : Hid (Lk w0 b w r w2) := HL.out.then l2
  have DXq : Hid (NdB b w2 v1 xs) := DX.out.but l2.bt
  clear DX
  have DX : Hid (NdB b w2 v1 xs) := DXq
  clear DXq
  have DY : Hid (NdB b w2 v2 ys) := n2
  clear h2 n2 l2 HL
  have HL : Hid (Lk w0 b w r w2) := HLq
  clear HLq
  go_wp2_with fail
  refine (lblank_any _).mono ?_
  rintro e w3 h3
  obtain ⟨v3, rfl, n3, b3⟩ := h3.valB HL.out.in
  have HLq : Hid (Lk w0 b w r w3) := HL.out.step b3
  have DXq : Hid (NdB b w3 v1 xs) := DX.out.bel b3
  clear DX
  have DX : Hid (NdB b w3 v1 xs) := DXq
  clear DXq
  have DYq : Hid (NdB b w3 v2 ys) := DY.out.bel b3
  clear DY
  have DY : Hid (NdB b w3 v2 ys) := DYq
  clear DYq
  have DB : Hid (NdB b w3 v3 [⟨2, ⟨#[]⟩, 0⟩]) := n3
  clear h3 n3 b3 HL
  have HL : Hid (Lk w0 b w r w3) := HLq
  clear HLq
  go_wp2_with fail
  refine (lword_any _ _).mono ?_
  rintro e w4 h4
  obtain ⟨v4, rfl, n4, b4⟩ := h4.valB HL.out.in
  have HLq : Hid (Lk w0 b w r w4) := HL.out.step b4
  have DXq : Hid (NdB b w4 v1 xs) := DX.out.bel b4
  clear DX
  have DX : Hid (NdB b w4 v1 xs) := DXq
  clear DXq
  have DYq : Hid (NdB b w4 v2 ys) := DY.out.bel b4
  clear DY
  have DY : Hid (NdB b w4 v2 ys) := DYq
  clear DYq
  have DBq : Hid (NdB b w4 v3 [⟨2, ⟨#[]⟩, 0⟩]) := DB.out.bel b4
  clear DB
  have DB : Hid (NdB b w4 v3 [⟨2, ⟨#[]⟩, 0⟩]) := DBq
  clear DBq
  have DM : Hid (NdB b w4 v4 [⟨1, m, 0⟩]) := n4
  clear h4 n4 b4 HL
  have HL : Hid (Lk w0 b w r w4) := HLq
  clear HLq
  go_wp2_with fail
  refine (lboth_any _ DM.out.val DY.out.val (by first | (simp; done) | (simp; omega))).mono ?_
  rintro e w5 h5
  obtain ⟨v5, rfl, n5, b5⟩ := h5.valB HL.out.in
  have HLq : Hid (Lk w0 b w r w5) := HL.out.step b5
  clear DM
  clear DY
  have DXq : Hid (NdB b w5 v1 xs) := DX.out.bel b5
  clear DX
  have DX : Hid (NdB b w5 v1 xs) := DXq
  clear DXq
  have DBq : Hid (NdB b w5 v3 [⟨2, ⟨#[]⟩, 0⟩]) := DB.out.bel b5
  clear DB
  have DB : Hid (NdB b w5 v3 [⟨2, ⟨#[]⟩, 0⟩]) := DBq
  clear DBq
  have DA : Hid (NdB b w5 v5 (⟨6, ⟨#[]⟩, 0⟩ :: ([⟨1, m, 0⟩] ++ ys))) := n5
  clear h5 n5 b5 HL
  have HL : Hid (Lk w0 b w r w5) := HLq
  clear HLq
  go_wp2_with fail
  refine (lboth_any _ DB.out.val DA.out.val (by first | (simp; done) | (simp; omega))).mono ?_
  rintro e w6 h6
  obtain ⟨v6, rfl, n6, b6⟩ := h6.valB HL.out.in
  have HLq : Hid (Lk w0 b w r w6) := HL.out.step b6
  clear DB
  clear DA
  have DXq : Hid (NdB b w6 v1 xs) := DX.out.bel b6
  clear DX
  have DX : Hid (NdB b w6 v1 xs) := DXq
  clear DXq
  have DC : Hid (NdB b w6 v6 (⟨6, ⟨#[]⟩, 0⟩ :: ([⟨2, ⟨#[]⟩, 0⟩] ++ (⟨6, ⟨#[]⟩, 0⟩ :: ([⟨1, m, 0⟩] ++ ys))))) := n6
  clear h6 n6 b6 HL
  have HL : Hid (Lk w0 b w r w6) := HLq
  clear HLq
  go_wp2_with fail
  refine (ldeeper_any _ DC.out.val (by first | (simp; done) | (simp; omega))).mono ?_
  rintro e w7 h7
  obtain ⟨v7, rfl, n7, b7⟩ := h7.valB HL.out.in
  have HLq : Hid (Lk w0 b w r w7) := HL.out.step b7
  clear DC
  have DXq : Hid (NdB b w7 v1 xs) := DX.out.bel b7
  clear DX
  have DX : Hid (NdB b w7 v1 xs) := DXq
  clear DXq
  have DE : Hid (NdB b w7 v7 (⟨7, ⟨#[]⟩, 2⟩ :: (⟨6, ⟨#[]⟩, 0⟩ :: ([⟨2, ⟨#[]⟩, 0⟩] ++ (⟨6, ⟨#[]⟩, 0⟩ :: ([⟨1, m, 0⟩] ++ ys)))))) := n7
  clear h7 n7 b7 HL
  have HL : Hid (Lk w0 b w r w7) := HLq
  clear HLq
  go_wp2_with fail
  refine (lboth_any _ DX.out.val DE.out.val (by first | (simp; done) | (simp; omega))).mono ?_
  rintro e w8 h8
  obtain ⟨v8, rfl, n8, b8⟩ := h8.valB HL.out.in
  have HLq : Hid (Lk w0 b w r w8) := HL.out.step b8
  clear DX
  clear DE
  have DF : Hid (NdB b w8 v8 (⟨6, ⟨#[]⟩, 0⟩ :: (xs ++ (⟨7, ⟨#[]⟩, 2⟩ :: (⟨6, ⟨#[]⟩, 0⟩ :: ([⟨2, ⟨#[]⟩, 0⟩] ++ (⟨6, ⟨#[]⟩, 0⟩ :: ([⟨1, m, 0⟩] ++ ys)))))))) := n8
  clear h8 n8 b8 HL
  have HL : Hid (Lk w0 b w r w8) := HLq
  clear HLq
  go_wp2_with fail
  refine (lgroup_any _ DF.out.val (by first | (simp; done) | (simp; omega))).mono ?_
  rintro e w9 h9
  have HX : Hid (NdG w0 b w R r e w9) := by
    have h := h9.gof HL.out
    show NdG w0 b w R r e w9
    rw [HRR.out]
    exact h
  obtain ⟨v9, rfl, _, _⟩ := h9.val
  clear h9 HL HRR DF
  go_wp2
  go_ret
  exact HX.out
set_option maxRecDepth 100000 in
set_option maxHeartbeats 4000000 in
theorem lexp_num {w0 : World} {b : Nat} (ht : TabP w0) (n : Int) (h0 : 0 ≤ n) (h9 : n ≤ 999999) (tx : ByteArray) : ExL w0 b ⟨1, tx, n⟩ Fo.nil := by
  intro r w hW
  have HN : Hid (Calls Tryz.prog 122 #[.pointer (some ⟨b, 0, none⟩)] w fun e w' => e = .returned (tdV ⟨1, tx, n⟩) ∧ Lk w0 b w (Fo.nil.nodes ++ r) w') := lnext_any hW
  have HT : Hid (TabP w0) := ht
  clear ht
  generalize hR : (dcOf ⟨1, tx, n⟩ Fo.nil.dcs).nodes = R
  have HR0 : Hid ((dcOf ⟨1, tx, n⟩ Fo.nil.dcs).nodes = R) := hR
  clear hW hR
  go_enter Tryz.func124, Tryz.ntmps124
  go_wp2_with fail
  refine HN.out.mono ?_
  rintro e w1 ⟨rfl, h1⟩
  have HI : Hid (∀ W : World, Below w1.heap.size w1 W → Calls Tryz.prog 93 #[.int .i64 n] W fun e w' => e = .returned (.string (wbS (decL n.toNat))) ∧ Below W.heap.size W w') := fun W hb => itoa_any n h0 h9 W (by
    obtain ⟨A, c, hl⟩ := h1.ly
    exact (HT.out.below hl.bl).below hb)
  have HS : Hid (∀ W : World, Below w1.heap.size w1 W → Calls Tryz.prog 125 #[.string (wbS (decL n.toNat))] W fun e w' => NdG w0 b w R r e w') := fun W hb => (lword_any _ W).mono fun e w' h => by
    rw [← HR0.out]
    exact h.gof (h1.step hb)
  generalize wbS (decL n.toNat) = S at HI HS
  clear h1 HN
  go_wp2_with fail
  refine (HI.out _ (belA w1 _)).mono ?_
  rintro e w2 ⟨rfl, b2⟩
  have HB2 : Hid (Below w1.heap.size w1 w2) := belowT (belA w1 _) (Nat.le_refl _) b2
  clear b2
  go_wp2_with fail
  refine (HS.out _ HB2.out).mono ?_
  rintro e w3 h3
  have HR := (show Hid (_) from h3)
  obtain ⟨v3, rfl, _, _⟩ := h3.val
  clear h3
  go_wp2
  go_ret
  exact HR.out
set_option maxRecDepth 100000 in
set_option maxHeartbeats 4000000 in
theorem lexp_name {w0 : World} {b : Nat} (tx : ByteArray) (htx : tx.size ≤ 100) (n : Int) : ExL w0 b ⟨2, tx, n⟩ Fo.nil := by
  intro r w hW
  have HN : Hid (Calls Tryz.prog 122 #[.pointer (some ⟨b, 0, none⟩)] w fun e w' => e = .returned (tdV ⟨2, tx, n⟩) ∧ Lk w0 b w (Fo.nil.nodes ++ r) w') := lnext_any hW
  generalize hR : (dcOf ⟨2, tx, n⟩ Fo.nil.dcs).nodes = R
  have HR0 : Hid ((dcOf ⟨2, tx, n⟩ Fo.nil.dcs).nodes = R) := hR
  clear hW hR
  go_enter Tryz.func124, Tryz.ntmps124
  go_wp2_with fail
  refine HN.out.mono ?_
  rintro e w1 ⟨rfl, h1⟩
  have HI : Hid (∀ W : World, Calls Tryz.prog 40 #[.string tx] W fun e w' => e = .returned (.string tx) ∧ Below W.heap.size W w') := fun W => lClone_any tx W (by omega)
  have HS : Hid (∀ W : World, Below w1.heap.size w1 W → Calls Tryz.prog 125 #[.string tx] W fun e w' => NdG w0 b w R r e w') := fun W hb => (lword_any _ W).mono fun e w' h => by
    have e2 : (dcOf ⟨2, tx, n⟩ Fo.nil.dcs).nodes = [⟨1, tx, 0⟩] := by
      show [(⟨1, wbS (btL tx), 0⟩ : Nd)] = _
      rw [wbS_bt]
    rw [← HR0.out, e2]
    exact h.gof (h1.step hb)
  clear h1 HN
  go_wp2_with fail
  refine (HI.out _).mono ?_
  rintro e w2 ⟨rfl, b2⟩
  have HB2 : Hid (Below w1.heap.size w1 w2) := belowT (belA w1 _) (Nat.le_refl _) b2
  clear b2
  go_wp2_with fail
  refine (HS.out _ HB2.out).mono ?_
  rintro e w3 h3
  have HR := (show Hid (_) from h3)
  obtain ⟨v3, rfl, _, _⟩ := h3.val
  clear h3
  go_wp2
  go_ret
  exact HR.out
set_option maxRecDepth 100000 in
set_option maxHeartbeats 4000000 in
theorem lexp_list {w0 : World} {b : Nat} {F : Fo} (tx : ByteArray) (hE : EAL w0 b F) (hs : sumD F.dcs ≤ 1000) (hkl : F.len ≤ 1000) : ExL w0 b ⟨4, tx, (F.len : Int)⟩ F := by
  intro r w hW
  have HN : Hid (Calls Tryz.prog 122 #[.pointer (some ⟨b, 0, none⟩)] w fun e w' => e = .returned (tdV ⟨4, tx, (F.len : Int)⟩) ∧ Lk w0 b w (F.nodes ++ r) w') := lnext_any hW
  generalize hR : (dcOf ⟨4, tx, (F.len : Int)⟩ F.dcs).nodes = R
  have HR0 : Hid ((dcOf ⟨4, tx, (F.len : Int)⟩ F.dcs).nodes = R) := hR
  clear hW hR
  go_enter Tryz.func124, Tryz.ntmps124
  go_wp2_with fail
  refine HN.out.mono ?_
  rintro e w1 ⟨rfl, h1⟩
  have HS : Hid (∀ W : World, Below w1.heap.size w1 W → Calls Tryz.prog 157 #[.pointer (some ⟨b, 0, none⟩), .string ⟨#[91]⟩, .int .i64 (F.len : Int), .string ⟨#[93]⟩] W fun e w' => NdG w0 b w R r e w') := fun W hb => (lbetween_any F hE hs hkl ⟨#[91]⟩ ⟨#[93]⟩ (by decide) (by decide) r W (h1.step hb).ly).mono fun e w' h => by
    have e2 : dcOf ⟨4, tx, (F.len : Int)⟩ F.dcs = manyD (btL ⟨#[91]⟩) (btL ⟨#[93]⟩) F.dcs := rfl
    rw [← HR0.out, e2]
    exact NdG.then (h1.step hb) h
  clear h1 HN hE hs
  go_wp2_with fail
  refine (HS.out _ (belA w1 _)).mono ?_
  rintro e w3 h3
  have HR := (show Hid (_) from h3)
  obtain ⟨v3, rfl, _, _⟩ := h3.val
  clear h3
  go_wp2
  go_ret
  exact HR.out
theorem bt_open (tx : ByteArray) : btL (tx ++ (⟨#[40]⟩ : ByteArray)) = btL tx ++ [40] := by
  have e : wbS (btL tx) ++ wbS [40] = wbS (btL tx ++ [40]) := wbS_two _ _
  rw [wbS_bt] at e
  have e2 : tx ++ (⟨#[40]⟩ : ByteArray) = wbS (btL tx ++ [40]) := e
  rw [e2]
  rfl
theorem sz_open (tx : ByteArray) : (tx ++ (⟨#[40]⟩ : ByteArray)).size = tx.size + 1 := by
  rw [← btL_len, bt_open, List.length_append, btL_len]; rfl
set_option maxRecDepth 100000 in
set_option maxHeartbeats 4000000 in
theorem lexp_call {w0 : World} {b : Nat} {F : Fo} (tx : ByteArray) (htx : tx.size ≤ 80) (hE : EAL w0 b F) (hs : sumD F.dcs ≤ 1000) (hkl : F.len ≤ 1000) : ExL w0 b ⟨3, tx, (F.len : Int)⟩ F := by
  intro r w hW
  have HN : Hid (Calls Tryz.prog 122 #[.pointer (some ⟨b, 0, none⟩)] w fun e w' => e = .returned (tdV ⟨3, tx, (F.len : Int)⟩) ∧ Lk w0 b w (F.nodes ++ r) w') := lnext_any hW
  generalize hR : (dcOf ⟨3, tx, (F.len : Int)⟩ F.dcs).nodes = R
  have HR0 : Hid ((dcOf ⟨3, tx, (F.len : Int)⟩ F.dcs).nodes = R) := hR
  clear hW hR
  go_enter Tryz.func124, Tryz.ntmps124
  go_wp2_with fail
  refine HN.out.mono ?_
  rintro e w1 ⟨rfl, h1⟩
  have HS : Hid (∀ W : World, Below w1.heap.size w1 W → Calls Tryz.prog 157 #[.pointer (some ⟨b, 0, none⟩), .string (tx ++ (⟨#[40]⟩ : ByteArray)), .int .i64 (F.len : Int), .string ⟨#[41]⟩] W fun e w' => NdG w0 b w R r e w') := fun W hb => (lbetween_any F hE hs hkl (tx ++ (⟨#[40]⟩ : ByteArray)) ⟨#[41]⟩ (by rw [sz_open]; omega) (by decide) r W (h1.step hb).ly).mono fun e w' h => by
    have e2 : dcOf ⟨3, tx, (F.len : Int)⟩ F.dcs = manyD (btL (tx ++ (⟨#[40]⟩ : ByteArray))) (btL ⟨#[41]⟩) F.dcs := by rw [bt_open]; rfl
    rw [← HR0.out, e2]
    exact NdG.then (h1.step hb) h
  have hsz : ¬ 9223372036854775807 < tx.size + 1 := by omega
  clear h1 HN hE hs
  go_wp2_with fail
  refine (HS.out _ (belA w1 _)).mono ?_
  rintro e w3 h3
  have HR := (show Hid (_) from h3)
  obtain ⟨v3, rfl, _, _⟩ := h3.val
  clear h3
  go_wp2
  go_ret
  exact HR.out
set_option maxRecDepth 100000 in
set_option maxHeartbeats 4000000 in
theorem lexp_sum {w0 : World} {b : Nat} {y z : Td} {k l : Fo} (tx : ByteArray) (n : Int) (hX : ExL w0 b y k) (hZ : ExL w0 b z l) (hzy : (dcOf y k.dcs).nodes.length ≤ 1000) (hzz : (dcOf z l.dcs).nodes.length ≤ 1000) : ExL w0 b ⟨5, tx, n⟩ (Fo.cons y k (.cons z l .nil)) := by
  intro r w hW
  have HN : Hid (Calls Tryz.prog 122 #[.pointer (some ⟨b, 0, none⟩)] w fun e w' => e = .returned (tdV ⟨5, tx, n⟩) ∧ Lk w0 b w ((Fo.cons y k (.cons z l .nil)).nodes ++ r) w') := lnext_any hW
  generalize hR : (dcOf ⟨5, tx, n⟩ (Fo.cons y k (.cons z l .nil)).dcs).nodes = R
  have HR0 : Hid ((dcOf ⟨5, tx, n⟩ (Fo.cons y k (.cons z l .nil)).dcs).nodes = R) := hR
  clear hW hR
  go_enter Tryz.func124, Tryz.ntmps124
  go_wp2_with fail
  refine HN.out.mono ?_
  rintro e w1 ⟨rfl, h1⟩
  have HS : Hid (∀ W : World, Below w1.heap.size w1 W → Calls Tryz.prog 158 #[.pointer (some ⟨b, 0, none⟩), .int .i64 5, .string ⟨#[43, 32]⟩] W fun e w' => NdG w0 b w R r e w') := fun W hb => by
    rw [← HR0.out]
    have hly := (h1.step hb).ly
    have hnd : (Fo.cons y k (.cons z l .nil)).nodes ++ r = y :: (k.nodes ++ (z :: (l.nodes ++ r))) := by simp [Fo.nodes]
    rw [hnd] at hly
    exact (lsides_any hX hZ hzy hzz 5 (by decide) ⟨#[43, 32]⟩ r W hly).mono fun e w' h => NdG.then (h1.step hb) h
  clear h1 HN hX hZ hzy hzz
  go_wp2_with fail
  refine (HS.out _ (belA w1 _)).mono ?_
  rintro e w3 h3
  have HR := (show Hid (_) from h3)
  obtain ⟨v3, rfl, _, _⟩ := h3.val
  clear h3
  go_wp2
  go_ret
  exact HR.out
set_option maxRecDepth 100000 in
set_option maxHeartbeats 4000000 in
theorem lexp_mul {w0 : World} {b : Nat} {y z : Td} {k l : Fo} (tx : ByteArray) (n : Int) (hX : ExL w0 b y k) (hZ : ExL w0 b z l) (hzy : (dcOf y k.dcs).nodes.length ≤ 1000) (hzz : (dcOf z l.dcs).nodes.length ≤ 1000) : ExL w0 b ⟨6, tx, n⟩ (Fo.cons y k (.cons z l .nil)) := by
  intro r w hW
  have HN : Hid (Calls Tryz.prog 122 #[.pointer (some ⟨b, 0, none⟩)] w fun e w' => e = .returned (tdV ⟨6, tx, n⟩) ∧ Lk w0 b w ((Fo.cons y k (.cons z l .nil)).nodes ++ r) w') := lnext_any hW
  generalize hR : (dcOf ⟨6, tx, n⟩ (Fo.cons y k (.cons z l .nil)).dcs).nodes = R
  have HR0 : Hid ((dcOf ⟨6, tx, n⟩ (Fo.cons y k (.cons z l .nil)).dcs).nodes = R) := hR
  clear hW hR
  go_enter Tryz.func124, Tryz.ntmps124
  go_wp2_with fail
  refine HN.out.mono ?_
  rintro e w1 ⟨rfl, h1⟩
  have HS : Hid (∀ W : World, Below w1.heap.size w1 W → Calls Tryz.prog 158 #[.pointer (some ⟨b, 0, none⟩), .int .i64 6, .string ⟨#[42, 32]⟩] W fun e w' => NdG w0 b w R r e w') := fun W hb => by
    rw [← HR0.out]
    have hly := (h1.step hb).ly
    have hnd : (Fo.cons y k (.cons z l .nil)).nodes ++ r = y :: (k.nodes ++ (z :: (l.nodes ++ r))) := by simp [Fo.nodes]
    rw [hnd] at hly
    exact (lsides_any hX hZ hzy hzz 6 (by decide) ⟨#[42, 32]⟩ r W hly).mono fun e w' h => NdG.then (h1.step hb) h
  clear h1 HN hX hZ hzy hzz
  go_wp2_with fail
  refine (HS.out _ (belA w1 _)).mono ?_
  rintro e w3 h3
  have HR := (show Hid (_) from h3)
  obtain ⟨v3, rfl, _, _⟩ := h3.val
  clear h3
  go_wp2
  go_ret
  exact HR.out
theorem sum_in (x : Td) (k n : Fo) : sumD k.dcs ≤ 20 * (Fo.cons x k n).nodes.length ∧ (dcOf x k.dcs).nodes.length ≤ 20 * (Fo.cons x k n).nodes.length := by
  have h := dcs_nl (.cons x k n)
  have h2 := dcs_nl k
  rw [Fo.dcs, sumD_cons] at h
  have e : (x, dcOf x k.dcs).2 = dcOf x k.dcs := rfl
  rw [e] at h
  have e2 : k.nodes.length ≤ (Fo.cons x k n).nodes.length := by simp only [Fo.nodes, List.length_cons, List.length_append]; omega
  omega
/-- Every expression is laid. -/
theorem lexp_all {w0 : World} {b : Nat} (ht : TabP w0) : ∀ F : Fo, F.ok → F.exs → F.nodes.length ≤ 50 → EAL w0 b F
  | .nil, _, _, _ => trivial
  | .cons x k n, hok, hex, hlen => by
    have hl1 : k.nodes.length + n.nodes.length + 1 ≤ 50 := by simp only [Fo.nodes, List.length_cons, List.length_append] at hlen; omega
    have hk : EAL w0 b k := lexp_all ht k hok.2.1 (fun y hy => hex y (by simp [Fo.nodes, hy])) (by omega)
    have hn : EAL w0 b n := lexp_all ht n hok.2.2 (fun y hy => hex y (by simp [Fo.nodes, hy])) (by omega)
    refine ⟨?_, hn⟩
    have hx := hex x (by simp [Fo.nodes])
    have hkl := hok.1
    have hsum : sumD k.dcs ≤ 1000 := by have := (sum_in x k n).1; omega
    obtain ⟨op, tx, m⟩ := x
    rcases exN_cases hx with ⟨e1, e2, e3, e4, e5⟩ | ⟨e1, e2, e3, e5⟩ | ⟨e1, e2, e3, e4, e5⟩ | ⟨e1, e2, e3, e4, e5⟩ | ⟨e1, e2, e3, e5⟩ | ⟨e1, e2, e3, e5⟩
    · rw [e5] at hkl
      cases k with
      | cons => simp [Fo.len] at hkl
      | nil =>
        dsimp only at e1 e3 e4
        subst e1
        exact lexp_num ht m e3 e4 tx
    · rw [e5] at hkl
      cases k with
      | cons => simp [Fo.len] at hkl
      | nil =>
        dsimp only at e1 e2
        subst e1
        have h8 := name_len e2
        rw [btL_len] at h8
        exact lexp_name tx (by omega) m
    · rw [e5] at hkl
      dsimp only at e1 e2 e3 e4 hkl
      subst e1
      have : m = (k.len : Int) := by omega
      subst this
      have h8 := name_len e2
      rw [btL_len] at h8
      exact lexp_call tx (by omega) hk hsum (by omega)
    · rw [e5] at hkl
      dsimp only at e1 e3 e4 hkl
      subst e1
      have : m = (k.len : Int) := by omega
      subst this
      exact lexp_list tx hk hsum (by omega)
    all_goals
      rw [e5] at hkl
      dsimp only at e1
      subst e1
      cases k with
      | nil => simp [Fo.len] at hkl
      | cons y ky r =>
        cases r with
        | nil => simp [Fo.len] at hkl
        | cons z kz r2 =>
          cases r2 with
          | cons => simp [Fo.len] at hkl
          | nil =>
            have q1 := (sum_in y ky (.cons z kz .nil)).2
            have q2 := (sum_in z kz .nil).2
            have q3 : (Fo.cons z kz .nil).nodes.length ≤ (Fo.cons y ky (.cons z kz .nil)).nodes.length := by simp only [Fo.nodes, List.length_cons, List.length_append]; omega
            first
              | exact lexp_sum tx m hk.1 hk.2.1 (by omega) (by omega)
              | exact lexp_mul tx m hk.1 hk.2.1 (by omega) (by omega)
end Go.Proofs.YtmbeamcjpidnjaaGreatDoor
namespace Go.Proofs.YtmbeamcjpidnjaaGreatDoor
open Go Go.RowKit

set_option maxRecDepth 100000 in
set_option maxHeartbeats 4000000 in
theorem lstat_let {w0 : World} {b : Nat} {xt : ByteArray} {xn : Int} {y : Td} {k : Fo} (hX : ExL w0 b y k) (hz : (dcOf y k.dcs).nodes.length ≤ 1000) (h8 : xt.size ≤ 8) (w : World) (hW : LyE w0 b (⟨7, xt, xn⟩ :: (y :: (k.nodes ++ []))) w) :
    Calls Tryz.prog 84 #[.pointer (some ⟨b, 0, none⟩)] w fun e w' => NdG w0 b w (stD ⟨7, xt, xn⟩ (dcOf y k.dcs)).nodes [] e w' := by
  have HN : Hid (Calls Tryz.prog 122 #[.pointer (some ⟨b, 0, none⟩)] w fun e w' => e = .returned (.agg #[.int .i64 7, .string xt, .int .i64 xn]) ∧ Lk w0 b w (y :: (k.nodes ++ [])) w') := lnext_any hW
  have HXL : Hid (∀ W, LyE w0 b (y :: (k.nodes ++ [])) W → Calls Tryz.prog 124 #[.pointer (some ⟨b, 0, none⟩)] W fun e w' => NdG w0 b W (dcOf y k.dcs).nodes [] e w') := fun W hW => hX [] W hW
  have HRR : Hid ((stD ⟨7, xt, xn⟩ (dcOf y k.dcs)).nodes = ⟨8, ⟨#[]⟩, 0⟩ :: (⟨6, ⟨#[]⟩, 0⟩ :: ([⟨1, (⟨#[108, 101, 116, 32]⟩ : ByteArray) ++ xt ++ (⟨#[32, 61]⟩ : ByteArray), 0⟩] ++ (⟨7, ⟨#[]⟩, 2⟩ :: (⟨6, ⟨#[]⟩, 0⟩ :: ([⟨2, ⟨#[]⟩, 0⟩] ++ (⟨6, ⟨#[]⟩, 0⟩ :: ((dcOf y k.dcs).nodes ++ [⟨1, ⟨#[59]⟩, 0⟩])))))))) := by
    show _ = _
    have e6 : wbS ([108, 101, 116, 32] ++ btL xt ++ [32, 61]) = (⟨#[108, 101, 116, 32]⟩ : ByteArray) ++ xt ++ (⟨#[32, 61]⟩ : ByteArray) := by
      have q1 : wbS [108, 101, 116, 32] ++ wbS (btL xt) = wbS ([108, 101, 116, 32] ++ btL xt) := wbS_two _ _
      have q2 : wbS ([108, 101, 116, 32] ++ btL xt) ++ wbS [32, 61] = wbS ([108, 101, 116, 32] ++ btL xt ++ [32, 61]) := wbS_two _ _
      rw [← q2, ← q1]
      rfl
    rw [← e6]
    rfl
  generalize (stD ⟨7, xt, xn⟩ (dcOf y k.dcs)).nodes = R at HRR ⊢
  generalize (dcOf y k.dcs).nodes = xs at HXL HRR hz
  generalize y :: (k.nodes ++ []) = r0 at HN HXL
  have g1 : ¬ 9223372036854775807 < 4 + xt.size := by omega
  have g2 : ¬ 9223372036854775807 < 4 + xt.size + 2 := by omega
  clear hX hW
  go_enter Tryz.func84, Tryz.ntmps84
  go_wp2_with fail
  refine HN.out.mono ?_
  rintro e w1 ⟨rfl, h1⟩
  have HSC : Hid (∃ w2, w1.alloc (.cells #[.int .i64 7, .string xt, .int .i64 xn] 39) = w2 ∧ Lk w0 b w r0 w2 ∧ w2.heap[w1.heap.size]? = some (.cells #[.int .i64 7, .string xt, .int .i64 xn] 39 (0, 0))) := ⟨_, rfl, h1.step (belA w1 _), heap_alloc_new w1 _⟩
  have hgb : w1.heap.size ≠ b := by have := h1.in; omega
  clear h1 HN
  go_wp2_with fail
  obtain ⟨w2, hw2, hl2, hx2⟩ := HSC.out
  rw [hw2]
  have HL : Hid (Lk w0 b w r0 w2) := hl2
  have HBX : Hid (w2.heap[w1.heap.size]? = some (.cells #[.int .i64 7, .string xt, .int .i64 xn] 39 (0, 0))) := hx2
  clear HSC hl2 hx2 hw2
  go_wp2_with fail
  refine (HXL.out _ HL.out.ly).mono ?_
  rintro e w3 h3
  obtain ⟨v3, rfl, n3, l3⟩ := h3.val
  have HLq : Hid (Lk w0 b w [] w3) := HL.out.then l3
  have HBXq : Hid (w3.heap[w1.heap.size]? = some (.cells #[.int .i64 7, .string xt, .int .i64 xn] 39 (0, 0))) := (l3.bt.block _ (Array.getElem?_eq_some_iff.1 HBX.out).1 hgb).trans HBX.out
  clear HBX
  have HBX : Hid (w3.heap[w1.heap.size]? = some (.cells #[.int .i64 7, .string xt, .int .i64 xn] 39 (0, 0))) := HBXq
  clear HBXq
  have DX : Hid (NdB b w3 v3 xs) := n3
  clear h3 n3 l3 HL
  have HL : Hid (Lk w0 b w [] w3) := HLq
  clear HLq
  go_wp2_with fail
  refine (lword_any _ _).mono ?_
  rintro e w4 h4
  obtain ⟨v4, rfl, n4, b4⟩ := h4.valB HL.out.in
  have HLq : Hid (Lk w0 b w [] w4) := HL.out.step b4
  have HBXq : Hid (w4.heap[w1.heap.size]? = some (.cells #[.int .i64 7, .string xt, .int .i64 xn] 39 (0, 0))) := (b4.block _ (Array.getElem?_eq_some_iff.1 HBX.out).1).trans HBX.out
  clear HBX
  have HBX : Hid (w4.heap[w1.heap.size]? = some (.cells #[.int .i64 7, .string xt, .int .i64 xn] 39 (0, 0))) := HBXq
  clear HBXq
  have DXq : Hid (NdB b w4 v3 xs) := DX.out.bel b4
  clear DX
  have DX : Hid (NdB b w4 v3 xs) := DXq
  clear DXq
  have DS : Hid (NdB b w4 v4 [⟨1, ⟨#[59]⟩, 0⟩]) := n4
  clear h4 n4 b4 HL
  have HL : Hid (Lk w0 b w [] w4) := HLq
  clear HLq
  go_wp2_with fail
  refine (lboth_any _ DX.out.val DS.out.val (by first | (simp; done) | (simp; omega))).mono ?_
  rintro e w5 h5
  obtain ⟨v5, rfl, n5, b5⟩ := h5.valB HL.out.in
  have HLq : Hid (Lk w0 b w [] w5) := HL.out.step b5
  have HBXq : Hid (w5.heap[w1.heap.size]? = some (.cells #[.int .i64 7, .string xt, .int .i64 xn] 39 (0, 0))) := (b5.block _ (Array.getElem?_eq_some_iff.1 HBX.out).1).trans HBX.out
  clear HBX
  have HBX : Hid (w5.heap[w1.heap.size]? = some (.cells #[.int .i64 7, .string xt, .int .i64 xn] 39 (0, 0))) := HBXq
  clear HBXq
  clear DX
  clear DS
  have DR : Hid (NdB b w5 v5 (⟨6, ⟨#[]⟩, 0⟩ :: (xs ++ [⟨1, ⟨#[59]⟩, 0⟩]))) := n5
  clear h5 n5 b5 HL
  have HL : Hid (Lk w0 b w [] w5) := HLq
  clear HLq
  have d0 : w5.cell? ⟨w1.heap.size, 0, none⟩ = some (.int .i64 7) := by rw [Lib.cell_of_heap HBX.out]; rfl
  have d1 : w5.cell? ⟨w1.heap.size, 1, none⟩ = some (.string xt) := by rw [Lib.cell_of_heap HBX.out]; rfl
  clear HBX
  go_wp2_with fail
  refine (lword_any _ _).mono ?_
  rintro e w6 h6
  obtain ⟨v6, rfl, n6, b6⟩ := h6.valB HL.out.in
  have HLq : Hid (Lk w0 b w [] w6) := HL.out.step b6
  have DRq : Hid (NdB b w6 v5 (⟨6, ⟨#[]⟩, 0⟩ :: (xs ++ [⟨1, ⟨#[59]⟩, 0⟩]))) := DR.out.bel b6
  clear DR
  have DR : Hid (NdB b w6 v5 (⟨6, ⟨#[]⟩, 0⟩ :: (xs ++ [⟨1, ⟨#[59]⟩, 0⟩]))) := DRq
  clear DRq
  have DL : Hid (NdB b w6 v6 [⟨1, (⟨#[108, 101, 116, 32]⟩ : ByteArray) ++ xt ++ (⟨#[32, 61]⟩ : ByteArray), 0⟩]) := n6
  clear h6 n6 b6 HL
  have HL : Hid (Lk w0 b w [] w6) := HLq
  clear HLq
  clear d0 d1
  go_wp2_with fail
  refine (lblank_any _).mono ?_
  rintro e w7 h7
  obtain ⟨v7, rfl, n7, b7⟩ := h7.valB HL.out.in
  have HLq : Hid (Lk w0 b w [] w7) := HL.out.step b7
  have DRq : Hid (NdB b w7 v5 (⟨6, ⟨#[]⟩, 0⟩ :: (xs ++ [⟨1, ⟨#[59]⟩, 0⟩]))) := DR.out.bel b7
  clear DR
  have DR : Hid (NdB b w7 v5 (⟨6, ⟨#[]⟩, 0⟩ :: (xs ++ [⟨1, ⟨#[59]⟩, 0⟩]))) := DRq
  clear DRq
  have DLq : Hid (NdB b w7 v6 [⟨1, (⟨#[108, 101, 116, 32]⟩ : ByteArray) ++ xt ++ (⟨#[32, 61]⟩ : ByteArray), 0⟩]) := DL.out.bel b7
  clear DL
  have DL : Hid (NdB b w7 v6 [⟨1, (⟨#[108, 101, 116, 32]⟩ : ByteArray) ++ xt ++ (⟨#[32, 61]⟩ : ByteArray), 0⟩]) := DLq
  clear DLq
  have DB : Hid (NdB b w7 v7 [⟨2, ⟨#[]⟩, 0⟩]) := n7
  clear h7 n7 b7 HL
  have HL : Hid (Lk w0 b w [] w7) := HLq
  clear HLq
  go_wp2_with fail
  refine (lboth_any _ DB.out.val DR.out.val (by first | (simp; done) | (simp; omega))).mono ?_
  rintro e w8 h8
  obtain ⟨v8, rfl, n8, b8⟩ := h8.valB HL.out.in
  have HLq : Hid (Lk w0 b w [] w8) := HL.out.step b8
  clear DB
  clear DR
  have DLq : Hid (NdB b w8 v6 [⟨1, (⟨#[108, 101, 116, 32]⟩ : ByteArray) ++ xt ++ (⟨#[32, 61]⟩ : ByteArray), 0⟩]) := DL.out.bel b8
  clear DL
  have DL : Hid (NdB b w8 v6 [⟨1, (⟨#[108, 101, 116, 32]⟩ : ByteArray) ++ xt ++ (⟨#[32, 61]⟩ : ByteArray), 0⟩]) := DLq
  clear DLq
  have DQ : Hid (NdB b w8 v8 (⟨6, ⟨#[]⟩, 0⟩ :: ([⟨2, ⟨#[]⟩, 0⟩] ++ (⟨6, ⟨#[]⟩, 0⟩ :: (xs ++ [⟨1, ⟨#[59]⟩, 0⟩]))))) := n8
  clear h8 n8 b8 HL
  have HL : Hid (Lk w0 b w [] w8) := HLq
  clear HLq
  go_wp2_with fail
  refine (ldeeper_any _ DQ.out.val (by first | (simp; done) | (simp; omega))).mono ?_
  rintro e w9 h9
  obtain ⟨v9, rfl, n9, b9⟩ := h9.valB HL.out.in
  have HLq : Hid (Lk w0 b w [] w9) := HL.out.step b9
  clear DQ
  have DLq : Hid (NdB b w9 v6 [⟨1, (⟨#[108, 101, 116, 32]⟩ : ByteArray) ++ xt ++ (⟨#[32, 61]⟩ : ByteArray), 0⟩]) := DL.out.bel b9
  clear DL
  have DL : Hid (NdB b w9 v6 [⟨1, (⟨#[108, 101, 116, 32]⟩ : ByteArray) ++ xt ++ (⟨#[32, 61]⟩ : ByteArray), 0⟩]) := DLq
  clear DLq
  have DD : Hid (NdB b w9 v9 (⟨7, ⟨#[]⟩, 2⟩ :: (⟨6, ⟨#[]⟩, 0⟩ :: ([⟨2, ⟨#[]⟩, 0⟩] ++ (⟨6, ⟨#[]⟩, 0⟩ :: (xs ++ [⟨1, ⟨#[59]⟩, 0⟩])))))) := n9
  clear h9 n9 b9 HL
  have HL : Hid (Lk w0 b w [] w9) := HLq
  clear HLq
  go_wp2_with fail
  refine (lboth_any _ DL.out.val DD.out.val (by first | (simp; done) | (simp; omega))).mono ?_
  rintro e w10 h10
  obtain ⟨v10, rfl, n10, b10⟩ := h10.valB HL.out.in
  have HLq : Hid (Lk w0 b w [] w10) := HL.out.step b10
  clear DL
  clear DD
  have DG : Hid (NdB b w10 v10 (⟨6, ⟨#[]⟩, 0⟩ :: ([⟨1, (⟨#[108, 101, 116, 32]⟩ : ByteArray) ++ xt ++ (⟨#[32, 61]⟩ : ByteArray), 0⟩] ++ (⟨7, ⟨#[]⟩, 2⟩ :: (⟨6, ⟨#[]⟩, 0⟩ :: ([⟨2, ⟨#[]⟩, 0⟩] ++ (⟨6, ⟨#[]⟩, 0⟩ :: (xs ++ [⟨1, ⟨#[59]⟩, 0⟩])))))))) := n10
  clear h10 n10 b10 HL
  have HL : Hid (Lk w0 b w [] w10) := HLq
  clear HLq
  go_wp2_with fail
  refine (lgroup_any _ DG.out.val (by first | (simp; done) | (simp; omega))).mono ?_
  rintro e w11 h11
  have HX : Hid (NdG w0 b w R [] e w11) := by
    have h := h11.gof HL.out
    show NdG w0 b w R [] e w11
    rw [HRR.out]
    exact h
  obtain ⟨v11, rfl, _, _⟩ := h11.val
  clear h11 HL HRR DG
  go_wp2
  go_ret
  exact HX.out
set_option maxRecDepth 100000 in
set_option maxHeartbeats 4000000 in
theorem lstat_do {w0 : World} {b : Nat} {xt : ByteArray} {xn : Int} {y : Td} {k : Fo} (hX : ExL w0 b y k) (hz : (dcOf y k.dcs).nodes.length ≤ 1000) (w : World) (hW : LyE w0 b (⟨8, xt, xn⟩ :: (y :: (k.nodes ++ []))) w) :
    Calls Tryz.prog 84 #[.pointer (some ⟨b, 0, none⟩)] w fun e w' => NdG w0 b w (stD ⟨8, xt, xn⟩ (dcOf y k.dcs)).nodes [] e w' := by
  have HN : Hid (Calls Tryz.prog 122 #[.pointer (some ⟨b, 0, none⟩)] w fun e w' => e = .returned (.agg #[.int .i64 8, .string xt, .int .i64 xn]) ∧ Lk w0 b w (y :: (k.nodes ++ [])) w') := lnext_any hW
  have HXL : Hid (∀ W, LyE w0 b (y :: (k.nodes ++ [])) W → Calls Tryz.prog 124 #[.pointer (some ⟨b, 0, none⟩)] W fun e w' => NdG w0 b W (dcOf y k.dcs).nodes [] e w') := fun W hW => hX [] W hW
  have HRR : Hid ((stD ⟨8, xt, xn⟩ (dcOf y k.dcs)).nodes = ⟨6, ⟨#[]⟩, 0⟩ :: ((dcOf y k.dcs).nodes ++ [⟨1, ⟨#[59]⟩, 0⟩])) := rfl
  generalize (stD ⟨8, xt, xn⟩ (dcOf y k.dcs)).nodes = R at HRR ⊢
  generalize (dcOf y k.dcs).nodes = xs at HXL HRR hz
  generalize y :: (k.nodes ++ []) = r0 at HN HXL
  clear hX hW
  go_enter Tryz.func84, Tryz.ntmps84
  go_wp2_with fail
  refine HN.out.mono ?_
  rintro e w1 ⟨rfl, h1⟩
  have HSC : Hid (∃ w2, w1.alloc (.cells #[.int .i64 8, .string xt, .int .i64 xn] 39) = w2 ∧ Lk w0 b w r0 w2 ∧ w2.heap[w1.heap.size]? = some (.cells #[.int .i64 8, .string xt, .int .i64 xn] 39 (0, 0))) := ⟨_, rfl, h1.step (belA w1 _), heap_alloc_new w1 _⟩
  have hgb : w1.heap.size ≠ b := by have := h1.in; omega
  clear h1 HN
  go_wp2_with fail
  obtain ⟨w2, hw2, hl2, hx2⟩ := HSC.out
  rw [hw2]
  have HL : Hid (Lk w0 b w r0 w2) := hl2
  have HBX : Hid (w2.heap[w1.heap.size]? = some (.cells #[.int .i64 8, .string xt, .int .i64 xn] 39 (0, 0))) := hx2
  clear HSC hl2 hx2 hw2
  go_wp2_with fail
  refine (HXL.out _ HL.out.ly).mono ?_
  rintro e w3 h3
  obtain ⟨v3, rfl, n3, l3⟩ := h3.val
  have HLq : Hid (Lk w0 b w [] w3) := HL.out.then l3
  have HBXq : Hid (w3.heap[w1.heap.size]? = some (.cells #[.int .i64 8, .string xt, .int .i64 xn] 39 (0, 0))) := (l3.bt.block _ (Array.getElem?_eq_some_iff.1 HBX.out).1 hgb).trans HBX.out
  clear HBX
  have HBX : Hid (w3.heap[w1.heap.size]? = some (.cells #[.int .i64 8, .string xt, .int .i64 xn] 39 (0, 0))) := HBXq
  clear HBXq
  have DX : Hid (NdB b w3 v3 xs) := n3
  clear h3 n3 l3 HL
  have HL : Hid (Lk w0 b w [] w3) := HLq
  clear HLq
  go_wp2_with fail
  refine (lword_any _ _).mono ?_
  rintro e w4 h4
  obtain ⟨v4, rfl, n4, b4⟩ := h4.valB HL.out.in
  have HLq : Hid (Lk w0 b w [] w4) := HL.out.step b4
  have HBXq : Hid (w4.heap[w1.heap.size]? = some (.cells #[.int .i64 8, .string xt, .int .i64 xn] 39 (0, 0))) := (b4.block _ (Array.getElem?_eq_some_iff.1 HBX.out).1).trans HBX.out
  clear HBX
  have HBX : Hid (w4.heap[w1.heap.size]? = some (.cells #[.int .i64 8, .string xt, .int .i64 xn] 39 (0, 0))) := HBXq
  clear HBXq
  have DXq : Hid (NdB b w4 v3 xs) := DX.out.bel b4
  clear DX
  have DX : Hid (NdB b w4 v3 xs) := DXq
  clear DXq
  have DS : Hid (NdB b w4 v4 [⟨1, ⟨#[59]⟩, 0⟩]) := n4
  clear h4 n4 b4 HL
  have HL : Hid (Lk w0 b w [] w4) := HLq
  clear HLq
  go_wp2_with fail
  refine (lboth_any _ DX.out.val DS.out.val (by first | (simp; done) | (simp; omega))).mono ?_
  rintro e w5 h5
  have HX : Hid (NdG w0 b w R [] e w5) := by
    have h := h5.gof HL.out
    show NdG w0 b w R [] e w5
    rw [HRR.out]
    exact h
  obtain ⟨v5, rfl, _, b5⟩ := h5.val
  have hbx : w5.heap[w1.heap.size]? = some (.cells #[.int .i64 8, .string xt, .int .i64 xn] 39 (0, 0)) := (b5.block _ (Array.getElem?_eq_some_iff.1 HBX.out).1).trans HBX.out
  have d0 : w5.cell? ⟨w1.heap.size, 0, none⟩ = some (.int .i64 8) := by rw [Lib.cell_of_heap hbx]; rfl
  clear h5 HL HRR DX DS b5 hbx HBX
  go_wp2
  go_ret
  exact HX.out
/-- A statement that is no note, its nodes in a layer. -/
theorem lstat_any {t : List Td} {a : Option Addr} {cap : Nat} {w W : World} {b : Nat} (ht : TabP w) (h : treeF t = 0) (h9 : opT t ≠ 9) (hc : t.length ≤ cap) (hN : Tds w a t) (hlt : w.heap.size ≤ b) (hx : W.heap[b]? = some (.cells #[.slice a t.length cap] 134 (0, 0))) (hb : Below w.heap.size w W) :
    Calls Tryz.prog 84 #[.pointer (some ⟨b, 0, none⟩)] W fun e w' => NdR w (stDoc t).nodes e w' := by
  obtain ⟨h1, h2, _, _⟩ := treeF_zero h
  obtain ⟨x, y, k, rfl, hok, hex, hk, hxx⟩ := st_split h h9
  have hall : EAL w b (.cons y k .nil) := lexp_all ht _ hok hex (by simp only [List.length_cons] at h1; omega)
  have hz : (dcOf y k.dcs).nodes.length ≤ 1000 := by
    have := (sum_in y k .nil).2
    simp only [List.length_cons] at h1
    omega
  have e0 : stDoc (x :: (Fo.cons y k .nil).nodes) = stD x (dcOf y k.dcs) := stDoc_eq hok hk
  have hnd : x :: (Fo.cons y k .nil).nodes = x :: (y :: (k.nodes ++ [])) := by simp [Fo.nodes]
  rw [e0]
  have hW : LyE w b (x :: (y :: (k.nodes ++ []))) W := by
    rw [← hnd]
    exact ⟨a, cap, hx, hc, hN, hb, hlt⟩
  have key : Calls Tryz.prog 84 #[.pointer (some ⟨b, 0, none⟩)] W fun e w' => NdG w b W (stD x (dcOf y k.dcs)).nodes [] e w' := by
    obtain ⟨xo, xt, xn⟩ := x
    rcases hxx with ⟨ho, hnm, _⟩ | ⟨ho, _, _⟩
    · dsimp only at ho hnm
      subst ho
      have h8 := name_len hnm
      rw [btL_len] at h8
      exact lstat_let hall.1 hz h8 W hW
    · dsimp only at ho
      subst ho
      exact lstat_do hall.1 hz W hW
  refine key.mono ?_
  rintro e w' ⟨A, c, rfl, ho, hl⟩
  exact ⟨A, c, rfl, ho.down hb.size, hb.trans ((hl.bt.mono hb.size).below hlt)⟩
set_option maxRecDepth 100000 in
set_option maxHeartbeats 2000000 in
theorem llaid_any (t : List Td) (a : Option Addr) (cap : Nat) (w : World) (ht : TabP w) (h : treeF t = 0) (h9 : opT t ≠ 9) (hc : t.length ≤ cap) (hN : Tds w a t) : Calls Tryz.prog 51 #[.slice a t.length cap] w fun e w' => DocOut t e w' ∧ Below w.heap.size w w' := by
  have HST : Hid (∀ (W : World) (b : Nat), w.heap.size ≤ b → W.heap[b]? = some (.cells #[.slice a t.length cap] 134 (0, 0)) → Below w.heap.size w W → Calls Tryz.prog 84 #[.pointer (some ⟨b, 0, none⟩)] W fun e w' => NdR w (stDoc t).nodes e w') := fun W b hlt hx hb => lstat_any ht h h9 hc hN hlt hx hb
  have hn9 := (doc_ok h h9).n
  by_cases hm : 400 < (stDoc t).nodes.length
  · obtain ⟨e1, e2, _, _⟩ := lay_many h h9 hm
    have HO : Hid (∀ W, DocOut t (.returned (.tuple #[.slice none 0 0, errN 3])) W) := fun W => ⟨none, 0, by rw [e1, e2]; rfl, by rw [e2]; exact fun i hi => by simp at hi, by rw [e2]; exact Nat.le_refl _⟩
    generalize (stDoc t).nodes = xs at HST hm hn9
    have hmi : (400 : Int) < (xs.length : Int) := by omega
    clear h h9 e1 e2 hN ht
    go_enter Tryz.func51, Tryz.ntmps51
    go_wp2_with fail
    refine (HST.out _ _ (Nat.le_refl _) (heap_alloc_new w _) (belA w _)).mono ?_
    rintro e w2 ⟨A, c, rfl, hO, b2⟩
    have HB2 : Hid (Below w.heap.size w w2) := b2
    clear hO b2
    go_wp2
    go_ret2
    exact ⟨HO.out _, HB2.out⟩
  · obtain ⟨e1, e2, _, _⟩ := lay_few h h9 hm
    have HO : Hid (∀ A c W, Nods W A (stDoc t).nodes → (stDoc t).nodes.length ≤ c → DocOut t (.returned (.tuple #[.slice A (stDoc t).nodes.length c, errN 0])) W) := fun A c W h h2 => ⟨A, c, by rw [e1, e2], by rw [e2]; exact h, by rw [e2]; exact h2⟩
    generalize (stDoc t).nodes = xs at HST hm hn9 HO
    have hmi : ¬ (400 : Int) < (xs.length : Int) := by omega
    clear h h9 e1 e2 hN ht
    go_enter Tryz.func51, Tryz.ntmps51
    go_wp2_with fail
    refine (HST.out _ _ (Nat.le_refl _) (heap_alloc_new w _) (belA w _)).mono ?_
    rintro e w2 ⟨A, c, rfl, hO, b2⟩
    have HB2 : Hid (Below w.heap.size w w2) := b2
    have HN2 := (show Hid (_) from HO.out A c w2 hO.nods (own_nods hO).2.1)
    clear hO b2
    go_wp2
    go_ret2
    exact ⟨HN2.out, HB2.out⟩
end Go.Proofs.YtmbeamcjpidnjaaGreatDoor
