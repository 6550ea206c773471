import Derived.Test.YtljpkbapoaafkaaDB20
import Derived.Test.YtljpkbapoaafkaaDB24
/- The specification's DecodeBlock: its state. -/
namespace Go.Proofs.Ytljpkbapoaafkaa
open Go.RowKit
set_option linter.unusedVariables false

/-- The block of the answer, the reader, and the block that is read. -/
structure SB (w W : World) (g t : Nat) (l : List Int) (q : Nat) (s : Bool) (X Y : List Int) (ht : Int) (u : Value) : Prop where
  res : Blk W 45 w.heap.size (bl4 z32 z32 0 (.slice none 0 0))
  blk : Blk W 45 t (bl4 X Y ht u)
  rd : Rdr W g w.heap.size l q s
  bel : Below w.heap.size w W
  hg : w.heap.size < g
  gt : g < t
theorem SB.lt {w W : World} {g t : Nat} {l : List Int} {q : Nat} {s : Bool} {X Y : List Int} {ht : Int} {u : Value} (h : SB w W g t l q s X Y ht u) : t < W.heap.size := h.blk.lt
theorem SB.ge {w W : World} {g t : Nat} {l : List Int} {q : Nat} {s : Bool} {X Y : List Int} {ht : Int} {u : Value} (h : SB w W g t l q s X Y ht u) : w.heap.size ≤ W.heap.size := h.bel.size
theorem SB.only {w W W' : World} {g t : Nat} {l : List Int} {q q' : Nat} {s s' : Bool} {X Y : List Int} {ht : Int} {u : Value} (h : SB w W g t l q s X Y ht u) (ho : OnlyB g W W') (hr : Rdr W' g w.heap.size l q' s') : SB w W' g t l q' s' X Y ht u :=
  ⟨h.res.only ho (by have := h.hg; omega), h.blk.only ho (by have := h.gt; omega), hr, h.bel.trans (ho.below (by have := h.hg; omega) h.ge), h.hg, h.gt⟩
theorem SB.below {w W W' : World} {g t : Nat} {l : List Int} {q : Nat} {s : Bool} {X Y : List Int} {ht : Int} {u : Value} (h : SB w W g t l q s X Y ht u) (hb : Below W.heap.size W W') : SB w W' g t l q s X Y ht u :=
  ⟨h.res.below hb, h.blk.below hb, h.rd.below hb, h.bel.trans (hb.mono h.ge), h.hg, h.gt⟩
theorem SB.belowB {w W W' : World} {g t N : Nat} {l : List Int} {q : Nat} {s : Bool} {X Y : List Int} {ht : Int} {u : Value} (h : SB w W g t l q s X Y ht u) (hb : Below N W W') (hN : t < N) (hNW : N ≤ W.heap.size) : SB w W' g t l q s X Y ht u := by
  have h1 := h.hg
  have h2 := h.gt
  exact ⟨(hb.block _ (by omega)).trans h.res, (hb.block _ hN).trans h.blk, h.rd.belowB hb (by omega) (by omega), h.bel.trans (hb.mono (by omega)), h1, h2⟩
theorem SB.put {w W : World} {g t : Nat} {l : List Int} {q : Nat} {s : Bool} {X Y X' Y' : List Int} {ht ht' : Int} {u u' : Value} (h : SB w W g t l q s X Y ht u) : SB w (W.setRow t (bl4 X' Y' ht' u').toArray) g t l q s X' Y' ht' u' := by
  have o := onlyB_setRow W t (bl4 X' Y' ht' u').toArray
  have h1 := h.hg
  have h2 := h.gt
  exact ⟨h.res.only o (by omega), h.blk.setRow _, h.rd.only o (by omega) (by omega), h.bel.trans (o.below (by omega) h.ge), h1, h2⟩
theorem SB.setH {w W : World} {g t : Nat} {l : List Int} {q : Nat} {s : Bool} {X Y : List Int} {ht : Int} {u : Value} (h : SB w W g t l q s X Y ht u) (hX : X.length = 32) (hY : Y.length = 32) (x : Int) : SB w (W.setCell ⟨t, 64, none⟩ (.int .i64 x)) g t l q s X Y x u := by
  have o := onlyB_setCell W t 64 (.int .i64 x)
  have h1 := h.hg
  have h2 := h.gt
  have k := h.blk.set 64 (.int .i64 x)
  rw [bl4_h _ _ _ hX hY] at k
  exact ⟨h.res.only o (by omega), k, h.rd.only o (by omega) (by omega), h.bel.trans (o.below (by omega) h.ge), h1, h2⟩
theorem SB.setT {w W : World} {g t : Nat} {l : List Int} {q : Nat} {s : Bool} {X Y : List Int} {ht : Int} {u : Value} (h : SB w W g t l q s X Y ht u) (hX : X.length = 32) (hY : Y.length = 32) (x : Value) : SB w (W.setCell ⟨t, 65, none⟩ x) g t l q s X Y ht x := by
  have o := onlyB_setCell W t 65 x
  have h1 := h.hg
  have h2 := h.gt
  have k := h.blk.set 65 x
  rw [bl4_t _ _ _ hX hY] at k
  exact ⟨h.res.only o (by omega), k, h.rd.only o (by omega) (by omega), h.bel.trans (o.below (by omega) h.ge), h1, h2⟩

/-- The header: what four takes read. -/
theorem hdr_end {l X Y x3 x4 : List Int} {q1 q2 q3 q4 : Nat} {s1 s2 s3 s4 : Bool}
    (y1 : s1 = false → 0 + 32 ≤ l.length ∧ q1 = 0 + 32 ∧ X = (l.drop 0).take 32) (n1 : s1 = true → l.length < 0 + 32)
    (y2 : s2 = false → s1 = false ∧ q1 + 32 ≤ l.length ∧ q2 = q1 + 32 ∧ Y = (l.drop q1).take 32) (n2 : s2 = true → s1 = true ∨ l.length < q1 + 32)
    (y3 : s3 = false → s2 = false ∧ q2 + 4 ≤ l.length ∧ q3 = q2 + 4 ∧ x3 = (l.drop q2).take 4) (n3 : s3 = true → s2 = true ∨ l.length < q2 + 4)
    (y4 : s4 = false → s3 = false ∧ q3 + 1 ≤ l.length ∧ q4 = q3 + 1 ∧ x4 = (l.drop q3).take 1) (n4 : s4 = true → s3 = true ∨ l.length < q3 + 1) :
    (s4 = false → 69 ≤ l.length ∧ X = l.take 32 ∧ Y = (l.drop 32).take 32 ∧ low x3 = low ((l.drop 64).take 4) ∧ blN l = (x4.getD 0 0).toNat ∧ q4 = 69) ∧ (s4 = true → l.length < 69) := by
  refine ⟨fun e => ?_, fun e => ?_⟩
  · obtain ⟨e3, a1, a2, a3⟩ := y4 e
    obtain ⟨e2, b1, b2, b3⟩ := y3 e3
    obtain ⟨e1, c1, c2, c3⟩ := y2 e2
    obtain ⟨d1, d2, d3⟩ := y1 e1
    obtain rfl : q1 = 32 := d2
    obtain rfl : q2 = 64 := c2
    obtain rfl : q3 = 68 := b2
    refine ⟨a1, d3, c3, by rw [b3], ?_, a2⟩
    rw [a3]
    unfold blN
    simp [List.getD]
  · rcases n4 e with h | h
    · rcases n3 h with h | h
      · rcases n2 h with h | h
        · have := n1 h
          omega
        · cases hs : s1 with
          | true =>
            have := n1 hs
            omega
          | false => have := y1 hs; omega
      · cases hs : s2 with
        | true =>
          rcases n2 hs with h | h
          · have := n1 h
            omega
          · cases hs1 : s1 with
            | true =>
              have := n1 hs1
              omega
            | false => have := y1 hs1; omega
        | false =>
          have a := y2 hs
          have b := y1 a.1
          omega
    · cases hs : s3 with
      | false =>
        have a := y3 hs
        have b := y2 a.1
        have c := y1 b.1
        omega
      | true =>
        rcases n3 hs with h | h
        · rcases n2 h with h | h
          · have := n1 h
            omega
          · cases hs1 : s1 with
            | true =>
              have := n1 hs1
              omega
            | false => have := y1 hs1; omega
        · cases hs2 : s2 with
          | true =>
            rcases n2 hs2 with h | h
            · have := n1 h
              omega
            · cases hs1 : s1 with
              | true =>
                have := n1 hs1
                omega
              | false => have := y1 hs1; omega
          | false =>
            have a := y2 hs2
            have b := y1 a.1
            omega
theorem decOk_short {l : List Int} (h : l.length < 69) : decOk l = false := by
  have := offT_ge l (blN l)
  unfold decOk blLen
  rw [decide_eq_false (by omega)]
  rfl
theorem OTxs.congr {B : Nat} {w : World} {a : Option Addr} {n c : Nat} {tv : Nat → TxV} {K K' : Nat → TxK} (h : OTxs B w a n c tv K) (e : ∀ i, i < n → K i = K' i) : OTxs B w a n c tv K' :=
  ⟨h.row.congr (fun i hi => by unfold txsF; rw [e i hi]), fun i hi => by rw [← e i hi]; exact h.each i hi, fun i j hij hj => by rw [← e i (by omega), ← e j hj]; exact h.sep i j hij hj⟩
/-- What is written again is what was read, where it is well formed. -/
theorem again_is {l : List Int} (hB : IsB l) (h69 : 69 ≤ l.length) (hf : blLen l ≤ l.length) (hs : ∀ i, i < blN l → spOk (l.drop (offT l i))) (hok : blOkB (blP l) = true) : encBlL (blP l) = l.take (blLen l) := by
  rw [encBlL_yes hok]
  exact encBl_parse hB h69 (blN l) (Nat.le_refl _) hf hs
theorem take_eq_iff {l : List Int} {k : Nat} (h : k ≤ l.length) : (l.take k = l) ↔ k = l.length := by
  constructor
  · intro e
    have := congrArg List.length e
    rw [List.length_take] at this
    omega
  · intro e
    rw [e, List.take_length]
end Go.Proofs.Ytljpkbapoaafkaa

/- The specification's DecodeBlock. -/
namespace Go.Proofs.Ytljpkbapoaafkaa
open Go.RowKit
set_option linter.unusedVariables false

set_option maxHeartbeats 4000000 in
set_option maxRecDepth 100000 in
theorem specDecBl_calls (a : Option Addr) (n c : Nat) (l : List Int) (w : World) (h : Bs w a n c l) (hl : l.length ≤ 1048576) :
    Calls Try.prog 18 #[.slice a n c] w fun e w' => Below w.heap.size w w' ∧ ∃ v, e = .returned (.tuple #[blval v (decK l), .bool (decOk l)]) ∧ OBl w.heap.size w' v (decK l) := by
  have hIB := h.byte
  have sZ : (Try.prog.info? 45).map (·.size) = some (bl4 z32 z32 0 (.slice none 0 0)).toArray.size := by rw [List.size_toArray, bl4_len _ _ z32_len z32_len]; exact sizeBl
  have k0 := blk_new w 45 (bl4 z32 z32 0 (.slice none 0 0)).toArray
  have q0 : Below w.heap.size w (w.alloc (Obj.cells (bl4 z32 z32 0 (.slice none 0 0)).toArray 45)) := (Below.refl _ _).alloc (Nat.le_refl _) _
  have z0 : (w.alloc (Obj.cells (bl4 z32 z32 0 (.slice none 0 0)).toArray 45)).heap.size = w.heap.size + 1 := by simp
  go_enter Try.func18, Try.ntmps18
  go_upto_region 1 with fail
  change Code.wp _ _ _ _ (w.alloc (Obj.cells (bl4 z32 z32 0 (.slice none 0 0)).toArray 45))
  generalize w.alloc (Obj.cells (bl4 z32 z32 0 (.slice none 0 0)).toArray 45) = W0 at *
  have HZ0 : Hid (W0.heap.size = w.heap.size + 1) := z0
  clear z0
  have k1 := blk_new W0 74 #[.slice a n c, .int .i64 0, .bool false]
  have q1 : Below W0.heap.size W0 (W0.alloc (Obj.cells #[.slice a n c, .int .i64 0, .bool false] 74)) := (Below.refl _ _).alloc (Nat.le_refl _) _
  have z1 : (W0.alloc (Obj.cells #[.slice a n c, .int .i64 0, .bool false] 74)).heap.size = W0.heap.size + 1 := by simp
  go_upto_region 2 with fail
  change Code.wp _ _ _ _ (W0.alloc (Obj.cells #[.slice a n c, .int .i64 0, .bool false] 74))
  generalize W0.alloc (Obj.cells #[.slice a n c, .int .i64 0, .bool false] 74) = W1 at *
  have HZ1 : Hid (W1.heap.size = W0.heap.size + 1) := z1
  clear z1
  have k2 := blk_new W1 45 (bl4 z32 z32 0 (.slice none 0 0)).toArray
  have q2 : Below W1.heap.size W1 (W1.alloc (Obj.cells (bl4 z32 z32 0 (.slice none 0 0)).toArray 45)) := (Below.refl _ _).alloc (Nat.le_refl _) _
  go_upto_region 3 with (first | (refine wpList_build1 rfl _ _ rfl built_bl0 ?_) | (refine wpList_storeNew rfl 45 _ _ rfl W1 (bl4 z32 z32 0 (.slice none 0 0)).toArray (bl4 z32 z32 0 (.slice none 0 0)).toArray 45 rfl rfl sZ rfl (bl4_all _ _ _ _ rfl) ?_))
  change Code.wp _ _ _ _ (W1.alloc (Obj.cells (bl4 z32 z32 0 (.slice none 0 0)).toArray 45))
  generalize W1.alloc (Obj.cells (bl4 z32 z32 0 (.slice none 0 0)).toArray 45) = W2 at *
  have hB2 : w.heap.size < W0.heap.size ∧ W0.heap.size < W1.heap.size := by have := HZ0.out; have := HZ1.out; omega
  have bb : Below w.heap.size w W2 := (q0.trans (q1.mono (by omega))).trans (q2.mono (by omega))
  have sb0 : SB w W2 W0.heap.size W1.heap.size l 0 false z32 z32 0 (.slice none 0 0) :=
    ⟨(k0.below q1).below q2, k2, ⟨a, n, c, k1.below q2, h.below bb, fun b off hp e => by
      obtain ⟨b1, off1, e1, hlt, _⟩ := h.at_ hp
      rw [e] at e1
      cases e1
      exact hlt, Nat.zero_le _, hl⟩, bb, hB2.1, hB2.2⟩
  clear k0 k1 k2 q0 q1 q2 bb HZ0 HZ1
  generalize W0.heap.size = g at *
  generalize W1.heap.size = t at *
  have TK := stake_calls g w.heap.size l 0 32 false W2 sb0.rd (by omega) (by omega)
  go_wp2_with fail
  refine Calls.mono TK ?_
  rintro e u1 ⟨b1, off1, c1, X, q1, s1, rfl, tk⟩
  have LH := l5Hash_calls _ c1 X u1 tk.bs
  have hXl := tk.bs.len_eq
  have hXB := tk.bs.byte
  have sb' := sb0.only tk.only tk.rd
  have Y1 : Hid _ := And.intro (fun e => (tk.yes e).2) (fun e => (tk.no e).resolve_left (by decide))
  clear TK sb0 tk
  go_wp2_with fail
  refine Calls.mono LH ?_
  rintro e v1 ⟨rfl, bb1⟩
  have sb'' := sb'.below bb1
  clear LH sb' bb1
  have kO := sb''.blk
  have sH : (Try.prog.info? 42).map (·.size) = some (ob X).length := by rw [ob_length, hXl]; exact sizeH
  have hfit : 0 + (ob X).length ≤ (bl4 z32 z32 0 (.slice none 0 0)).length := by rw [ob_length, hXl, bl4_len _ _ z32_len z32_len]; omega
  have eP : Hid ((bl4 z32 z32 0 (.slice none 0 0)).take 0 ++ ob X ++ (bl4 z32 z32 0 (.slice none 0 0)).drop (0 + (ob X).length) = bl4 X z32 0 (.slice none 0 0)) := bl4_prev 0 _ z32_len hXl
  have HSB : Hid _ := sb''.put (X' := X) (Y' := z32) (ht' := 0) (u' := .slice none 0 0)
  clear sb''
  unfold hA
  go_upto_region 4 with (refine wpList_store_mid' rfl 42 _ _ rfl t 0 (ob X) rfl rfl 45 _ kO sH hfit (ob_oneCell _) ?_)
  rw [eP.out]
  generalize v1.setRow t (bl4 X z32 0 (.slice none 0 0)).toArray = W1 at *
  have sb1 := HSB.out
  clear HSB eP hfit sH kO
  have TK := stake_calls g w.heap.size l q1 32 s1 W1 sb1.rd (by omega) (by omega)
  go_wp2_with fail
  refine Calls.mono TK ?_
  rintro e u2 ⟨b2, off2, c2, Y, q2, s2, rfl, tk⟩
  have LH := l5Hash_calls _ c2 Y u2 tk.bs
  have hYl := tk.bs.len_eq
  have hYB := tk.bs.byte
  have sb' := sb1.only tk.only tk.rd
  have Y2 : Hid _ := And.intro tk.yes tk.no
  clear TK sb1 tk
  go_wp2_with fail
  refine Calls.mono LH ?_
  rintro e v2 ⟨rfl, bb2⟩
  have sb'' := sb'.below bb2
  clear LH sb' bb2
  have kO := sb''.blk
  have sH : (Try.prog.info? 42).map (·.size) = some (ob Y).length := by rw [ob_length, hYl]; exact sizeH
  have hfit : 32 + (ob Y).length ≤ (bl4 X z32 0 (.slice none 0 0)).length := by rw [ob_length, hYl, bl4_len _ _ hXl z32_len]; omega
  have eP : Hid ((bl4 X z32 0 (.slice none 0 0)).take 32 ++ ob Y ++ (bl4 X z32 0 (.slice none 0 0)).drop (32 + (ob Y).length) = bl4 X Y 0 (.slice none 0 0)) := bl4_root 0 _ hXl z32_len hYl
  have HSB : Hid _ := sb''.put (X' := X) (Y' := Y) (ht' := 0) (u' := .slice none 0 0)
  clear sb''
  unfold hA
  go_upto_region 5 with (refine wpList_store_mid' rfl 42 _ _ rfl t 32 (ob Y) rfl rfl 45 _ kO sH hfit (ob_oneCell _) ?_)
  rw [eP.out]
  generalize v2.setRow t (bl4 X Y 0 (.slice none 0 0)).toArray = W2 at *
  have sb2 := HSB.out
  clear HSB eP hfit sH kO
  have TK := stake_calls g w.heap.size l q2 4 s2 W2 sb2.rd (by omega) (by omega)
  go_wp2_with fail
  refine Calls.mono TK ?_
  rintro e u3 ⟨b3, off3, c3, x3, q3, s3, rfl, tk⟩
  have LW := l2Low_calls _ 4 c3 x3 u3 tk.bs (by omega)
  obtain ⟨ht, hht⟩ : ∃ ht, ht = low x3 := ⟨_, rfl⟩
  rw [← hht] at LW
  have sb' := sb2.only tk.only tk.rd
  have Y3 : Hid _ := And.intro tk.yes tk.no
  have HHT : Hid _ := hht
  clear TK sb2 tk hht
  go_wp2_with fail
  refine Calls.mono LW ?_
  rintro e v3 ⟨rfl, hv3⟩
  obtain rfl := hv3.symm
  clear LW
  have c64 := sb'.blk.cell 64
  rw [bl4_get64 _ _ hXl hYl] at c64
  have f64 := sb'.blk.free 64
  have HSB : Hid _ := sb'.setH hXl hYl ht
  clear sb' hv3
  go_upto_region 6 with fail
  generalize u3.setCell ⟨t, 64, none⟩ (.int .i64 ht) = W3 at *
  have sb3 := HSB.out
  clear HSB c64 f64
  have TK := stake_calls g w.heap.size l q3 1 s3 W3 sb3.rd (by omega) (by omega)
  go_wp2_with fail
  refine Calls.mono TK ?_
  rintro e w5 ⟨b4, off4, c4, x4, q4, s4, rfl, tk⟩
  obtain ⟨_, _, e, _, hc⟩ := tk.bs.at_ (by omega)
  cases e
  have cc := hc 0 (by omega)
  rw [Nat.add_zero] at cc
  obtain ⟨hn1, hn2⟩ := byte_nat tk.bs.byte 0
  rw [hn1] at cc
  have HD := hdr_end Y1.out.1 Y1.out.2 Y2.out.1 Y2.out.2 Y3.out.1 Y3.out.2 tk.yes tk.no
  rw [← HHT.out] at HD
  have HH : Hid _ := HD
  have sb5 := sb3.only tk.only tk.rd
  clear TK sb3 tk hc hn1 HD Y1 Y2 Y3 HHT
  generalize (x4.getD 0 0).toNat = nt at *
  have hlt5 := sb5.lt
  have HS : Hid _ := sb5
  clear sb5
  generalize hB5 : w5.heap.size = B5 at *
  go_wp2
  go_loopw [6] (fun i wr => ∃ j a c tv KK s q, j ≤ nt ∧ i = .int .i64 ((nt - j : Nat) : Int) ∧ B5 ≤ wr.heap.size ∧ SB w wr g t l q s X Y ht (.slice a j c) ∧ OTxs B5 wr a j c tv KK ∧ (∀ i, i < j → (KK i).ni ≤ 256 ∧ (KK i).no ≤ 256) ∧ (s = false → 69 ≤ l.length ∧ blN l = nt ∧ q = offT l j ∧ X = l.take 32 ∧ Y = (l.drop 32).take 32 ∧ ht = low ((l.drop 64).take 4) ∧ ∀ i, i < j → KK i = txsP l i ∧ spOk (l.drop (offT l i))) ∧ (s = true → decOk l = false)) (fun i _ => (intOf i).toNat)
  case atStart => exact ⟨0, none, 0, fun _ => ⟨none, 0, none, 0⟩, fun _ => ⟨0, fun _ => zeroP, 0, fun _ => 0, 0⟩, s4, q4, Nat.zero_le _, rfl, Nat.le_of_eq hB5.symm, HS.out, ⟨orow_nil _ _ _ _ _, fun i hi => absurd hi (by omega), fun i k _ hk => absurd hk (by omega)⟩, fun i hi => absurd hi (by omega), fun e => ⟨(HH.out.1 e).1, (HH.out.1 e).2.2.2.2.1, (HH.out.1 e).2.2.2.2.2, (HH.out.1 e).2.1, (HH.out.1 e).2.2.1, (HH.out.1 e).2.2.2.1, fun i hi => absurd hi (by omega)⟩, fun e => decOk_short (HH.out.2 e)⟩
  case round =>
    obtain ⟨j, a1, c1, tv, KK, s, q, hj, rfl, hz, sb, oT, hsm, hyes, hno⟩ := hrel
    clear HS HH cc
    by_cases hgo2 : j < nt ∧ s = false
    · obtain ⟨hlt, rfl⟩ := hgo2
      have cS := sb.rd.cellS
      have hpos : (0 : Int) < ((nt - j : Nat) : Int) := by omega
      have dr : Below wr.heap.size wr wr.drew := ⟨rfl, rfl, rfl, Nat.le_refl _, fun _ _ => rfl⟩
      have sbd := sb.below dr
      have cs : wr.drew.cell? ⟨t, 65, none⟩ = some (.slice a1 j c1) := by
        have := sbd.blk.cell 65
        rw [bl4_get65 _ _ hXl hYl] at this
        exact this
      have HQL : Hid (q ≤ l.length) := sbd.rd.le.1
      have TX := stx_calls g w.heap.size l q wr.drew sbd.rd sbd.ge
      have HK : Hid _ := And.intro sbd (And.intro (oT.below dr) (hyes rfl))
      have hzd : B5 ≤ wr.drew.heap.size := hz
      clear sb oT hyes hno sbd
      go_wp2_with fail
      refine wp_regionD (fun v => v.cell? ⟨t, 65, none⟩ = some (.slice a1 j c1)) (fun k => decide (5 ≤ k)) (by kernel_rfl) ?_
      refine wpAnyD_takeT 0 41 (v := ?vva0) rfl rfl (by kernel_rfl) (by kernel_rfl) (by kernel_rfl) (by kernel_rfl) (fun _ _ _ h => h) (Or.inl ⟨by rfl, ?hya0⟩) cs ?resta0
      case hya0 => (intro w hSw; (try dsimp only at hSw); go_simp; try with_reducible rfl)
      simp only [Act.put, List.setIfInBounds_toArray, List.set_cons_zero, List.set_cons_succ]
      refine wpAnyD_takeT 1 42 (v := ?vva1) rfl rfl (by kernel_rfl) (by kernel_rfl) (by kernel_rfl) (by kernel_rfl) (fun _ _ _ h => h) (Or.inl ⟨by rfl, ?hya1⟩) cs ?resta1
      case hya1 => (intro w hSw; (try dsimp only at hSw); go_simp; try with_reducible rfl)
      simp only [Act.put, List.setIfInBounds_toArray, List.set_cons_zero, List.set_cons_succ]
      refine wpAnyD_takeT 2 43 (v := ?vva2) rfl rfl (by kernel_rfl) (by kernel_rfl) (by kernel_rfl) (by kernel_rfl) (fun _ _ _ h => h) (Or.inl ⟨by rfl, ?hya2⟩) cs ?resta2
      case hya2 => (intro w hSw; (try dsimp only at hSw); go_simp; try with_reducible rfl)
      simp only [Act.put, List.setIfInBounds_toArray, List.set_cons_zero, List.set_cons_succ]
      generalize wr.drew = wd at *
      refine wpAnyD_one 3 (by kernel_rfl) rfl (fun KK2 hK => ?_)
      rw [if_pos (show Region.wanted _ _ = true from rfl)]
      go_wp2_with fail
      refine Calls.mono TX ?_
      rintro e w6 ⟨v6, K6, rfl, st⟩
      clear TX
      have sb6 : ∃ q6 s6, SB w w6 g t l q6 s6 X Y ht (.slice a1 j c1) ∧ (s6 = false → spOk (l.drop q) ∧ K6 = txP (l.drop q) ∧ q6 = q + txLen (l.drop q)) ∧ (s6 = true → ¬ spOk (l.drop q)) := by
        rcases st.is with ⟨h1, h2, h3⟩ | ⟨h1, q6, h3⟩
        · exact ⟨_, false, HK.out.1.only st.only h3, fun _ => ⟨h1, h2, rfl⟩, (fun e => by cases e)⟩
        · exact ⟨q6, true, HK.out.1.only st.only h3, (fun e => by cases e), fun _ => h1⟩
      obtain ⟨q6, s6, sb6, HQ⟩ := sb6
      have HQ6 : Hid _ := HQ
      clear HQ
      have ck6 := sb6.blk.cell 65
      rw [bl4_get65 _ _ hXl hYl] at ck6
      go_wp2_with fail
      refine hK.out _ _ (fun _ => ck6) ?_
      clear hK KK2
      have hgB : g < B5 := by have := sb6.gt; omega
      have oT6 := HK.out.2.1.only st.only hgB
      have hz6 := Nat.le_trans hzd st.only.size
      have oX := st.own
      have SEP : Hid (∀ i, i < j → sepTx (tv i) v6 (KK i) K6) := fun i hi => sep_fresh (HK.out.2.1.each i hi) oX (Nat.le_refl _)
      have SEP0 : Hid _ := HK.out.2.1.sep
      have q7 : Below w6.heap.size w6 (w6.alloc (Obj.cells (txc v6 K6).toArray 34)) := (Below.refl _ _).alloc (Nat.le_refl _) _
      have ck7 := (sb6.below q7).blk.cell 65
      rw [bl4_get65 _ _ hXl hYl] at ck7
      have hs6 : K6.ni ≤ 256 ∧ K6.no ≤ 256 := ⟨st.ni, st.no⟩
      have HY : Hid _ := HK.out.2.2
      clear HK ck6 st
      refine wpAnyD_one 4 (by kernel_rfl) rfl (fun KK2 hK => ?_)
      rw [if_pos (show Region.wanted _ _ = true from rfl)]
      refine wp_buildSlice_eq1 _ _ _ rfl (v := .slice (some ⟨w6.heap.size, 0, none⟩) 1 1) (w' := w6.alloc (Obj.cells (txc v6 K6).toArray 34)) ?bs ?_
      case bs =>
        simp only [List.map_toArray, List.map_cons, List.map_nil]
        exact run_bsRow elTx (by omega) (.agg (txc v6 K6).toArray) (txc v6 K6) rfl rfl w6
      refine hK.out _ _ (fun _ => ck7) ?_
      clear hK KK2 ck7
      refine wpAnyD_one 5 (by kernel_rfl) rfl (fun KK2 hK => ?_)
      rw [if_pos (show Region.wanted _ _ = true from rfl)]
      refine wp_appRow _ _ elTx rfl B5 a1 j c1 (txsF tv KK) rfl oT6.row (txc v6 K6) rfl (txc_one _ _) rfl (by omega) (by omega) hz6 ?_
      intro a8 c8 w8 o8 b8 g8
      refine hK.out _ _ (fun h => absurd h (by decide)) ?_
      clear hK KK2
      replace o8 : ORow 34 3 B5 w8 a8 (j + 1) c8 (txsF (updT tv j v6) (updT KK j K6)) := o8.congr (fun i hi => by
        by_cases e : i = j
        · subst e; rw [updR_same]; unfold txsF; rw [updT_same, updT_same]
        · rw [updR_lt _ _ (by omega)]; unfold txsF; rw [updT_ne _ _ _ e, updT_ne _ _ _ e])
      have kp : KeepT 64 w6 w8 := (keepT_below q7).trans (keepT_grown (own_below oT6.row q7) g8 (by decide))
      have ki : KeepT 3 w6 w8 := (keepT_below q7).trans (keepT_grown (own_below oT6.row q7) g8 (by decide))
      have oT8 : OTxs B5 w8 a8 (j + 1) c8 (updT tv j v6) (updT KK j K6) := by
        refine ⟨o8, fun i hi => ?_, fun i k hik hk => ?_⟩
        · by_cases e : i = j
          · subst e; rw [updT_same, updT_same]; exact (oX.mono hzd).keepT kp ki
          · rw [updT_ne _ _ _ e, updT_ne _ _ _ e]; exact (oT6.each i (by omega)).keepT kp ki
        · by_cases e : k = j
          · subst e; rw [updT_same, updT_same, updT_ne _ _ _ (by omega), updT_ne _ _ _ (by omega)]; exact SEP.out i (by omega)
          · rw [updT_ne _ _ _ e, updT_ne _ _ _ e, updT_ne _ _ _ (by omega), updT_ne _ _ _ (by omega)]; exact SEP0.out i k hik (by omega)
      have sb8 := sb6.belowB b8 hlt5 hz6
      have hz8 := Nat.le_trans hz6 b8.size
      have c65 := sb8.blk.cell 65
      rw [bl4_get65 _ _ hXl hYl] at c65
      have f65 := sb8.blk.free 65
      have ox := onlyB_setCell w8 t 65 (.slice a8 (j + 1) c8)
      have EN : (s6 = false → 69 ≤ l.length ∧ blN l = nt ∧ q6 = offT l (j + 1) ∧ X = l.take 32 ∧ Y = (l.drop 32).take 32 ∧ ht = low ((l.drop 64).take 4) ∧ ∀ i, i < j + 1 → updT KK j K6 i = txsP l i ∧ spOk (l.drop (offT l i))) ∧ (s6 = true → decOk l = false) := by
        obtain ⟨h1, h2, h3, h4, h5, h6, h7⟩ := HY.out
        refine ⟨fun e => ?_, fun e => ?_⟩
        · obtain ⟨g1, g2, g3⟩ := HQ6.out.1 e
          refine ⟨h1, h2, by rw [g3, h3]; rfl, h4, h5, h6, fun i hi => ?_⟩
          by_cases e : i = j
          · subst e
            rw [updT_same, g2, ← h3]
            exact ⟨by unfold txsP; rw [h3], g1⟩
          · rw [updT_ne _ _ _ e]
            exact h7 i (by omega)
        · have hb := HQ6.out.2 e
          rw [h3] at hb
          have hq := sb6.rd
          exact decOk_bad hIB (by omega) (by rw [← h3]; exact HQL.out) hb
      have FIN : Hid _ := And.intro (Nat.le_trans hz8 ox.size) (And.intro (sb8.setT hXl hYl (.slice a8 (j + 1) c8)) (And.intro (oT8.only ox hlt5) (And.intro (show ∀ i, i < j + 1 → (updT KK j K6 i).ni ≤ 256 ∧ (updT KK j K6 i).no ≤ 256 from fun i hi => by
        by_cases e : i = j
        · subst e; rw [updT_same]; exact hs6
        · rw [updT_ne _ _ _ e]; exact hsm i (by omega)) EN)))
      clear sb6 sb8 oT6 oT8 o8 b8 q7 ox oX kp ki g8 SEP SEP0 HQ6 HY EN
      refine wpAnyD_one 6 (by kernel_rfl) rfl (fun KK2 hK => ?_)
      rw [if_pos (show Region.wanted _ _ = true from rfl)]
      go_wp2_with fail
      refine hK.out _ _ (fun h => absurd h (by decide)) ?_
      clear hK KK2
      refine wpAnyD_one 7 (by kernel_rfl) rfl (fun KK2 hK => ?_)
      rw [if_pos (show Region.wanted _ _ = true from rfl)]
      go_wp2_with fail
      refine hK.out _ _ (fun h => absurd h (by decide)) ?_
      clear hK KK2
      refine wpAnyD_done (by kernel_rfl) ?_ _
      clear c65 f65 cs
      have hsub : ((nt - j : Nat) : Int) - 1 = ((nt - (j + 1) : Nat) : Int) := by omega
      go_wp2
      go_roundw
      case rel => exact ⟨j + 1, a8, c8, updT tv j v6, updT KK j K6, s6, q6, by omega, by rw [← hsub], FIN.out⟩
      case measure => simp [intOf]; omega
    · by_cases hjn : j = nt
      · subst hjn
        have hpos : ¬ ((0 : Int) < ((j - j : Nat) : Int)) := by omega
        cases s with
        | true =>
          obtain ⟨V, hV⟩ : ∃ V : BlV, V = ⟨a1, c1, tv⟩ := ⟨_, rfl⟩
          obtain ⟨K, hKd⟩ : ∃ K : BlK, K = ⟨X, Y, ht, j, KK⟩ := ⟨_, rfl⟩
          have hok : BlOk K := by rw [hKd]; exact ⟨hXl, hYl, hXB, hYB⟩
          have OB : OBl B5 wr V K := ⟨hok, by rw [hV, hKd]; exact oT⟩
          have HD : Hid (decOk l = false) := hno rfl
          have EN := specEncBl_calls V K wr OB.reads (by rw [hKd]; show j ≤ _; omega) (fun i hi => by rw [hKd] at hi ⊢; have := hsm i hi; exact ⟨by show (KK i).ni ≤ _; omega, by show (KK i).no ≤ _; omega⟩)
          unfold blval at EN
          have kT : Blk wr 45 t (blc V K) := by rw [hV, hKd]; exact sb.blk
          have sL : (Try.prog.info? 45).map (·.size) = some (blc V K).toArray.size := by rw [blc_size V hok]; exact sizeBl
          have HS : Hid _ := sb
          clear sb oT OB hyes hno hV hKd hsm hgo2
          go_wp2_with (refine wpList_load_row rfl 45 _ rfl t rfl 45 (blc V K).toArray (0, 0) _ kT Try.underlying45 rfl sL ?_)
          refine EN.mono ?_
          rintro e w6 ⟨a6, c6, rfl, b6, o6⟩
          have sb6 := HS.out.below b6
          have cS6 := sb6.rd.cellS
          have kR6 := sb6.res
          have kF := kR6.setRow (bl4 z32 z32 0 (.slice none 0 0))
          have bF := sb6.bel.trans ((onlyB_setRow w6 w.heap.size (bl4 z32 z32 0 (.slice none 0 0)).toArray).below (Nat.le_refl _) sb6.ge)
          clear EN HS b6 o6 kT sb6
          generalize blOkB K = okb at *
          go_wp2_with (first | (refine wpList_build1 rfl _ _ rfl built_bl0 ?_) | (refine wpList_store_row rfl 45 _ _ rfl w.heap.size (bl4 z32 z32 0 (.slice none 0 0)).toArray rfl rfl 45 _ kR6 sZ rfl (bl4_all _ _ _ _ rfl) ?_))
          refine bodyPost_ret (v := .tuple #[.agg (bl4 z32 z32 0 (.slice none 0 0)).toArray, .bool false]) ?_ rfl ⟨bF, zeroV, by rw [decK_no HD.out, HD.out]; rfl, by rw [decK_no HD.out]; exact zero_obl _ _⟩
          exact results_cellTmp Try.results18 _ _ w.heap.size 45 (bl4 z32 z32 0 (.slice none 0 0)).toArray _ rfl kF Try.underlying45 rfl sZ rfl
        | false =>
          obtain ⟨h69, hnt, hq, eX, eY, eH, hsp⟩ := hyes rfl
          obtain ⟨V, hV⟩ : ∃ V : BlV, V = ⟨a1, c1, tv⟩ := ⟨_, rfl⟩
          have hok : BlOk (blP l) := blP_ok hIB h69
          have OB : OBl B5 wr V (blP l) := ⟨hok, by
            show OTxs _ _ V.ta (blN l) V.tc V.tv (txsP l)
            rw [hV, hnt]
            exact oT.congr (fun i hi => (hsp i hi).1)⟩
          have hle := sb.rd.le.1
          have HF : Hid (blLen l ≤ l.length ∧ ∀ i, i < blN l → spOk (l.drop (offT l i))) := ⟨by unfold blLen; rw [hnt, ← hq]; exact hle, fun i hi => (hsp i (by omega)).2⟩
          have hsm2 := small_blP hIB
          have EN := specEncBl_calls V (blP l) wr OB.reads hsm2.1 hsm2.2
          unfold blval at EN
          have kT : Blk wr 45 t (blc V (blP l)) := by
            have e : bl4 X Y ht (.slice a1 j c1) = blc V (blP l) := by
              rw [hV, eX, eY, eH, blc_bl4]
              show bl4 _ _ _ (Value.slice a1 j c1) = bl4 _ _ _ (Value.slice a1 (blN l) c1)
              rw [hnt]
              rfl
            rw [← e]
            exact sb.blk
          have sL : (Try.prog.info? 45).map (·.size) = some (blc V (blP l)).toArray.size := by rw [blc_size V hok]; exact sizeBl
          have so : (bl4 z32 z32 0 (.slice none 0 0)).toArray.size = (blc V (blP l)).toArray.size := by rw [blc_size V hok, List.size_toArray, bl4_len _ _ z32_len z32_len]
          have HS : Hid _ := And.intro sb OB
          have hB5 : w.heap.size < B5 := by have := sb.hg; have := sb.gt; omega
          clear sb oT OB hyes hno hV hsm hsm2 hgo2 eX eY eH hsp hq hle hnt
          go_wp2_with (refine wpList_load_row rfl 45 _ rfl t rfl 45 (blc V (blP l)).toArray (0, 0) _ kT Try.underlying45 rfl sL ?_)
          refine EN.mono ?_
          rintro e w6 ⟨a6, c6, rfl, b6, o6⟩
          have sb6 := HS.out.1.below b6
          have cS6 := sb6.rd.cellS
          have kR6 := sb6.res
          have kT6 := kT.below b6
          have OB6 := HS.out.2.below b6
          clear EN HS
          by_cases hokb : blOkB (blP l) = true
          · rw [hokb]
            have eA := again_is hIB h69 HF.out.1 HF.out.2 hokb
            have SM := l2Same_calls _ a _ n _ c _ l w6 (o6.bs (by rw [eA]; exact isB_take hIB _)) (h.below (sb6.bel))
            have EQ : Hid (decide (encBlL (blP l) = l) = decOk l) := by
              show decide (encBlL (blP l) = l) = decOk l
              unfold decOk
              rw [eA, hokb, Bool.and_true, decide_eq_decide.2 (take_eq_iff HF.out.1)]
            rw [EQ.out] at SM
            have HS6 : Hid _ := sb6
            clear EQ eA b6 kT sb6
            generalize (encBlL (blP l)).length = EL at *
            cases hd : decOk l with
            | false =>
              rw [hd] at SM
              have HD : Hid _ := hd
              go_wp2_with fail
              refine SM.mono ?_
              rintro e w7 ⟨rfl, b7⟩
              have kR7 := kR6.below b7
              have bel7 := HS6.out.bel.trans (b7.mono HS6.out.ge)
              have kF := kR7.setRow (bl4 z32 z32 0 (.slice none 0 0))
              have bF := bel7.trans ((onlyB_setRow w7 w.heap.size (bl4 z32 z32 0 (.slice none 0 0)).toArray).below (Nat.le_refl _) bel7.size)
              clear SM HS6 b7 o6 kR6 kT6 OB6 hd cS6 bel7
              go_wp2_with (first | (refine wpList_build1 rfl _ _ rfl built_bl0 ?_) | (refine wpList_store_row rfl 45 _ _ rfl w.heap.size (bl4 z32 z32 0 (.slice none 0 0)).toArray rfl rfl 45 _ kR7 sZ rfl (bl4_all _ _ _ _ rfl) ?_))
              refine bodyPost_ret (v := .tuple #[.agg (bl4 z32 z32 0 (.slice none 0 0)).toArray, .bool false]) ?_ rfl ⟨bF, zeroV, by rw [decK_no HD.out, HD.out]; rfl, by rw [decK_no HD.out]; exact zero_obl _ _⟩
              exact results_cellTmp Try.results18 _ _ w.heap.size 45 (bl4 z32 z32 0 (.slice none 0 0)).toArray _ rfl kF Try.underlying45 rfl sZ rfl
            | true =>
              rw [hd] at SM
              have HD : Hid _ := hd
              go_wp2_with fail
              refine SM.mono ?_
              rintro e w7 ⟨rfl, b7⟩
              have kR7 := kR6.below b7
              have kT7 := kT6.below b7
              have OB7 := OB6.below b7
              have bel7 := HS6.out.bel.trans (b7.mono HS6.out.ge)
              have kF := kR7.setRow (blc V (blP l))
              have oF := onlyB_setRow w7 w.heap.size (blc V (blP l)).toArray
              have bF := bel7.trans (oF.below (Nat.le_refl _) bel7.size)
              have oB8 : OBl w.heap.size (w7.setRow w.heap.size (blc V (blP l)).toArray) V (blP l) := ⟨OB7.ok, (OB7.txs.only oF (by omega)).mono (by omega)⟩
              clear SM HS6 b7 o6 kR6 kT6 OB6 OB7 hd cS6 bel7 oF
              go_wp2_with (first | (refine wpList_load_row rfl 45 _ rfl t rfl 45 (blc V (blP l)).toArray (0, 0) _ kT7 Try.underlying45 rfl sL ?_) | (refine wpList_store_row rfl 45 _ _ rfl w.heap.size (blc V (blP l)).toArray rfl rfl 45 _ kR7 sL so (blc_all _ _) ?_))
              refine bodyPost_ret (v := .tuple #[.agg (blc V (blP l)).toArray, .bool true]) ?_ rfl ⟨bF, V, by rw [decK_yes HD.out, HD.out]; rfl, by rw [decK_yes HD.out]; exact oB8⟩
              exact results_cellTmp Try.results18 _ _ w.heap.size 45 (blc V (blP l)).toArray _ rfl kF Try.underlying45 rfl sL rfl
          · have hokb' : blOkB (blP l) = false := by simpa using hokb
            have HD : Hid (decOk l = false) := by show decOk l = false; unfold decOk; rw [hokb', Bool.and_false]
            rw [hokb']
            have kF := kR6.setRow (bl4 z32 z32 0 (.slice none 0 0))
            have bF := sb6.bel.trans ((onlyB_setRow w6 w.heap.size (bl4 z32 z32 0 (.slice none 0 0)).toArray).below (Nat.le_refl _) sb6.ge)
            clear b6 o6 kT sb6 kT6 OB6 hokb hokb'
            go_wp2_with (first | (refine wpList_build1 rfl _ _ rfl built_bl0 ?_) | (refine wpList_store_row rfl 45 _ _ rfl w.heap.size (bl4 z32 z32 0 (.slice none 0 0)).toArray rfl rfl 45 _ kR6 sZ rfl (bl4_all _ _ _ _ rfl) ?_))
            refine bodyPost_ret (v := .tuple #[.agg (bl4 z32 z32 0 (.slice none 0 0)).toArray, .bool false]) ?_ rfl ⟨bF, zeroV, by rw [decK_no HD.out, HD.out]; rfl, by rw [decK_no HD.out]; exact zero_obl _ _⟩
            exact results_cellTmp Try.results18 _ _ w.heap.size 45 (bl4 z32 z32 0 (.slice none 0 0)).toArray _ rfl kF Try.underlying45 rfl sZ rfl
      · have hlt : j < nt := by omega
        obtain rfl : s = true := by
          cases s with
          | true => rfl
          | false => exact absurd ⟨hlt, rfl⟩ hgo2
        have cS := sb.rd.cellS
        have hpos : (0 : Int) < ((nt - j : Nat) : Int) := by omega
        obtain ⟨V, hV⟩ : ∃ V : BlV, V = ⟨a1, c1, tv⟩ := ⟨_, rfl⟩
        obtain ⟨K, hKd⟩ : ∃ K : BlK, K = ⟨X, Y, ht, j, KK⟩ := ⟨_, rfl⟩
        have hok : BlOk K := by rw [hKd]; exact ⟨hXl, hYl, hXB, hYB⟩
        have OB : OBl B5 wr V K := ⟨hok, by rw [hV, hKd]; exact oT⟩
        have HD : Hid (decOk l = false) := hno rfl
        have EN := specEncBl_calls V K wr OB.reads (by rw [hKd]; show j ≤ _; omega) (fun i hi => by rw [hKd] at hi ⊢; have := hsm i hi; exact ⟨by show (KK i).ni ≤ _; omega, by show (KK i).no ≤ _; omega⟩)
        unfold blval at EN
        have kT : Blk wr 45 t (blc V K) := by rw [hV, hKd]; exact sb.blk
        have sL : (Try.prog.info? 45).map (·.size) = some (blc V K).toArray.size := by rw [blc_size V hok]; exact sizeBl
        have HS : Hid _ := sb
        clear sb oT OB hyes hno hV hKd hsm hgo2
        go_wp2_with (refine wpList_load_row rfl 45 _ rfl t rfl 45 (blc V K).toArray (0, 0) _ kT Try.underlying45 rfl sL ?_)
        refine EN.mono ?_
        rintro e w6 ⟨a6, c6, rfl, b6, o6⟩
        have sb6 := HS.out.below b6
        have cS6 := sb6.rd.cellS
        have kR6 := sb6.res
        have kF := kR6.setRow (bl4 z32 z32 0 (.slice none 0 0))
        have bF := sb6.bel.trans ((onlyB_setRow w6 w.heap.size (bl4 z32 z32 0 (.slice none 0 0)).toArray).below (Nat.le_refl _) sb6.ge)
        clear EN HS b6 o6 kT sb6
        generalize blOkB K = okb at *
        go_wp2_with (first | (refine wpList_build1 rfl _ _ rfl built_bl0 ?_) | (refine wpList_store_row rfl 45 _ _ rfl w.heap.size (bl4 z32 z32 0 (.slice none 0 0)).toArray rfl rfl 45 _ kR6 sZ rfl (bl4_all _ _ _ _ rfl) ?_))
        refine bodyPost_ret (v := .tuple #[.agg (bl4 z32 z32 0 (.slice none 0 0)).toArray, .bool false]) ?_ rfl ⟨bF, zeroV, by rw [decK_no HD.out, HD.out]; rfl, by rw [decK_no HD.out]; exact zero_obl _ _⟩
        exact results_cellTmp Try.results18 _ _ w.heap.size 45 (bl4 z32 z32 0 (.slice none 0 0)).toArray _ rfl kF Try.underlying45 rfl sZ rfl
end Go.Proofs.Ytljpkbapoaafkaa

