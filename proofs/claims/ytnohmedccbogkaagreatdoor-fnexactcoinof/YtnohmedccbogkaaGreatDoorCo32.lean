import Derived.Test.YtnohmedccbogkaaGreatDoorCo30
import Derived.Test.YtnohmedccbogkaaGreatDoorCo3
import Derived.Test.YtnohmedccbogkaaGreatDoorCo31
import Derived.Test.YtnohmedccbogkaaGreatDoorCo15
/- The tip, in the program. -/
namespace Go.Proofs.YtnohmedccbogkaaGreatDoor
open Go.RowKit
set_option linter.unusedVariables false

def vOf (o : Option (ByteArray × ByteArray)) : ByteArray := match o with | some e => e.2 | none => strOfNums []
theorem gtV_v (o : Option (ByteArray × ByteArray)) : gtV o = .tuple #[.string (vOf o), .bool o.isSome] := by cases o <;> rfl




end Go.Proofs.YtnohmedccbogkaaGreatDoor

/- The coin at a point. -/
namespace Go.Proofs.YtnohmedccbogkaaGreatDoor
open Go.RowKit
open scoped Classical
set_option linter.unusedVariables false

noncomputable def cnC (es : List (ByteArray × ByteArray)) (p : List Int × Int) : List Value := if 0 ≤ p.2 ∧ p.2 < 256 then coC (vOf (gtE es (kyC p))) else co0
noncomputable def cnB (es : List (ByteArray × ByteArray)) (p : List Int × Int) : Bool := if 0 ≤ p.2 ∧ p.2 < 256 then decide (coOk (vOf (gtE es (kyC p)))) else false
theorem cn_yes {es : List (ByteArray × ByteArray)} {p : List Int × Int} (h0 : 0 ≤ p.2) (h1 : p.2 < 256) : cnC es p = coC (vOf (gtE es (kyC p))) ∧ cnB es p = decide (coOk (vOf (gtE es (kyC p)))) := ⟨if_pos ⟨h0, h1⟩, if_pos ⟨h0, h1⟩⟩
theorem cn_no {es : List (ByteArray × ByteArray)} {p : List Int × Int} (h : ¬ (0 ≤ p.2 ∧ p.2 < 256)) : cnC es p = co0 ∧ cnB es p = false := ⟨if_neg h, if_neg h⟩
theorem cnC_one (es : List (ByteArray × ByteArray)) (p : List Int × Int) : ∃ a b c, cnC es p = [.int .i64 a, .int .i64 b, .bool c] := by
  unfold cnC
  split
  · exact coC_one _
  · exact ⟨0, 0, false, rfl⟩
theorem co_none : coC (strOfNums []) = co0 ∧ decide (coOk (strOfNums [])) = false := coC_no (fun h => absurd h.1 (by decide))

theorem coS_only (u : World) (g : Nat) (x y z : Value) : OnlyB g u (coS u g x y z) := ((onlyB_setCell u g 0 x).trans (onlyB_setCell _ g 1 y)).trans (onlyB_setCell _ g 2 z)
structure CoT (Z : Nat → Prop) (F : World → Prop) (w u : World) (g : Nat) : Prop where
  c0 : u.cell? ⟨g, 0, none⟩ = some (.int .i64 0)
  c1 : u.cell? ⟨g, 1, none⟩ = some (.int .i64 0)
  c2 : u.cell? ⟨g, 2, none⟩ = some (.bool false)
  f0 : u.frozen? ⟨g, 0, none⟩ = false
  f1 : u.frozen? ⟨g, 1, none⟩ = false
  f2 : u.frozen? ⟨g, 2, none⟩ = false
  fin : ∀ x y z, (OnlyS Z w (coS u g x y z) ∧ F (coS u g x y z)) ∧ Blk (coS u g x y z) 48 g [x, y, z]
theorem coin_endT {K : DK} {root : Int} {B B0 gw : Nat} {w W0 u : World} {g : Nat} (k0 : Blk W0 48 g co0) (q0 : Below w.heap.size w W0) (hg : w.heap.size ≤ g) (hB : B0 ≤ w.heap.size) (b : OnlyS (fun k => B ≤ k ∧ k < B0) W0 u) (t : WoT K root B B0 gw u) : CoT (fun k => B ≤ k ∧ k < B0) (WoT K root B B0 gw) w u g := by
  have kR := k0.onlyS b (by omega)
  have hz := q0.size
  have hzu := b.size
  refine ⟨kR.cell 0, kR.cell 1, kR.cell 2, kR.free 0, kR.free 1, kR.free 2, fun x y z => ⟨⟨?_, ?_⟩, ((kR.set 0 x).set 1 y).set 2 z⟩⟩
  · exact ((OnlyS.ofBelow q0).trans b).transN (OnlyS.ofB (coS_only u g x y z)) (fun k hk e => by omega)
  · exact t.keep ((coS_only u g x y z).below (by omega) (by omega)) (keepT_only (coS_only u g x y z) kR (by decide))

set_option maxHeartbeats 8000000 in
set_option maxRecDepth 100000 in
theorem woCoin_calls {K : DK} {gen root used free : Int} {B B0 gw : Nat} (p : List Int × Int) (hl : p.1.length = 32) (hBp : IsB p.1) {w0 w : World} {d : DV} (hd : RDisk w0 d K) (hwh : whB K gen root used free = true) (hW : WoT K root B B0 gw w) :
    Calls Tryz.prog 48 #[.pointer (some ⟨gw, 0, none⟩), .agg (pc p).toArray] w fun e w' => e = .returned (.tuple #[.agg (cnC (enL K root) p).toArray, .bool (cnB (enL K root) p)]) ∧ OnlyS (fun k => B ≤ k ∧ k < B0) w w' ∧ WoT K root B B0 gw w' := by
  obtain ⟨W0, hW0⟩ : ∃ W, W = w.alloc (Obj.cells (pc p).toArray 52) := ⟨_, rfl⟩
  obtain ⟨W1, hW1⟩ : ∃ W, W = W0.alloc (Obj.cells #[.int .i64 0, .int .i64 0, .bool false] 48) := ⟨_, rfl⟩
  have q0 : Below w.heap.size w W0 := by rw [hW0]; exact (Below.refl _ _).alloc (Nat.le_refl _) _
  have q10 : Below W0.heap.size W0 W1 := by rw [hW1]; exact (Below.refl _ _).alloc (Nat.le_refl _) _
  have z0 : W0.heap.size = w.heap.size + 1 := by rw [hW0]; simp
  have q1 : Below w.heap.size w W1 := q0.trans (q10.mono q0.size)
  have kP : Blk W1 52 w.heap.size (pc p) := (by rw [hW0]; exact blk_new w 52 (pc p).toArray : Blk W0 52 w.heap.size (pc p)).below q10
  have kH : Blk W1 48 (w.heap.size + 1) co0 := by rw [hW1, ← z0]; exact blk_new W0 48 co0.toArray
  have c32 : W1.cell? ⟨w.heap.size, 32, none⟩ = some (.int .i64 p.2) := (kP.cell 32).trans (pc_n p hl)
  have sP : (Tryz.prog.info? 52).map (·.size) = some (pc p).toArray.size := by rw [List.size_toArray, pc_len p hl]; exact sizePt
  have hle := hW.le
  have HE : Hid (∀ u, OnlyS (fun k => B ≤ k ∧ k < B0) W1 u → WoT K root B B0 gw u → CoT (fun k => B ≤ k ∧ k < B0) (WoT K root B B0 gw) w u (w.heap.size + 1)) := fun u b t => coin_endT kH q1 (by omega) hle.2 b t
  have hzH : w.heap.size + 1 < W1.heap.size := kH.lt
  have HW1 : Hid _ := hW.below q1
  have HZ0 : Hid (w.heap.size + 1 = W0.heap.size) := z0.symm
  have GC := fun w hW => woGetT_calls (B := B) (B0 := B0) (gw := gw) (kyC p) (w := w) hd hwh hW
  simp only [gtV_v] at GC
  have HG : Hid _ := GC
  have bc := built_co0
  clear q0 q10 q1 kH hW GC
  go_enter Tryz.func48, Tryz.ntmps48
  go_upto_region 1 with fail
  change Code.wp _ _ _ _ ((w.alloc (Obj.cells (pc p).toArray 52)).alloc (Obj.cells #[.int .i64 0, .int .i64 0, .bool false] 48))
  rw [← hW0, ← hW1]
  clear hW0 hW1 z0
  by_cases hok : ¬ (0 ≤ p.2 ∧ p.2 < 256)
  · have HN : Hid _ := cn_no (es := enL K root) hok
    have E := HE.out W1 (OnlyS.refl _ _) HW1.out
    have HEE : Hid _ := E
    obtain ⟨c0, c1, c2, f0, f1, f2, _⟩ := E
    by_cases hn : p.2 < 0
    · clear hok kP
      go_wp2_with fail
      refine bodyPost_ret (v := .tuple #[.agg co0.toArray, .bool false]) ?_ rfl ⟨by rw [HN.out.1, HN.out.2], (HEE.out.fin _ _ _).1⟩
      exact results_cellTmp Tryz.results48 _ _ (w.heap.size + 1) 48 co0.toArray _ rfl (HEE.out.fin _ _ _).2 Tryz.underlying48 rfl sizeCo rfl
    · have hn2 : ¬ p.2 < 256 := by omega
      clear hok kP
      go_wp2_with fail
      refine bodyPost_ret (v := .tuple #[.agg co0.toArray, .bool false]) ?_ rfl ⟨by rw [HN.out.1, HN.out.2], (HEE.out.fin _ _ _).1⟩
      exact results_cellTmp Tryz.results48 _ _ (w.heap.size + 1) 48 co0.toArray _ rfl (HEE.out.fin _ _ _).2 Tryz.underlying48 rfl sizeCo rfl
  have hok2 : 0 ≤ p.2 ∧ p.2 < 256 := by omega
  have hn1 : ¬ p.2 < 0 := by omega
  have hn2 : p.2 < 256 := hok2.2
  have CK := coinKey_calls p hl hBp hok2.1 hok2.2 W1
  have HN : Hid _ := cn_yes (es := enL K root) hok2.1 hok2.2
  clear hok hok2
  generalize vOf (gtE (enL K root) (kyC p)) = s at *
  generalize (gtE (enL K root) (kyC p)).isSome = sb at *
  go_wp2_with (refine wpList_load_row rfl 52 _ rfl w.heap.size rfl 52 (pc p).toArray (0, 0) _ kP Tryz.underlying52 rfl sP ?_)
  refine CK.mono ?_
  rintro e w2 ⟨rfl, b2⟩
  have GC := HG.out w2 (HW1.out.below b2)
  have H2 : Hid _ := b2
  clear CK b2 kP c32
  go_wp2_with fail
  refine GC.mono ?_
  rintro e w3 ⟨rfl, o3, t3⟩
  have CT := coinOfText_calls s w3
  have H3 : Hid _ := And.intro ((OnlyS.ofBelow H2.out).trans o3) t3
  clear GC o3 t3
  obtain ⟨xa, xb, xc, hxc⟩ := coC_one s
  rw [hxc] at CT HN
  clear hxc
  generalize decide (coOk s) = sd at *
  go_wp2_with fail
  refine CT.mono ?_
  rintro e w4 ⟨rfl, b4⟩
  have E := HE.out w4 (H3.out.1.trans (OnlyS.ofBelow b4)) (H3.out.2.below b4)
  have HEE : Hid _ := E
  obtain ⟨c0, c1, c2, f0, f1, f2, _⟩ := E
  clear CT b4
  go_wp2_with fail
  refine bodyPost_ret (v := .tuple #[.agg #[.int .i64 xa, .int .i64 xb, .bool xc], .bool sd]) ?_ rfl ⟨by rw [HN.out.1, HN.out.2], (HEE.out.fin _ _ _).1⟩
  exact results_cellTmp Tryz.results48 _ _ (w.heap.size + 1) 48 #[.int .i64 xa, .int .i64 xb, .bool xc] _ rfl (HEE.out.fin _ _ _).2 Tryz.underlying48 rfl sizeCo rfl

set_option maxHeartbeats 8000000 in
set_option maxRecDepth 100000 in
theorem l6CoinAt_calls (es : List (ByteArray × ByteArray)) (hs : (es.map (·.1)).Pairwise (fun a b => sl a b = true)) (hln : es.length ≤ 1048576) (a : Option Addr) (c B : Nat) (p : List Int × Int) (hl : p.1.length = 32) (hBp : IsB p.1) (w : World) (h : ORow 93 2 B w a es.length c (enF es)) :
    Calls Tryz.prog 46 #[.slice a es.length c, .agg (pc p).toArray] w fun e w' => e = .returned (.tuple #[.agg (cnC es p).toArray, .bool (cnB es p)]) ∧ Below w.heap.size w w' := by
  obtain ⟨W0, hW0⟩ : ∃ W, W = w.alloc (Obj.cells (pc p).toArray 52) := ⟨_, rfl⟩
  obtain ⟨W1, hW1⟩ : ∃ W, W = W0.alloc (Obj.cells #[.int .i64 0, .int .i64 0, .bool false] 48) := ⟨_, rfl⟩
  have q0 : Below w.heap.size w W0 := by rw [hW0]; exact (Below.refl _ _).alloc (Nat.le_refl _) _
  have q10 : Below W0.heap.size W0 W1 := by rw [hW1]; exact (Below.refl _ _).alloc (Nat.le_refl _) _
  have z0 : W0.heap.size = w.heap.size + 1 := by rw [hW0]; simp
  have q1 : Below w.heap.size w W1 := q0.trans (q10.mono q0.size)
  have kP : Blk W1 52 w.heap.size (pc p) := (by rw [hW0]; exact blk_new w 52 (pc p).toArray : Blk W0 52 w.heap.size (pc p)).below q10
  have kH : Blk W1 48 (w.heap.size + 1) co0 := by rw [hW1, ← z0]; exact blk_new W0 48 co0.toArray
  have c32 : W1.cell? ⟨w.heap.size, 32, none⟩ = some (.int .i64 p.2) := (kP.cell 32).trans (pc_n p hl)
  have sP : (Tryz.prog.info? 52).map (·.size) = some (pc p).toArray.size := by rw [List.size_toArray, pc_len p hl]; exact sizePt
  have HE : Hid (∀ u, Below W1.heap.size W1 u → CoE w u (w.heap.size + 1)) := fun u b => coin_end kH q1 (by omega) b
  have hzH : w.heap.size + 1 < W1.heap.size := kH.lt
  have HF : Hid (∀ u, Below W1.heap.size W1 u → Calls Tryz.prog 57 #[.slice a es.length c, .string (kyC p)] u fun e w' => e = .returned (gtV (gtE es (kyC p))) ∧ w' = u) := fun u b => l6Find_calls es hs hln a c B (kyC p) u ((h.below q1).below b)
  have HZ0 : Hid (w.heap.size + 1 = W0.heap.size) := z0.symm
  have bc := built_co0
  clear q0 q10 q1 kH h hs
  go_enter Tryz.func46, Tryz.ntmps46
  go_upto_region 1 with fail
  change Code.wp _ _ _ _ ((w.alloc (Obj.cells (pc p).toArray 52)).alloc (Obj.cells #[.int .i64 0, .int .i64 0, .bool false] 48))
  rw [← hW0, ← hW1]
  clear hW0 hW1 z0
  by_cases hok : ¬ (0 ≤ p.2 ∧ p.2 < 256)
  · have HN : Hid _ := cn_no (es := es) hok
    have E := HE.out W1 (Below.refl _ _)
    have HEE : Hid _ := E
    obtain ⟨c0, c1, c2, f0, f1, f2, _⟩ := E
    by_cases hn : p.2 < 0
    · clear hok kP
      go_wp2_with fail
      refine bodyPost_ret (v := .tuple #[.agg co0.toArray, .bool false]) ?_ rfl ⟨by rw [HN.out.1, HN.out.2], (HEE.out.fin _ _ _).1⟩
      exact results_cellTmp Tryz.results46 _ _ (w.heap.size + 1) 48 co0.toArray _ rfl (HEE.out.fin _ _ _).2 Tryz.underlying48 rfl sizeCo rfl
    · have hn2 : 255 < p.2 := by omega
      clear hok kP
      go_wp2_with fail
      refine bodyPost_ret (v := .tuple #[.agg co0.toArray, .bool false]) ?_ rfl ⟨by rw [HN.out.1, HN.out.2], (HEE.out.fin _ _ _).1⟩
      exact results_cellTmp Tryz.results46 _ _ (w.heap.size + 1) 48 co0.toArray _ rfl (HEE.out.fin _ _ _).2 Tryz.underlying48 rfl sizeCo rfl
  have hok2 : 0 ≤ p.2 ∧ p.2 < 256 := by omega
  have hn1 : ¬ p.2 < 0 := by omega
  have hn2 : ¬ 255 < p.2 := by omega
  have CK := l6CoinKey_calls p hl hBp hok2.1 hok2.2 W1
  have HN : Hid _ := cn_yes (es := es) hok2.1 hok2.2
  clear hok hok2
  go_wp2_with (refine wpList_load_row rfl 52 _ rfl w.heap.size rfl 52 (pc p).toArray (0, 0) _ kP Tryz.underlying52 rfl sP ?_)
  refine CK.mono ?_
  rintro e w2 ⟨rfl, b2⟩
  have FC := HF.out w2 b2
  have H2 : Hid _ := b2
  clear CK b2 kP c32
  generalize gtE es (kyC p) = o at *
  cases o with
  | none =>
    have HN2 : Hid (cnC es p = co0 ∧ cnB es p = false) := ⟨HN.out.1.trans co_none.1, HN.out.2.trans co_none.2⟩
    unfold gtV at FC
    go_wp2_with fail
    refine FC.mono ?_
    rintro e w3 ⟨rfl, hw⟩
    obtain rfl := hw.symm
    clear hw FC
    have E := HE.out w2 H2.out
    have HEE : Hid _ := E
    obtain ⟨c0, c1, c2, f0, f1, f2, _⟩ := E
    go_wp2_with fail
    refine bodyPost_ret (v := .tuple #[.agg co0.toArray, .bool false]) ?_ rfl ⟨by rw [HN2.out.1, HN2.out.2], (HEE.out.fin _ _ _).1⟩
    exact results_cellTmp Tryz.results46 _ _ (w.heap.size + 1) 48 co0.toArray _ rfl (HEE.out.fin _ _ _).2 Tryz.underlying48 rfl sizeCo rfl
  | some en =>
    obtain ⟨ky, s⟩ := en
    have HN2 : Hid (cnC es p = coC s ∧ cnB es p = decide (coOk s)) := HN.out
    unfold gtV at FC
    dsimp only at FC
    go_wp2_with fail
    refine FC.mono ?_
    rintro e w3 ⟨rfl, hw⟩
    obtain rfl := hw.symm
    clear hw FC HN
    have CT := l6Coin_calls s w2
    obtain ⟨xa, xb, xc, hxc⟩ := coC_one s
    rw [hxc] at CT HN2
    clear hxc
    generalize decide (coOk s) = sd at *
    go_wp2_with fail
    refine CT.mono ?_
    rintro e w4 ⟨rfl, b4⟩
    have E := HE.out w4 (H2.out.trans (b4.mono H2.out.size))
    have HEE : Hid _ := E
    obtain ⟨c0, c1, c2, f0, f1, f2, _⟩ := E
    clear CT b4
    go_wp2_with fail
    refine bodyPost_ret (v := .tuple #[.agg #[.int .i64 xa, .int .i64 xb, .bool xc], .bool sd]) ?_ rfl ⟨by rw [HN2.out.1, HN2.out.2], (HEE.out.fin _ _ _).1⟩
    exact results_cellTmp Tryz.results46 _ _ (w.heap.size + 1) 48 #[.int .i64 xa, .int .i64 xb, .bool xc] _ rfl (HEE.out.fin _ _ _).2 Tryz.underlying48 rfl sizeCo rfl
end Go.Proofs.YtnohmedccbogkaaGreatDoor

/- CoinOf, both sides. -/
namespace Go.Proofs.YtnohmedccbogkaaGreatDoor
open Go.RowKit
set_option linter.unusedVariables false

theorem cn_nil (p : List Int × Int) : cnC [] p = co0 ∧ cnB [] p = false := by
  by_cases h : 0 ≤ p.2 ∧ p.2 < 256
  · obtain ⟨h1, h2⟩ := cn_yes (es := []) h.1 h.2
    rw [h1, h2]
    exact co_none
  · exact cn_no h

set_option maxHeartbeats 4000000 in
set_option maxRecDepth 100000 in
theorem implCoinOf_calls (eN eW : Addr) (d : DV) (K : DK) (gen root used free : Int) (p : List Int × Int) (hl : p.1.length = 32) (hBp : IsB p.1) (w : World) (h : RDisk w d K) (hE : Errs w eN eW) :
    Calls Tryz.prog 16 #[.agg (stV d K gen root used free).toArray, .agg (pc p).toArray] w fun e w' => e = .returned (.tuple #[.agg (cnC (alL K gen root used free) p).toArray, .bool (cnB (alL K gen root used free) p)]) ∧ Below w.heap.size w w' := by
  obtain ⟨W0, hW0⟩ : ∃ W, W = w.alloc (Obj.cells (stV d K gen root used free).toArray 40) := ⟨_, rfl⟩
  obtain ⟨W2, hW2⟩ : ∃ W, W = W0.alloc (Obj.cells (pc p).toArray 52) := ⟨_, rfl⟩
  obtain ⟨W1, hW1⟩ : ∃ W, W = W2.alloc (Obj.cells #[.int .i64 0, .int .i64 0, .bool false] 48) := ⟨_, rfl⟩
  have q0 : Below w.heap.size w W0 := by rw [hW0]; exact (Below.refl _ _).alloc (Nat.le_refl _) _
  have q20 : Below W0.heap.size W0 W2 := by rw [hW2]; exact (Below.refl _ _).alloc (Nat.le_refl _) _
  have q12 : Below W2.heap.size W2 W1 := by rw [hW1]; exact (Below.refl _ _).alloc (Nat.le_refl _) _
  have z0 : W0.heap.size = w.heap.size + 1 := by rw [hW0]; simp
  have z2 : W2.heap.size = w.heap.size + 1 + 1 := by rw [hW2]; simp [z0]
  have q10 : Below W0.heap.size W0 W1 := q20.trans (q12.mono q20.size)
  have q1 : Below w.heap.size w W1 := q0.trans (q10.mono q0.size)
  have kS : Blk W1 40 w.heap.size (stV d K gen root used free) := (by rw [hW0]; exact blk_new w _ _ : Blk W0 40 w.heap.size (stV d K gen root used free)).below q10
  have kP : Blk W1 52 (w.heap.size + 1) (pc p) := (by rw [hW2, ← z0]; exact blk_new W0 52 (pc p).toArray : Blk W2 52 (w.heap.size + 1) (pc p)).below q12
  have kH : Blk W1 48 (w.heap.size + 1 + 1) co0 := by rw [hW1, ← z2]; exact blk_new W2 48 co0.toArray
  have sS : (Tryz.prog.info? 40).map (·.size) = some (stV d K gen root used free).toArray.size := sizeSt
  have sP : (Tryz.prog.info? 52).map (·.size) = some (pc p).toArray.size := by rw [List.size_toArray, pc_len p hl]; exact sizePt
  have AW := atWork_calls eN eW d K gen root used free W1 (h.below q1) (hE.below q1)
  have H1 : Hid _ := And.intro h q1
  have HE : Hid (∀ u, Below W1.heap.size W1 u → CoE w u (w.heap.size + 1 + 1)) := fun u b => coin_end kH q1 (by omega) b
  have hzH : w.heap.size + 1 + 1 < W1.heap.size := kH.lt
  have HZ0 : Hid (w.heap.size + 1 = W0.heap.size ∧ w.heap.size + 1 + 1 = W2.heap.size) := ⟨z0.symm, z2.symm⟩
  have bc := built_co0
  clear q1 h hE q0 q10 kH q20 q12
  go_enter Tryz.func16, Tryz.ntmps16
  go_upto_region 1 with fail
  change Code.wp _ _ _ _ (((w.alloc (Obj.cells (stV d K gen root used free).toArray 40)).alloc (Obj.cells (pc p).toArray 52)).alloc (Obj.cells #[.int .i64 0, .int .i64 0, .bool false] 48))
  rw [← hW0, ← hW2, ← hW1]
  clear hW0 hW1 hW2 z0 z2
  go_wp2_with (refine wpList_load_row rfl 40 _ rfl w.heap.size rfl 40 (stV d K gen root used free).toArray (0, 0) _ kS Tryz.underlying40 rfl sS ?_)
  refine AW.mono ?_
  rintro e w2 ⟨b2, ⟨hno, rfl⟩ | ⟨hyes, gw, rfl, hWo⟩⟩
  · have E := HE.out w2 b2
    have HEE : Hid _ := E
    obtain ⟨c0, c1, c2, f0, f1, f2, _⟩ := E
    have HN : Hid (cnC (alL K gen root used free) p = co0 ∧ cnB (alL K gen root used free) p = false) := by
      have e : alL K gen root used free = [] := by unfold alL; rw [hno]; rfl
      rw [e]
      exact cn_nil p
    clear AW b2 kS hno kP
    go_wp2_with fail
    refine bodyPost_ret (v := .tuple #[.agg co0.toArray, .bool false]) ?_ rfl ⟨by rw [HN.out.1, HN.out.2], (HEE.out.fin _ _ _).1⟩
    exact results_cellTmp Tryz.results16 _ _ (w.heap.size + 1 + 1) 48 co0.toArray _ rfl (HEE.out.fin _ _ _).2 Tryz.underlying48 rfl sizeCo rfl
  · obtain ⟨B0, hT⟩ := hWo.top
    have TC := woCoin_calls p hl hBp H1.out.1 hyes hT
    have hle := hT.le
    have HN : Hid (cnC (alL K gen root used free) p = cnC (enL K root) p ∧ cnB (alL K gen root used free) p = cnB (enL K root) p) := by
      have e : alL K gen root used free = enL K root := by unfold alL; rw [if_pos hyes]
      rw [e]
      exact ⟨rfl, rfl⟩
    have HB2 : Hid _ := b2
    have kP2 := kP.below b2
    obtain ⟨xa, xb, xc, hxc⟩ := cnC_one (enL K root) p
    rw [hxc] at TC HN
    clear AW b2 kS hWo hyes hT hxc kP
    generalize cnB (enL K root) p = sd at *
    go_wp2_with (refine wpList_load_row rfl 52 _ rfl (w.heap.size + 1) rfl 52 (pc p).toArray (0, 0) _ kP2 Tryz.underlying52 rfl sP ?_)
    refine TC.mono ?_
    rintro e w3 ⟨rfl, o3, _⟩
    have b3 : Below W1.heap.size W1 w3 := HB2.out.trans (o3.below (by omega) (fun k e => by omega))
    have E := HE.out w3 b3
    have HEE : Hid _ := E
    obtain ⟨c0, c1, c2, f0, f1, f2, _⟩ := E
    clear TC o3 b3 kP2
    go_wp2_with fail
    refine bodyPost_ret (v := .tuple #[.agg #[.int .i64 xa, .int .i64 xb, .bool xc], .bool sd]) ?_ rfl ⟨by rw [HN.out.1, HN.out.2], (HEE.out.fin _ _ _).1⟩
    exact results_cellTmp Tryz.results16 _ _ (w.heap.size + 1 + 1) 48 #[.int .i64 xa, .int .i64 xb, .bool xc] _ rfl (HEE.out.fin _ _ _).2 Tryz.underlying48 rfl sizeCo rfl

set_option maxHeartbeats 4000000 in
set_option maxRecDepth 100000 in
theorem specCoinOf_calls (d : DV) (K : DK) (gen root used free : Int) (p : List Int × Int) (hl : p.1.length = 32) (hBp : IsB p.1) (w : World) (h : RDisk w d K) :
    Calls Tryz.prog 14 #[.agg (stV d K gen root used free).toArray, .agg (pc p).toArray] w fun e w' => e = .returned (.tuple #[.agg (cnC (alL K gen root used free) p).toArray, .bool (cnB (alL K gen root used free) p)]) ∧ Below w.heap.size w w' := by
  obtain ⟨W0, hW0⟩ : ∃ W, W = w.alloc (Obj.cells (stV d K gen root used free).toArray 40) := ⟨_, rfl⟩
  obtain ⟨W2, hW2⟩ : ∃ W, W = W0.alloc (Obj.cells (pc p).toArray 52) := ⟨_, rfl⟩
  obtain ⟨W1, hW1⟩ : ∃ W, W = W2.alloc (Obj.cells #[.int .i64 0, .int .i64 0, .bool false] 48) := ⟨_, rfl⟩
  have q0 : Below w.heap.size w W0 := by rw [hW0]; exact (Below.refl _ _).alloc (Nat.le_refl _) _
  have q20 : Below W0.heap.size W0 W2 := by rw [hW2]; exact (Below.refl _ _).alloc (Nat.le_refl _) _
  have q12 : Below W2.heap.size W2 W1 := by rw [hW1]; exact (Below.refl _ _).alloc (Nat.le_refl _) _
  have z0 : W0.heap.size = w.heap.size + 1 := by rw [hW0]; simp
  have z2 : W2.heap.size = w.heap.size + 1 + 1 := by rw [hW2]; simp [z0]
  have q10 : Below W0.heap.size W0 W1 := q20.trans (q12.mono q20.size)
  have q1 : Below w.heap.size w W1 := q0.trans (q10.mono q0.size)
  have kS : Blk W1 40 w.heap.size (stV d K gen root used free) := (by rw [hW0]; exact blk_new w _ _ : Blk W0 40 w.heap.size (stV d K gen root used free)).below q10
  have kP : Blk W1 52 (w.heap.size + 1) (pc p) := (by rw [hW2, ← z0]; exact blk_new W0 52 (pc p).toArray : Blk W2 52 (w.heap.size + 1) (pc p)).below q12
  have kH : Blk W1 48 (w.heap.size + 1 + 1) co0 := by rw [hW1, ← z2]; exact blk_new W2 48 co0.toArray
  have sS : (Tryz.prog.info? 40).map (·.size) = some (stV d K gen root used free).toArray.size := sizeSt
  have sP : (Tryz.prog.info? 52).map (·.size) = some (pc p).toArray.size := by rw [List.size_toArray, pc_len p hl]; exact sizePt
  have AC := l6All_calls d K gen root used free W1 (h.below q1)
  have HS : Hid _ := alL_srt h gen root used free
  have HE : Hid (∀ u, Below W1.heap.size W1 u → CoE w u (w.heap.size + 1 + 1)) := fun u b => coin_end kH q1 (by omega) b
  have hzH : w.heap.size + 1 + 1 < W1.heap.size := kH.lt
  have HZ0 : Hid (w.heap.size + 1 = W0.heap.size ∧ w.heap.size + 1 + 1 = W2.heap.size) := ⟨z0.symm, z2.symm⟩
  clear q1 h q0 q10 kH q20 q12
  generalize alL K gen root used free = es at *
  go_enter Tryz.func14, Tryz.ntmps14
  go_upto_region 1 with fail
  change Code.wp _ _ _ _ (((w.alloc (Obj.cells (stV d K gen root used free).toArray 40)).alloc (Obj.cells (pc p).toArray 52)).alloc (Obj.cells #[.int .i64 0, .int .i64 0, .bool false] 48))
  rw [← hW0, ← hW2, ← hW1]
  clear hW0 hW1 hW2 z0 z2
  go_wp2_with (refine wpList_load_row rfl 40 _ rfl w.heap.size rfl 40 (stV d K gen root used free).toArray (0, 0) _ kS Tryz.underlying40 rfl sS ?_)
  refine AC.mono ?_
  rintro e w2 ⟨a, c, sb, rfl, b2, o2, hl2⟩
  have TC := l6CoinAt_calls es HS.out (by omega) a c _ p hl hBp w2 o2
  have HB2 : Hid _ := b2
  have kP2 := kP.below b2
  obtain ⟨xa, xb, xc, hxc⟩ := cnC_one es p
  have HN : Hid _ := hxc
  rw [hxc] at TC
  obtain ⟨sd, hsd⟩ : ∃ sd, sd = cnB es p := ⟨_, rfl⟩
  have HD : Hid _ := hsd
  rw [← hsd] at TC
  clear AC b2 kS o2 HS hxc hsd kP
  go_wp2_with (refine wpList_load_row rfl 52 _ rfl (w.heap.size + 1) rfl 52 (pc p).toArray (0, 0) _ kP2 Tryz.underlying52 rfl sP ?_)
  refine TC.mono ?_
  rintro e w3 ⟨rfl, b3⟩
  have E := HE.out w3 (HB2.out.trans (b3.mono HB2.out.size))
  have HEE : Hid _ := E
  obtain ⟨c0, c1, c2, f0, f1, f2, _⟩ := E
  clear TC b3 kP2
  go_wp2_with fail
  refine bodyPost_ret (v := .tuple #[.agg #[.int .i64 xa, .int .i64 xb, .bool xc], .bool sd]) ?_ rfl ⟨by rw [HN.out, HD.out], (HEE.out.fin _ _ _).1⟩
  exact results_cellTmp Tryz.results14 _ _ (w.heap.size + 1 + 1) 48 #[.int .i64 xa, .int .i64 xb, .bool xc] _ rfl (HEE.out.fin _ _ _).2 Tryz.underlying48 rfl sizeCo rfl

set_option maxHeartbeats 1000000 in
theorem eqCoin_calls (a b : Int) (c : Bool) (w : World) :
    Calls Tryz.prog 17 #[.agg #[.int .i64 a, .int .i64 b, .bool c], .agg #[.int .i64 a, .int .i64 b, .bool c]] w fun e w' => e = .returned (.bool true) ∧ Below w.heap.size w w' := by
  have FIN : Hid _ := below_alloc2 w (.cells #[.int .i64 a, .int .i64 b, .bool c] 48) (.cells #[.int .i64 a, .int .i64 b, .bool c] 48)
  have h1 : (a != a) = false := by simp
  have h2 : (b != b) = false := by simp
  have h3 : (c != c) = false := by simp
  go_enter Tryz.func17, Tryz.ntmps17
  go_wp2
  go_ret
  exact ⟨rfl, FIN.out⟩
end Go.Proofs.YtnohmedccbogkaaGreatDoor

namespace Go.Proofs.YtnohmedccbogkaaGreatDoor
open Go.RowKit

def sumN (N : Nat → Nat) : Nat → Nat
  | 0 => 0
  | k + 1 => sumN N k + N k
theorem sumN_le (N : Nat → Nat) {i n : Nat} (h : i < n) : N i ≤ sumN N n := by
  induction n with
  | zero => omega
  | succ n ih =>
    simp only [sumN]
    by_cases e : i = n
    · subst e; omega
    · have := ih (by omega); omega

set_option maxHeartbeats 400000 in
theorem szByteS_yes (a : Option Addr) (n c : Nat) (left : Int) (w : World) (h1 : left ≤ 1048576) (h : (n : Int) ≤ left) :
    Calls Tryz.prog 136 #[.slice a n c, .int .i64 left] w fun e w' => e = .returned (.int .i64 (left - n)) ∧ w' = w := by
  have hd : ¬ (left - (n : Int) < 0) := by omega
  go_enter Tryz.func136, Tryz.ntmps136
  go_wp2
  go_ret
  exact ⟨rfl, rfl⟩
set_option maxHeartbeats 400000 in
theorem szByteS_no (a : Option Addr) (n c : Nat) (left : Int) (w : World) (h0 : 0 ≤ left) (h1 : left ≤ 1048576) (hn : n ≤ maxLen) (h : left < (n : Int)) :
    Calls Tryz.prog 136 #[.slice a n c, .int .i64 left] w fun e w' => e = .returned (.int .i64 (-1)) ∧ w' = w := by
  have hd : left - (n : Int) < 0 := by omega
  unfold maxLen at hn
  go_enter Tryz.func136, Tryz.ntmps136
  go_wp2
  go_ret
  exact ⟨rfl, rfl⟩

set_option maxHeartbeats 1000000 in
theorem szByteSS_calls (a : Option Addr) (n c : Nat) (I : Nat → Nat → Int) (A : Nat → Option Addr) (N C : Nat → Nat) (L : Nat → List Int) (left : Int) (w : World) (h : RRecs 0 w a n c I A N C L) (h0 : 0 ≤ left) (h1 : left ≤ 1048576) :
    Calls Tryz.prog 76 #[.slice a n c, .int .i64 left] w fun e w' => ∃ z : Int, e = .returned (.int .i64 z) ∧ w' = w ∧ (z = -1 ∨ (z = left - n - sumN N n ∧ 0 ≤ z)) := by
  have hmx : n ≤ maxLen := Nat.le_trans h.le h.le'
  unfold maxLen at hmx
  by_cases hbig : left < (n : Int)
  · have hd : left - (n : Int) < 0 := by omega
    go_enter Tryz.func76, Tryz.ntmps76
    go_wp2
    go_ret
    exact ⟨-1, rfl, rfl, Or.inl rfl⟩
  · have hd : ¬ (left - (n : Int) < 0) := by omega
    have hd2 : decide (left - (n : Int) < 0) = false := by simp; omega
    go_enter Tryz.func76, Tryz.ntmps76
    go_wp2
    go_loop [1, 5] (fun x i => ∃ j : Nat, j ≤ n ∧ i = .int .i64 j ∧ x = .int .i64 (left - n - sumN N j) ∧ 0 ≤ left - n - sumN N j) (fun _ i => n - (intOf i).toNat)
    case atStart => exact ⟨0, Nat.zero_le _, rfl, by simp [sumN], by simp only [sumN]; omega⟩
    case round =>
      obtain ⟨j, hj, rfl, rfl, hs⟩ := hrel
      by_cases hlt : j < n
      · obtain ⟨b, off, rfl, hbl, hc⟩ := h.at_ (by omega)
        have k0 : w.cell? ⟨b, off + j, none⟩ = some (.slice (A j) (N j) (C j)) := by have := (hc j hlt).2; simpa using this
        have hl : N j ≤ maxLen := Nat.le_trans (h.data j hlt).le (h.data j hlt).le'
        have HS : Hid ((sumN N (j + 1) : Int) = sumN N j + N j) := by show ((sumN N j + N j : Nat) : Int) = _; omega
        clear hc h
        generalize hX : left - (n : Int) - (sumN N j : Int) = X at *
        have HX : Hid (left - (n : Int) - (sumN N j : Int) = X) := hX
        have hX1 : X ≤ 1048576 := by omega
        clear hX
        by_cases hy : (N j : Int) ≤ X
        · have hn : ¬ (X - (N j : Int) < 0) := by omega
          have hn2 : decide (X - (N j : Int) < 0) = false := by simp; omega
          go_wp2_with fail
          refine (szByteS_yes (A j) (N j) (C j) X _ hX1 hy).mono ?_
          rintro e w1 ⟨rfl, rfl⟩
          go_wp2
          go_round
          case rel => exact ⟨j + 1, by omega, by go_num, by rw [HS.out]; have := HX.out; congr 1; omega, by rw [HS.out]; have := HX.out; omega⟩
          case measure => simp [intOf]; omega
        · go_wp2_with fail
          refine (szByteS_no (A j) (N j) (C j) X _ hs hX1 hl (by omega)).mono ?_
          rintro e w1 ⟨rfl, rfl⟩
          go_wp2
          go_ret
          exact ⟨-1, rfl, rfl, Or.inl rfl⟩
      · have e : j = n := by omega
        subst e
        go_wp2
        go_ret
        exact ⟨_, rfl, rfl, Or.inr ⟨rfl, hs⟩⟩
end Go.Proofs.YtnohmedccbogkaaGreatDoor

