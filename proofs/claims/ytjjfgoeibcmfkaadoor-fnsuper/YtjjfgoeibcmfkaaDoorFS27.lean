import Derived.Test.YtjjfgoeibcmfkaaDoorFS24
import Derived.Test.YtjjfgoeibcmfkaaDoorFS26
import Derived.Test.YtjjfgoeibcmfkaaDoorFS21
import Derived.Test.YtjjfgoeibcmfkaaDoorFS3
import Derived.Test.YtjjfgoeibcmfkaaDoorFS22
import Derived.Test.YtjjfgoeibcmfkaaDoorFS4
/- The draw of a disk with pages and superblocks: that there is an answer, and a valid one. -/
namespace Go.Proofs.YtjjfgoeibcmfkaaDoor
open Go.RowKit
set_option linter.unusedVariables false

theorem orecs_keptR {p e B2 : Nat} {w w' : World} {a : Option Addr} {n c : Nat} {I : Nat → Nat → Int} {A : Nat → Option Addr} {N C : Nat → Nat} {L : Nat → List Int} {row : Option Nat} (h : ORecs p e B2 w a n c I A N C L) (hg : w.grownBy w' row) (hr : ∀ k, row = some k → k < B2) : ORecs p e B2 w' a n c I A N C L := by
  have key : ∀ {e size n : Nat} {v : Value} {xs : List Value}, w.ownsRow B2 e size v n xs → w'.ownsRow B2 e size v n xs := fun {e size n v xs} h1 => by
    refine World.ownsRow.kept h1 hg ?_
    cases hk : v.ownBlock with
    | none => exact Or.inl rfl
    | some k => exact Or.inr fun e1 => by have h2 := (row_blk h1 hk).1; have h3 := hr k e1.symm; omega
  exact ⟨key h.row, fun i hi => key (h.data i hi), h.byte, h.sep1⟩
theorem OnlyB.gB {g : Nat} {w w' : World} (h : OnlyB g w w') : w.grownBy w' (some g) := ⟨h.os, h.tape, h.output, h.size, fun k hk hn => h.block k hk (fun e => hn (by rw [e]))⟩
/-- A slice of ops that the call owns. -/
def HasOps (B : Nat) (wx : World) (oa : Option Addr) (on oc : Nat) : Prop := on ≤ 4 ∧ ∃ I A N C L, ORecs 2 90 B wx oa on oc I A N C L
theorem HasOps.below {B : Nat} {wx wy : World} {oa : Option Addr} {on oc : Nat} (h : HasOps B wx oa on oc) (hb : Below wx.heap.size wx wy) : HasOps B wy oa on oc := by
  obtain ⟨h1, I, A, N, C, L, ho⟩ := h
  exact ⟨h1, I, A, N, C, L, ho.below hb⟩
theorem HasOps.mono {B B' : Nat} {wx : World} {oa : Option Addr} {on oc : Nat} (h : HasOps B wx oa on oc) (hb : B' ≤ B) : HasOps B' wx oa on oc := by
  obtain ⟨h1, I, A, N, C, L, ho⟩ := h
  exact ⟨h1, I, A, N, C, L, ho.mono hb⟩
theorem HasOps.kept {B g : Nat} {wx wy : World} {oa : Option Addr} {on oc : Nat} (h : HasOps B wx oa on oc) (hb : OnlyB g wx wy) (hg : g < B) : HasOps B wy oa on oc := by
  obtain ⟨h1, I, A, N, C, L, ho⟩ := h
  exact ⟨h1, I, A, N, C, L, orecs_keptR ho hb.gB (fun k e => by cases e; exact hg)⟩
theorem newK_dok {n : Nat} (h1 : 1 ≤ n) (h2 : n ≤ 4096) : dOk (newK n) := ⟨⟨h1, h2, Nat.zero_le _⟩, fun i _ => zeros64_len, fun j hj => absurd hj (Nat.not_lt_zero _)⟩
theorem newDisk_any (z : Int) (w : World) (h0 : 1 ≤ z) (h1 : z ≤ 4096) :
    Calls Tryd.prog 16 #[.int .i64 z] w fun e w' => ∃ d K, e = .returned (.tuple #[dval d K, .bool true]) ∧ Below w.heap.size w w' ∧ ODisk w.heap.size w' d K ∧ dOk K := by
  obtain ⟨n, rfl⟩ := Int.eq_ofNat_of_zero_le (show 0 ≤ z by omega)
  refine (specNewDisk_yes n w (by omega) (by omega)).mono ?_
  rintro e w' ⟨d, rfl, b, o⟩
  exact ⟨d, _, rfl, b, o, newK_dok (by omega) (by omega)⟩
theorem superOps_any (G R U F : Int) (w : World) :
    Calls Tryd.prog 14 #[.agg #[.int .i64 G, .int .i64 R, .int .i64 U, .int .i64 F]] w fun e w' => ∃ oa on oc q, e = .returned (.tuple #[.slice oa on oc, .bool q]) ∧ Below w.heap.size w w' ∧ HasOps w.heap.size w' oa on oc := by
  refine (specSuperOps_calls G R U F w).mono ?_
  rintro e w' ⟨a', c', rfl, b, A, N, C, o, _⟩
  exact ⟨_, _, _, _, rfl, b, kOf_le _, _, _, _, _, _, o⟩
theorem pageOps_any (id kind : Int) (a : Option Addr) (n c : Nat) (l : List Int) (w : World) (h : Bs w a n c l) (hn : n ≤ 1048576) :
    Calls Tryd.prog 41 #[.int .i64 id, .int .i64 kind, .slice a n c] w fun e w' => ∃ oa on oc q, e = .returned (.tuple #[.slice oa on oc, .bool q]) ∧ Below w.heap.size w w' ∧ HasOps w.heap.size w' oa on oc := by
  cases hok : headOk id kind n with
  | true =>
    refine (specPageOps_yes id kind a n c l w h hok).mono ?_
    rintro e w' ⟨a', c', rfl, b, A, N, C, o, _⟩
    exact ⟨_, _, _, _, rfl, b, by omega, _, _, _, _, _, o⟩
  | false =>
    refine (specPageOps_no id kind a n c w hn hok []).mono ?_
    rintro e w' ⟨a', c', rfl, b, A, N, C, o, _⟩
    exact ⟨_, _, _, _, rfl, b, by omega, _, _, _, _, _, o⟩
theorem play_any (d : DV) (K : DK) (B : Nat) (oa : Option Addr) (on oc : Nat) (most : Int) (w : World) (h : RDisk w d K) (hok : dOk K) (ho : HasOps B w oa on oc) :
    Calls Tryd.prog 66 #[.agg #[.slice d.sa K.n d.sc, .slice d.pa K.m d.pc], .slice oa on oc, .int .i64 most] w fun e w' => ∃ d' K' t, e = .returned (.tuple #[.agg #[.slice d'.sa K'.n d'.sc, .slice d'.pa K'.m d'.pc], .int .i64 t]) ∧ Below w.heap.size w w' ∧ ODisk w.heap.size w' d' K' ∧ dOk K' := by
  obtain ⟨h1, I, A, N, C, L, o⟩ := ho
  refine (specPlay_core d K oa on oc I A N C L most w h (small_ok h hok) o.reads).mono ?_
  rintro e w' ⟨d', rfl, b, o'⟩
  exact ⟨d', _, _, rfl, b, o', by rw [ppK_yes hok (by omega)]; exact plK_ok _ _ hok _⟩
theorem sync_ops (w : World) (B : Nat) (hB : B ≤ w.heap.size) : HasOps B (w.alloc (.cells #[.int .i64 2, .int .i64 0, .slice none 0 0] 90)) (some ⟨w.heap.size, 0, none⟩) 1 1 := by
  refine ⟨by omega, (fun _ q => if q = 0 then 2 else 0), (fun _ => none), (fun _ => 0), (fun _ => 0), (fun _ => []), ?_, fun i hi => own_nil _ _, fun i hi => isB_nil, fun i j h1 h2 => absurd h2 (by omega)⟩
  exact World.ownsRow_lit (base := B) (e := 90) (size := 3) w #[.int .i64 2, .int .i64 0, .slice none 0 0] 1 hB (by unfold maxLen; omega) (by simp)

/-- The disk is in block gb, the answer's variable in block w.heap.size. -/
structure LSt (w : World) (g gb : Nat) (a : Option Addr) (n c p : Nat) (d : DV) (K : DK) (wx : World) : Prop where
  only : OnlyB g w wx
  box : wx.heap[g]? = some (.cells #[.slice a n c, .int .i64 (p : Nat)] 107 (0, 0))
  at_ : p ≤ n
  res : wx.heap[w.heap.size]? = some (.cells #[.slice none 0 0, .slice none 0 0] 33 (0, 0))
  dk : IsBox wx gb d K
  gt : w.heap.size < gb
  own : ODisk (w.heap.size + 1) wx d K
  ok : dOk K
theorem LSt.below {w : World} {g gb : Nat} {a : Option Addr} {n c p : Nat} {d : DV} {K : DK} {wx wy : World} (h : LSt w g gb a n c p d K wx) (hg : g < w.heap.size) (hb : Below wx.heap.size wx wy) : LSt w g gb a n c p d K wy := by
  have lt := h.dk.lt
  have gt := h.gt
  exact ⟨h.only.thenB2 hb h.only.size, (hb.block g (by omega)).trans h.box, h.at_, (hb.block _ (by omega)).trans h.res, h.dk.below hb, gt, h.own.below hb, h.ok⟩
theorem LSt.rd {w : World} {g gb : Nat} {a : Option Addr} {n c p p0 : Nat} {l : List Int} {d : DV} {K : DK} {wx : World} (h : LSt w g gb a n c p d K wx) (h0 : IsRd w g a n c l p0) : IsRd wx g a n c l p := h0.only h.only h.box h.at_
theorem LSt.next {w : World} {g gb : Nat} {a : Option Addr} {n c p p' : Nat} {l : List Int} {d : DV} {K : DK} {wx wy : World} (h : LSt w g gb a n c p d K wx) (hg : g < w.heap.size) (ho : OnlyB g wx wy) (hr : IsRd wy g a n c l p') : LSt w g gb a n c p' d K wy := by
  have lt := h.dk.lt
  have gt := h.gt
  exact ⟨h.only.trans ho, hr.box, hr.at_, (ho.block _ (by omega) (by omega)).trans h.res, (ho.block _ lt (by omega)).trans h.dk, gt, h.own.keptR ho.gB (fun k e => by cases e; omega), h.ok⟩
theorem LSt.put {w : World} {g gb : Nat} {a : Option Addr} {n c p B : Nat} {d d' : DV} {K K' : DK} {wx : World} (h : LSt w g gb a n c p d K wx) (hg : g < w.heap.size) (ho : ODisk B wx d' K') (hB : gb < B) (hk : dOk K') : LSt w g gb a n c p d' K' ((wx.setCell ⟨gb, 0, none⟩ (.slice d'.sa K'.n d'.sc)).setCell ⟨gb, 1, none⟩ (.slice d'.pa K'.m d'.pc)) := by
  have gt := h.gt
  have q := ((Below.refl gb wx).setCell (p := ⟨gb, 0, none⟩) (Nat.le_refl _) (.slice d'.sa K'.n d'.sc)).setCell (p := ⟨gb, 1, none⟩) (Nat.le_refl _) (.slice d'.pa K'.m d'.pc)
  have x1 := heap_setCell_same wx gb 0 _ _ (.slice d'.sa K'.n d'.sc) h.dk
  have x2 := heap_setCell_same _ gb 1 _ _ (.slice d'.pa K'.m d'.pc) x1
  refine ⟨h.only.thenB2 q (by omega), (q.block g (by omega)).trans h.box, h.at_, (q.block _ gt).trans h.res, x2, gt, ?_, hk⟩
  exact (ho.keptR (gB_set (gB_set (gB_refl wx (some gb)) 0 _) 1 _) (fun k e => by cases e; exact hB)).mono (by omega)
theorem LSt.fin {w W6 : World} {g gb : Nat} {a : Option Addr} {n c p p0 : Nat} {l : List Int} {d : DV} {K : DK} (S : LSt w g gb a n c p d K W6) (h : IsRd w g a n c l p0) (hg : g < w.heap.size) :
    OnlyB g w ((W6.setCell ⟨w.heap.size, 0, none⟩ (.slice d.sa K.n d.sc)).setCell ⟨w.heap.size, 1, none⟩ (.slice d.pa K.m d.pc)) ∧ RDisk ((W6.setCell ⟨w.heap.size, 0, none⟩ (.slice d.sa K.n d.sc)).setCell ⟨w.heap.size, 1, none⟩ (.slice d.pa K.m d.pc)) d K := by
  have q := ((Below.refl w.heap.size W6).setCell (p := ⟨w.heap.size, 0, none⟩) (Nat.le_refl _) (.slice d.sa K.n d.sc)).setCell (p := ⟨w.heap.size, 1, none⟩) (Nat.le_refl _) (.slice d.pa K.m d.pc)
  exact ⟨S.only.thenB2 q (Nat.le_refl _), (S.own.keptR (gB_set (gB_set (gB_refl W6 (some w.heap.size)) 0 _) 1 _) (fun k e => by cases e; omega)).reads⟩

theorem t2_bd (G : Int) : -1 ≤ G.tmod 2 ∧ G.tmod 2 ≤ 1 := by
  rcases Int.le_total 0 G with h | h
  · rw [Int.tmod_eq_emod_of_nonneg h]
    omega
  · obtain ⟨y, rfl⟩ : ∃ y, G = -y := ⟨-G, by omega⟩
    rw [Int.neg_tmod, Int.tmod_eq_emod_of_nonneg (by omega)]
    omega

set_option maxRecDepth 100000 in
set_option maxHeartbeats 8000000 in
theorem l2Disk_calls (g : Nat) (a : Option Addr) (n c : Nat) (l : List Int) (p : Nat) (w : World) (h : IsRd w g a n c l p) :
    Calls Tryd.prog 38 #[.pointer (some ⟨g, 0, none⟩)] w fun e w' => ∃ d K, e = .returned (dval d K) ∧ OnlyB g w w' ∧ RDisk w' d K ∧ dOk K := by
  have HB : Hid (∀ i, 0 ≤ l.getD i 0 ∧ l.getD i 0 < 256) := h.bs.byte
  have hg := h.lt
  have q0 : Below w.heap.size w (w.alloc (.cells #[.slice none 0 0, .slice none 0 0] 33)) := (Below.refl _ _).alloc (Nat.le_refl _) _
  have y0 := heap_alloc_new w (.cells #[.slice none 0 0, .slice none 0 0] 33)
  have r0 := h.below q0
  have H0 : Hid _ := h
  have o0 := Below.onlyB q0 g
  have z0 : (w.alloc (.cells #[.slice none 0 0, .slice none 0 0] 33)).heap.size = w.heap.size + 1 := by simp
  clear h q0
  go_enter Tryd.func38, Tryd.ntmps38
  go_wp2_with fail
  generalize hW0 : w.alloc (.cells #[.slice none 0 0, .slice none 0 0] 33) = W0 at *
  clear hW0
  refine (next_calls g a n c l p W0 r0).mono ?_
  rintro e w1 ⟨rfl, o1, r1⟩
  have y1 := (o1.block w.heap.size (by omega) (by omega)).trans y0
  have z1 := o1.size
  have u1 := o0.trans o1
  obtain ⟨k0, k1⟩ := HB.out p
  generalize l.getD p 0 = k at *
  clear o0 o1 y0 r0
  generalize rdP n p = p1 at *
  obtain ⟨a5, ha5⟩ : ∃ x, k.tmod 5 = x := ⟨_, rfl⟩
  obtain ⟨q64, hq64⟩ : ∃ x, k.tdiv 64 = x := ⟨_, rfl⟩
  have ba5 : 0 ≤ a5 ∧ a5 ≤ 4 := by rw [Int.tmod_eq_emod_of_nonneg k0] at ha5; omega
  have bq64 : 0 ≤ q64 ∧ q64 ≤ 3 := by rw [Int.tdiv_eq_ediv_of_nonneg k0] at hq64; omega
  obtain ⟨b4, hb4⟩ : ∃ x, q64.tmod 4 = x := ⟨_, rfl⟩
  have bb4 : 0 ≤ b4 ∧ b4 ≤ 3 := by rw [Int.tmod_eq_emod_of_nonneg bq64.1] at hb4; omega
  obtain ⟨ba0, ba1⟩ := ba5
  obtain ⟨bb0, bb1⟩ := bb4
  obtain ⟨bq0, bq1⟩ := bq64
  go_wp2_with fail
  refine (newDisk_any (4 * (3 + a5) + b4) w1 (by omega) (by omega)).mono ?_
  rintro e w2 ⟨d, K, rfl, b2, on2, ok2⟩
  have q2 : Below w2.heap.size w2 (w2.alloc (.cells #[.slice d.sa K.n d.sc, .slice d.pa K.m d.pc] 33)) := (Below.refl _ _).alloc (Nat.le_refl _) _
  have z2 := b2.size
  have st : LSt w g w2.heap.size a n c p1 d K (w2.alloc (.cells #[.slice d.sa K.n d.sc, .slice d.pa K.m d.pc] 33)) :=
    ⟨(u1.thenB2 b2 u1.size).thenB2 q2 (by omega), (q2.block g (by omega)).trans ((b2.block g (by omega)).trans r1.box), r1.at_, (q2.block _ (by omega)).trans ((b2.block _ (by omega)).trans y1), isBox_new w2 d K, by omega, (on2.below q2).mono (by omega), ok2⟩
  have HST : Hid _ := st
  clear st q2 b2 on2 r1 y1 u1
  unfold dval
  go_upto_region 3 with fail
  generalize w2.alloc (.cells #[.slice d.sa K.n d.sc, .slice d.pa K.m d.pc] 33) = W2 at *
  generalize w2.heap.size = gb at *
  clear ha5 hq64 hb4 ba0 ba1 bb0 bb1 bq0 bq1 z0 z1 z2 ok2 W0 w1 w2
  obtain ⟨q8, hq8⟩ : ∃ x, k.tdiv 8 = x := ⟨_, rfl⟩
  have bq8 : 0 ≤ q8 ∧ q8 ≤ 31 := by rw [Int.tdiv_eq_ediv_of_nonneg k0] at hq8; omega
  obtain ⟨r4, hr4⟩ : ∃ x, q8.tmod 4 = x := ⟨_, rfl⟩
  have br4 : 0 ≤ r4 ∧ r4 ≤ 3 := by rw [Int.tmod_eq_emod_of_nonneg bq8.1] at hr4; omega
  obtain ⟨br0, br1⟩ := br4
  obtain ⟨bq0, bq1⟩ := bq8
  obtain ⟨k16, hk16⟩ : ∃ x, k.tmod 16 = x := ⟨_, rfl⟩
  go_wp2_with fail
  go_loopw [6] (fun i wr => ∃ (j : Nat) (p : Nat) (d : DV) (K : DK), (j : Int) ≤ 1 + r4 ∧ i = .int .i64 (j : Nat) ∧ LSt w g gb a n c p d K wr) (fun i _ => (1 + r4).toNat - (intOf i).toNat)
  case atStart => exact ⟨0, p1, d, K, by omega, rfl, HST.out⟩
  case round =>
    clear HST
    obtain ⟨j, p2, d, K, hj, rfl, st⟩ := hrel
    obtain ⟨wR, hwX⟩ : ∃ wX, wX = wr := ⟨_, rfl⟩
    subst hwX
    have HST : Hid _ := st
    clear st
    by_cases hlt : (j : Int) < 1 + r4
    · go_wp2_with fail
      refine (l2Super_calls g a n c l p2 wR (HST.out.rd H0.out)).mono ?_
      rintro e w3 ⟨G, R, U, F, p3, rfl, bd, o3, r3⟩
      have st3 := HST.out.next hg o3 r3
      have q3 : Below w3.heap.size w3 (w3.alloc (.cells #[.int .i64 G, .int .i64 R, .int .i64 U, .int .i64 F] 28)) := (Below.refl _ _).alloc (Nat.le_refl _) _
      have x3 := heap_alloc_new w3 (.cells #[.int .i64 G, .int .i64 R, .int .i64 U, .int .i64 F] 28)
      have st4 := st3.below hg q3
      have z4 : w3.heap.size < (w3.alloc (.cells #[.int .i64 G, .int .i64 R, .int .i64 U, .int .i64 F] 28)).heap.size := by simp
      clear HST o3 r3 st3 q3
      have HST : Hid _ := st4
      clear st4
      go_upto_region 7 with fail
      generalize w3.alloc (.cells #[.int .i64 G, .int .i64 R, .int .i64 U, .int .i64 F] 28) = W3 at *
      generalize w3.heap.size = gs at *
      clear w3
      have e0 := cell_of_row _ _ 0 _ _ _ x3
      have e1 := cell_of_row _ _ 1 _ _ _ x3
      have e2 := cell_of_row _ _ 2 _ _ _ x3
      have e3 := cell_of_row _ _ 3 _ _ _ x3
      go_wp2_with fail
      refine (superOps_any G R U F W3).mono ?_
      rintro e w4 ⟨oa, on, oc, q, rfl, b4, ho⟩
      have st4 := HST.out.below hg b4
      have x4 := (b4.block gs z4).trans x3
      have ho4 := ho.mono HST.out.only.size
      have hoB : Hid (HasOps W3.heap.size w4 oa on oc) := ho
      have zgb := HST.out.dk.lt
      clear HST e0 e1 e2 e3 b4 x3 ho
      have HST : Hid _ := st4
      have HO : Hid (HasOps _ _ _ _ _) := ho4
      clear st4 ho4
      go_upto_if 43 with fail
      go_cut [8, 9] (fun s8 s9 wx => ∃ oa on oc q, s8 = .slice oa on oc ∧ s9 = .bool q ∧ LSt w g gb a n c p3 d K wx ∧ HasOps (gb + 1) wx oa on oc)
      case first =>
        by_cases h15 : k16 = 15
        · have t15 : (k16 == 15) = true := by simp [h15]
          go_upto_region 9 with fail
          have dr : Below w4.heap.size w4 w4.drew := ⟨rfl, rfl, rfl, Nat.le_refl _, fun _ _ => rfl⟩
          have std := HST.out.below hg dr
          have xd : w4.drew.heap[gs]? = some (.cells #[.int .i64 G, .int .i64 R, .int .i64 U, .int .i64 F] 28 (0, 0)) := x4
          clear HST dr x4
          have HST : Hid _ := std
          clear std
          refine wp_regionD (fun v => v.cell? ⟨gs, 0, none⟩ = some (.int .i64 G) ∧ v.cell? ⟨gs, 1, none⟩ = some (.int .i64 R) ∧ v.cell? ⟨gs, 2, none⟩ = some (.int .i64 U) ∧ v.cell? ⟨gs, 3, none⟩ = some (.int .i64 F)) (fun k => decide (13 ≤ k)) (by kernel_rfl) ?_
          generalize w4.drew = WD at *
          have cs := And.intro (cell_of_row _ _ 0 _ _ _ xd) (And.intro (cell_of_row _ _ 1 _ _ _ xd) (And.intro (cell_of_row _ _ 2 _ _ _ xd) (cell_of_row _ _ 3 _ _ _ xd)))
          have zd : gs < WD.heap.size := (Array.getElem?_eq_some_iff.1 xd).1
          obtain ⟨x, hx⟩ : ∃ x, G.tmod 2 = x := ⟨_, rfl⟩
          have hxb := t2_bd G
          rw [hx] at hxb
          have hwx : IntKind.i64.wrap (x + 3) = x + 3 := by simp [IntKind.wrap, IntKind.bits, IntKind.signed]; omega
          obtain ⟨id, hid⟩ : ∃ y, (x + 3).tmod 2 = y := ⟨_, rfl⟩
          refine wpAnyD_takeT 0 45 (v := ?vvna0) rfl rfl (by kernel_rfl) (by kernel_rfl) (by kernel_rfl) (by kernel_rfl) (fun _ _ _ h => h) (Or.inl ⟨by rfl, ?hyna0⟩) cs ?restna0
          case hyna0 => (intro w hSw; obtain ⟨hS0, hS1, hS2, hS3⟩ := hSw; go_simp; try with_reducible rfl)
          simp only [Act.put, List.setIfInBounds_toArray, List.set_cons_zero, List.set_cons_succ]
          refine wpAnyD_takeT 1 46 (v := ?vvna1) rfl rfl (by kernel_rfl) (by kernel_rfl) (by kernel_rfl) (by kernel_rfl) (fun _ _ _ h => h) (Or.inl ⟨by rfl, ?hyna1⟩) cs ?restna1
          case hyna1 => (intro w hSw; obtain ⟨hS0, hS1, hS2, hS3⟩ := hSw; go_simp; try with_reducible rfl)
          simp only [Act.put, List.setIfInBounds_toArray, List.set_cons_zero, List.set_cons_succ]
          refine wpAnyD_takeT 2 47 (v := ?vvna2) rfl rfl (by kernel_rfl) (by kernel_rfl) (by kernel_rfl) (by kernel_rfl) (fun _ _ _ h => h) (Or.inl ⟨by rfl, ?hyna2⟩) cs ?restna2
          case hyna2 => (intro w hSw; obtain ⟨hS0, hS1, hS2, hS3⟩ := hSw; go_simp; try with_reducible rfl)
          simp only [Act.put, List.setIfInBounds_toArray, List.set_cons_zero, List.set_cons_succ]
          refine wpAnyD_takeT 3 48 (v := ?vvna3) rfl rfl (by kernel_rfl) (by kernel_rfl) (by kernel_rfl) (by kernel_rfl) (fun _ _ _ h => h) (Or.inl ⟨by rfl, ?hyna3⟩) cs ?restna3
          case hyna3 => (intro w hSw; obtain ⟨hS0, hS1, hS2, hS3⟩ := hSw; go_simp; try with_reducible rfl)
          simp only [Act.put, List.setIfInBounds_toArray, List.set_cons_zero, List.set_cons_succ]
          refine wpAnyD_takeT 4 49 (v := ?vvna4) rfl rfl (by kernel_rfl) (by kernel_rfl) (by kernel_rfl) (by kernel_rfl) (fun _ _ _ h => h) (Or.inl ⟨by rfl, ?hyna4⟩) cs ?restna4
          case hyna4 => (intro w hSw; obtain ⟨hS0, hS1, hS2, hS3⟩ := hSw; go_simp; try with_reducible rfl)
          simp only [Act.put, List.setIfInBounds_toArray, List.set_cons_zero, List.set_cons_succ]
          refine wpAnyD_takeT 5 50 (v := ?vvna5) rfl rfl (by kernel_rfl) (by kernel_rfl) (by kernel_rfl) (by kernel_rfl) (fun _ _ _ h => h) (Or.inl ⟨by rfl, ?hyna5⟩) cs ?restna5
          case hyna5 => (intro w hSw; obtain ⟨hS0, hS1, hS2, hS3⟩ := hSw; go_simp; try with_reducible rfl)
          simp only [Act.put, List.setIfInBounds_toArray, List.set_cons_zero, List.set_cons_succ]
          refine wpAnyD_one 6 (by kernel_rfl) rfl (fun KK hK => ?_)
          rw [if_pos (show Region.wanted _ _ = true from rfl)]
          go_wp2_with fail
          refine (l2SuperBody_any G R U F WD (by have := bd.1; omega) bd.1.2 (by have := bd.2.1; omega) (by have := bd.2.1; omega) (by have := bd.2.2.1; omega) (by have := bd.2.2.1; omega) (by have := bd.2.2.2; omega) (by have := bd.2.2.2; omega)).mono ?_
          rintro e w5 ⟨ba, bc, bl, rfl, b5, bo5, bi5⟩
          have st5 := HST.out.below hg b5
          have x5 := (b5.block gs zd).trans xd
          have cs5 := And.intro (cell_of_row _ _ 0 _ _ _ x5) (And.intro (cell_of_row _ _ 1 _ _ _ x5) (And.intro (cell_of_row _ _ 2 _ _ _ x5) (cell_of_row _ _ 3 _ _ _ x5)))
          have bb5 := bo5.bs bi5
          have zd5 := b5.size
          clear HST b5 bo5
          have HST : Hid _ := st5
          clear st5
          go_wp2_with fail
          refine hK.out _ _ (fun _ => cs5) ?_
          clear hK KK
          refine wpAnyD_one 7 (by kernel_rfl) rfl (fun KK hK => ?_)
          rw [if_pos (show Region.wanted _ _ = true from rfl)]
          go_wp2_with fail
          refine (pageOps_any id 1 ba 20 bc bl w5 bb5 (by omega)).mono ?_
          rintro e w6 ⟨oa6, on6, oc6, q6, rfl, b6, ho6⟩
          have st6 := HST.out.below hg b6
          have x6 := (b6.block gs (by omega)).trans x5
          have cs6 := And.intro (cell_of_row _ _ 0 _ _ _ x6) (And.intro (cell_of_row _ _ 1 _ _ _ x6) (And.intro (cell_of_row _ _ 2 _ _ _ x6) (cell_of_row _ _ 3 _ _ _ x6)))
          have ho7 := ho6.mono (show gb + 1 ≤ w5.heap.size by have := HST.out.dk.lt; omega)
          clear HST b6 ho6
          have HST : Hid _ := And.intro st6 ho7
          clear st6 ho7
          go_wp2_with fail
          refine hK.out _ _ (fun _ => cs6) ?_
          clear hK KK
          refine wpAnyD_takeT 8 44 (v := ?vvnb8) rfl rfl (by kernel_rfl) (by kernel_rfl) (by kernel_rfl) (by kernel_rfl) (fun _ _ _ h => h) (Or.inl ⟨by rfl, ?hynb8⟩) cs6 ?restnb8
          case hynb8 => (intro w hSw; obtain ⟨hS0, hS1, hS2, hS3⟩ := hSw; go_simp; try with_reducible rfl)
          simp only [Act.put, List.setIfInBounds_toArray, List.set_cons_zero, List.set_cons_succ]
          refine wpAnyD_takeT 9 53 (v := ?vvnb9) rfl rfl (by kernel_rfl) (by kernel_rfl) (by kernel_rfl) (by kernel_rfl) (fun _ _ _ h => h) (Or.inl ⟨by rfl, ?hynb9⟩) cs6 ?restnb9
          case hynb9 => (intro w hSw; obtain ⟨hS0, hS1, hS2, hS3⟩ := hSw; go_simp; try with_reducible rfl)
          simp only [Act.put, List.setIfInBounds_toArray, List.set_cons_zero, List.set_cons_succ]
          refine wpAnyD_takeT 11 8 (v := ?vvnb11) rfl rfl (by kernel_rfl) (by kernel_rfl) (by kernel_rfl) (by kernel_rfl) (fun _ _ _ h => h) (Or.inl ⟨by rfl, ?hynb11⟩) cs6 ?restnb11
          case hynb11 => (intro w hSw; obtain ⟨hS0, hS1, hS2, hS3⟩ := hSw; go_simp; try with_reducible rfl)
          simp only [Act.put, List.setIfInBounds_toArray, List.set_cons_zero, List.set_cons_succ]
          refine wpAnyD_takeT 10 54 (v := ?vvnb10) rfl rfl (by kernel_rfl) (by kernel_rfl) (by kernel_rfl) (by kernel_rfl) (fun _ _ _ h => h) (Or.inl ⟨by rfl, ?hynb10⟩) cs6 ?restnb10
          case hynb10 => (intro w hSw; obtain ⟨hS0, hS1, hS2, hS3⟩ := hSw; go_simp; try with_reducible rfl)
          simp only [Act.put, List.setIfInBounds_toArray, List.set_cons_zero, List.set_cons_succ]
          refine wpAnyD_takeT 12 9 (v := ?vvnb12) rfl rfl (by kernel_rfl) (by kernel_rfl) (by kernel_rfl) (by kernel_rfl) (fun _ _ _ h => h) (Or.inl ⟨by rfl, ?hynb12⟩) cs6 ?restnb12
          case hynb12 => (intro w hSw; obtain ⟨hS0, hS1, hS2, hS3⟩ := hSw; go_simp; try with_reducible rfl)
          simp only [Act.put, List.setIfInBounds_toArray, List.set_cons_zero, List.set_cons_succ]
          refine wpAnyD_done (by kernel_rfl) ?_ _
          go_wp2_with fail
          go_meet
          exact ⟨_, _, _, _, rfl, rfl, HST.out.1, HST.out.2⟩
        · have t15 : (k16 == 15) = false := by simp [h15]
          go_wp2_with fail
          go_meet
          exact ⟨_, _, _, _, rfl, rfl, HST.out, hoB.out.mono (by omega)⟩
      case rest =>
      clear HST HO hoB zgb x4 z4
      obtain ⟨oa, on, oc, q, rfl, rfl, st, ho⟩ := hcut
      obtain ⟨W5, hwX⟩ : ∃ wX, wX = wc := ⟨_, rfl⟩
      subst hwX
      have HST : Hid _ := st
      have HO : Hid (HasOps _ _ _ _ _) := ho
      clear st ho
      cases q with
      | true =>
        go_upto_region 11 with fail
        have dr : Below W5.heap.size W5 W5.drew := ⟨rfl, rfl, rfl, Nat.le_refl _, fun _ _ => rfl⟩
        have std := HST.out.below hg dr
        have hod := HO.out.below dr
        clear HST HO dr
        refine wp_regionR (fun v => v.cell? ⟨gb, 0, none⟩ = some (.slice d.sa K.n d.sc) ∧ v.cell? ⟨gb, 1, none⟩ = some (.slice d.pa K.m d.pc)) 10 (by kernel_rfl) ?_
        generalize W5.drew = WD at *
        have cs := And.intro std.dk.c0 std.dk.c1
        have HST : Hid _ := std
        have HO : Hid (HasOps _ _ _ _ _) := hod
        clear std hod
        refine wpAnyR_takeS 0 57 (v := ?vvpa0) rfl rfl (by decide) (by kernel_rfl) (by kernel_rfl) (by kernel_rfl) (by kernel_rfl) (by kernel_rfl) (fun _ _ _ h => h) (Or.inl ⟨by rfl, ?hypa0⟩) cs ?restpa0
        case hypa0 => (intro w hSw; obtain ⟨hS0, hS1⟩ := hSw; go_simp; try with_reducible rfl)
        simp only [Act.put, List.setIfInBounds_toArray, List.set_cons_zero, List.set_cons_succ]
        refine wpAnyR_freeS 1 58 (v := ?vvpa1) rfl rfl (by decide) (by kernel_rfl) (by kernel_rfl) (by kernel_rfl) (fun _ _ _ h => h) (Or.inl ⟨by rfl, ?hypa1⟩) (fun _ => cs) ?restpa1
        case hypa1 => (intro w hSw; go_simp; try with_reducible rfl)
        simp only [Act.put, List.setIfInBounds_toArray, List.set_cons_zero, List.set_cons_succ]
        refine wpAnyR_freeS 2 59 (v := ?vvpa2) rfl rfl (by decide) (by kernel_rfl) (by kernel_rfl) (by kernel_rfl) (fun _ _ _ h => h) (Or.inl ⟨by rfl, ?hypa2⟩) (fun _ => cs) ?restpa2
        case hypa2 => (intro w hSw; go_simp; try with_reducible rfl)
        simp only [Act.put, List.setIfInBounds_toArray, List.set_cons_zero, List.set_cons_succ]
        refine wpAnyR_one 3 (by kernel_rfl) rfl (fun KK hK => ?_)
        rw [if_pos (show Region.wanted _ _ = true from rfl)]
        go_wp2_with fail
        refine (next_calls g a n c l p3 WD (HST.out.rd H0.out)).mono ?_
        rintro e w6 ⟨rfl, on6, rn6⟩
        obtain ⟨b0, b1⟩ := HB.out p3
        generalize l.getD p3 0 = b at *
        have hgb : g < gb + 1 := by have := HST.out.gt; omega
        have st6 := HST.out.next hg on6 rn6
        have ho6 := HO.out.kept on6 hgb
        have cs6 := And.intro st6.dk.c0 st6.dk.c1
        clear HST HO on6 rn6
        have HST : Hid _ := st6
        have HO : Hid (HasOps _ _ _ _ _) := ho6
        clear st6 ho6
        obtain ⟨q2, hq2⟩ : ∃ x, b.tdiv 200 = x := ⟨_, rfl⟩
        have bq2 : 0 ≤ q2 ∧ q2 ≤ 1 := by rw [Int.tdiv_eq_ediv_of_nonneg b0] at hq2; omega
        have hw4 : IntKind.i64.wrap (4 - q2) = 4 - q2 := by simp [IntKind.wrap, IntKind.bits, IntKind.signed]; omega
        go_wp2_with fail
        refine hK.out _ _ (fun _ => cs6) ?_
        clear hK KK
        refine wpAnyR_freeS 4 61 (v := ?vvpb4) rfl rfl (by decide) (by kernel_rfl) (by kernel_rfl) (by kernel_rfl) (fun _ _ _ h => h) (Or.inl ⟨by rfl, ?hypb4⟩) (fun _ => cs6) ?restpb4
        case hypb4 => (intro w hSw; go_simp; try with_reducible rfl)
        simp only [Act.put, List.setIfInBounds_toArray, List.set_cons_zero, List.set_cons_succ]
        refine wpAnyR_freeS 5 62 (v := ?vvpb5) rfl rfl (by decide) (by kernel_rfl) (by kernel_rfl) (by kernel_rfl) (fun _ _ _ h => h) (Or.inl ⟨by rfl, ?hypb5⟩) (fun _ => cs6) ?restpb5
        case hypb5 => (intro w hSw; go_simp; try with_reducible rfl)
        simp only [Act.put, List.setIfInBounds_toArray, List.set_cons_zero, List.set_cons_succ]
        refine wpAnyR_one 6 (by kernel_rfl) rfl (fun KK hK => ?_)
        rw [if_pos (show Region.wanted _ _ = true from rfl)]
        go_wp2_with fail
        refine (play_any d K (gb + 1) oa on oc (4 - q2) w6 HST.out.own.reads HST.out.ok HO.out).mono ?_
        rintro e w7 ⟨d7, K7, t7, rfl, b7, od7, ok7⟩
        have zgb := HST.out.dk.lt
        have st7 := HST.out.below hg b7
        have PUT : Hid _ := st7.put hg od7 (by omega) ok7
        have cs7 := And.intro st7.dk.c0 st7.dk.c1
        have f0 := frozen_of_row _ _ 0 _ _ st7.dk
        have f1 := frozen_of_row _ _ 1 _ _ st7.dk
        clear HST HO b7 st7 od7 ok7
        go_wp2_with fail
        refine hK.out _ _ (fun _ => cs7) ?_
        clear hK KK
        refine wpAnyR_freeS 7 56 (v := ?vvpc7) rfl rfl (by decide) (by kernel_rfl) (by kernel_rfl) (by kernel_rfl) (fun _ _ _ h => h) (Or.inl ⟨by rfl, ?hypc7⟩) (fun _ => cs7) ?restpc7
        case hypc7 => (intro w hSw; go_simp; try with_reducible rfl)
        simp only [Act.put, List.setIfInBounds_toArray, List.set_cons_zero, List.set_cons_succ]
        refine wpAnyR_freeS 8 64 (v := ?vvpc8) rfl rfl (by decide) (by kernel_rfl) (by kernel_rfl) (by kernel_rfl) (fun _ _ _ h => h) (Or.inl ⟨by rfl, ?hypc8⟩) (fun _ => cs7) ?restpc8
        case hypc8 => (intro w hSw; go_simp; try with_reducible rfl)
        simp only [Act.put, List.setIfInBounds_toArray, List.set_cons_zero, List.set_cons_succ]
        refine wpAnyR_freeS 9 65 (v := ?vvpc9) rfl rfl (by decide) (by kernel_rfl) (by kernel_rfl) (by kernel_rfl) (fun _ _ _ h => h) (Or.inl ⟨by rfl, ?hypc9⟩) (fun _ => cs7) ?restpc9
        case hypc9 => (intro w hSw; go_simp; try with_reducible rfl)
        simp only [Act.put, List.setIfInBounds_toArray, List.set_cons_zero, List.set_cons_succ]
        obtain ⟨cs70, cs71⟩ := cs7
        refine wpAnyR_one 10 (by kernel_rfl) rfl (fun KK hK => ?_)
        rw [if_pos (show Region.wanted _ _ = true from rfl)]
        go_wp2_with fail
        refine hK.out _ _ (fun h => absurd (show true = false from h) (by decide)) ?_
        clear hK KK
        refine wpAnyR_done (by kernel_rfl) ?_ _
        go_wp2
        go_roundw
        case rel => exact ⟨j + 1, _, _, _, by omega, by go_num, PUT.out⟩
        case measure => simp [intOf]; omega
      | false =>
        go_wp2
        go_roundw
        case rel => exact ⟨j + 1, _, _, _, by omega, by go_num, HST.out⟩
        case measure => simp [intOf]; omega
    · have hlt' : ¬ (j : Int) < 1 + r4 := hlt
      go_upto_region 12 with fail
      clear hq8 hr4 hk16 br0 br1 bq0 bq1
      go_wp2_with fail
      refine (next_calls g a n c l p2 wR (HST.out.rd H0.out)).mono ?_
      rintro e w3 ⟨rfl, o3, r3⟩
      obtain ⟨b0, b1⟩ := HB.out p2
      generalize l.getD p2 0 = b at *
      have st3 := HST.out.next hg o3 r3
      clear HST o3 r3
      have HST : Hid _ := st3
      clear st3
      obtain ⟨i4, hi4⟩ : ∃ x, b.tmod 4 = x := ⟨_, rfl⟩
      go_wp2_with fail
      refine (next_calls g a n c l _ w3 (HST.out.rd H0.out)).mono ?_
      rintro e w4 ⟨rfl, o4, r4'⟩
      obtain ⟨f0, f1⟩ := HB.out (rdP n p2)
      generalize l.getD (rdP n p2) 0 = f at *
      have st4 := HST.out.next hg o4 r4'
      clear HST o4 r4'
      have HST : Hid _ := st4
      clear st4
      obtain ⟨f4, hf4⟩ : ∃ x, f.tmod 4 = x := ⟨_, rfl⟩
      have bf4 : 0 ≤ f4 ∧ f4 ≤ 3 := by rw [Int.tmod_eq_emod_of_nonneg f0] at hf4; omega
      obtain ⟨bf0, bf1⟩ := bf4
      go_wp2_with fail
      refine (l2Body_calls g a n c l _ w4 (HST.out.rd H0.out)).mono ?_
      rintro e w5 ⟨ba, bn, bc, bl, p5, rfl, o5, r5, bo5, bi5, hbn⟩
      have st5 := HST.out.next hg o5 r5
      clear HST o5 r5
      have HST : Hid _ := st5
      clear st5
      go_wp2_with fail
      refine (pageOps_any i4 (1 + f4) ba bn bc bl w5 (bo5.bs bi5) (by omega)).mono ?_
      rintro e w6 ⟨oa, on, oc, q, rfl, b6, ho6⟩
      have st6 := HST.out.below hg b6
      have ho := ho6.mono (show gb + 1 ≤ w5.heap.size from HST.out.dk.lt)
      clear HST b6 ho6 bo5 bi5 hbn hi4 hf4
      have HST : Hid _ := st6
      have HO : Hid (HasOps _ _ _ _ _) := ho
      clear st6 ho
      obtain ⟨k2, hk2⟩ : ∃ x, k.tmod 2 = x := ⟨_, rfl⟩
      go_upto_region 13 with fail
      go_cut [84] (fun sx wx => (∃ q, sx = .bool q) ∧ LSt w g gb a n c p5 d K wx ∧ HasOps (gb + 1) wx oa on oc)
      case first =>
        cases q with
        | true =>
          go_wp2_with fail
          go_meet
          exact ⟨⟨_, rfl⟩, HST.out, HO.out⟩
        | false =>
          go_wp2_with fail
          go_meet
          exact ⟨⟨_, rfl⟩, HST.out, HO.out⟩
      case rest =>
      clear HST HO
      obtain ⟨⟨q84, rfl⟩, st, ho⟩ := hcut
      obtain ⟨W6, hwX⟩ : ∃ wX, wX = wc := ⟨_, rfl⟩
      subst hwX
      have HST : Hid _ := st
      have HO : Hid (HasOps _ _ _ _ _) := ho
      clear st ho
      go_upto_if 84 with fail
      go_cut [] (fun wx => ∃ d K, LSt w g gb a n c p5 d K wx)
      case first =>
        cases q84 with
        | true =>
          have c0 := HST.out.dk.c0
          have c1 := HST.out.dk.c1
          go_wp2_with fail
          refine (play_any d K (gb + 1) oa on oc 4 W6 HST.out.own.reads HST.out.ok HO.out).mono ?_
          rintro e w7 ⟨d7, K7, t7, rfl, b7, od7, ok7⟩
          have zgb := HST.out.dk.lt
          have st7 := HST.out.below hg b7
          have PUT : Hid _ := st7.put hg od7 (by omega) ok7
          have cs7 := And.intro st7.dk.c0 st7.dk.c1
          have f0 := frozen_of_row _ _ 0 _ _ st7.dk
          have f1 := frozen_of_row _ _ 1 _ _ st7.dk
          clear HST HO b7 st7 od7 ok7
          obtain ⟨cs70, cs71⟩ := cs7
          go_wp2_with fail
          go_meet
          exact ⟨_, _, PUT.out⟩
        | false =>
          go_wp2_with fail
          go_meet
          exact ⟨_, _, HST.out⟩
      case rest =>
      clear HST HO
      obtain ⟨d, K, st⟩ := hcut
      obtain ⟨W7, hwX⟩ : ∃ wX, wX = wc := ⟨_, rfl⟩
      subst hwX
      have HST : Hid _ := st
      clear st
      obtain ⟨k4, hk4⟩ : ∃ x, k.tmod 4 = x := ⟨_, rfl⟩
      go_upto_if 93 with fail
      go_cut [] (fun wx => ∃ d K, LSt w g gb a n c p5 d K wx)
      case first =>
        by_cases h4 : 0 < k4
        · go_upto_region 16 with fail
          have qa : Below W7.heap.size W7 (W7.alloc (.cells #[.int .i64 2, .int .i64 0, .slice none 0 0] 90)) := (Below.refl _ _).alloc (Nat.le_refl _) _
          have zz := HST.out.dk.lt
          have so := sync_ops W7 (gb + 1) zz
          have c0 := HST.out.dk.c0
          have c1 := HST.out.dk.c1
          have st8 := HST.out.below hg qa
          clear HST
          have HST : Hid _ := st8
          have HO : Hid (HasOps _ _ _ _ _) := so
          clear st8 so
          have za : (W7.alloc (.cells #[.int .i64 2, .int .i64 0, .slice none 0 0] 90)).heap.size = W7.heap.size + 1 := by simp
          have HZA : Hid _ := za
          clear za
          go_wp2_with fail
          generalize W7.alloc (.cells #[.int .i64 2, .int .i64 0, .slice none 0 0] 90) = W8 at *
          refine (play_any d K (gb + 1) _ 1 1 1 W8 HST.out.own.reads HST.out.ok HO.out).mono ?_
          rintro e w7 ⟨d7, K7, t7, rfl, b7, od7, ok7⟩
          have zgb := HST.out.dk.lt
          have st7 := HST.out.below hg b7
          have PUT : Hid _ := st7.put hg od7 (by omega) ok7
          have cs7 := And.intro st7.dk.c0 st7.dk.c1
          have f0 := frozen_of_row _ _ 0 _ _ st7.dk
          have f1 := frozen_of_row _ _ 1 _ _ st7.dk
          clear HST HO b7 st7 od7 ok7
          obtain ⟨cs70, cs71⟩ := cs7
          go_wp2_with fail
          go_meet
          exact ⟨_, _, PUT.out⟩
        · have h4b : ¬ 0 < k4 := h4
          go_wp2_with fail
          go_meet
          exact ⟨_, _, HST.out⟩
      case rest =>
      clear HST
      obtain ⟨d, K, st⟩ := hcut
      obtain ⟨W9, hwX⟩ : ∃ wX, wX = wc := ⟨_, rfl⟩
      subst hwX
      have hR := st.res
      have e0 := st.dk.c0
      have e1 := st.dk.c1
      have l0 := cell_of_row _ _ 0 _ _ _ hR
      have l1 := cell_of_row _ _ 1 _ _ _ hR
      have u0 := frozen_of_row _ _ 0 _ _ hR
      have u1 := frozen_of_row _ _ 1 _ _ hR
      have FX : Hid _ := st
      clear st hR
      go_wp2
      refine bodyPost_ret (v := .agg #[.slice d.sa K.n d.sc, .slice d.pa K.m d.pc]) (by simp [results, Tryd.results38, go_sem, l0, l1]) rfl ?_
      exact ⟨d, K, rfl, (FX.out.fin H0.out hg).1, (FX.out.fin H0.out hg).2, FX.out.ok⟩
end Go.Proofs.YtjjfgoeibcmfkaaDoor

/- Rows of records whose bytes may be shared: what the draws make. -/
namespace Go.Proofs.YtjjfgoeibcmfkaaDoor
open Go.RowKit
set_option linter.unusedVariables false

/-- The row is the call's own, and so are its records' bytes; two of these may be one. -/
structure WRecs (p e : Nat) (B : Nat) (w : World) (a : Option Addr) (n c : Nat) (I : Nat → Nat → Int) (A : Nat → Option Addr) (N C : Nat → Nat) (L : Nat → List Int) : Prop where
  row : w.ownsRow B e (p + 1) (.slice a n c) n (flat p I (fun i => .slice (A i) (N i) (C i)) n)
  data : ∀ i, i < n → Own B w (A i) (N i) (C i) (L i)
  byte : ∀ i, i < n → IsB (L i)
theorem ORecs.weak {p e B : Nat} {w : World} {a : Option Addr} {n c : Nat} {I : Nat → Nat → Int} {A : Nat → Option Addr} {N C : Nat → Nat} {L : Nat → List Int} (h : ORecs p e B w a n c I A N C L) : WRecs p e B w a n c I A N C L := ⟨h.row, h.data, h.byte⟩
theorem WRecs.below {p e B : Nat} {w w' : World} {a : Option Addr} {n c : Nat} {I : Nat → Nat → Int} {A : Nat → Option Addr} {N C : Nat → Nat} {L : Nat → List Int} (h : WRecs p e B w a n c I A N C L) (hb : Below w.heap.size w w') : WRecs p e B w' a n c I A N C L :=
  ⟨own_below h.row hb, fun i hi => (h.data i hi).below hb, h.byte⟩
theorem WRecs.mono {p e B B' : Nat} {w : World} {a : Option Addr} {n c : Nat} {I : Nat → Nat → Int} {A : Nat → Option Addr} {N C : Nat → Nat} {L : Nat → List Int} (h : WRecs p e B w a n c I A N C L) (hB : B' ≤ B) : WRecs p e B' w a n c I A N C L :=
  ⟨World.ownsRow.mono h.row hB, fun i hi => (h.data i hi).mono hB, h.byte⟩
theorem WRecs.reads {p e B : Nat} {w : World} {a : Option Addr} {n c : Nat} {I : Nat → Nat → Int} {A : Nat → Option Addr} {N C : Nat → Nat} {L : Nat → List Int} (h : WRecs p e B w a n c I A N C L) : RRecs p w a n c I A N C L := by
  have hd := fun i hi => (h.data i hi).bs (h.byte i hi)
  rcases h.row.2 with ⟨e1, h0⟩ | ⟨g, cap, cur, e1, hg, hh, h1, h2, h3, h4⟩
  · cases e1
    exact ⟨by omega, Nat.zero_le _, fun _ => rfl, fun hp => absurd hp (by omega), hd⟩
  · cases e1
    have hget : ∀ q i, i < n → q < p + 1 → w.cell? ⟨g, 0 + i * (p + 1) + q, none⟩ = (recCells p (I i) (.slice (A i) (N i) (C i)))[q]? := fun q i hi hq => by
      have hm : (i + 1) * (p + 1) ≤ n * (p + 1) := Nat.mul_le_mul_right _ (by omega)
      rw [Nat.add_mul, Nat.one_mul] at hm
      rw [Nat.zero_add, World.ownsRow.cellAt h.row (i * (p + 1) + q) (by omega)]
      exact flat_get p I (fun i => .slice (A i) (N i) (C i)) q hq n i hi
    refine ⟨h1, h2, fun e => (by cases e), fun hp => ⟨g, 0, rfl, (Array.getElem?_eq_some_iff.1 hh).1, fun i hi => ⟨fun q hq => ?_, ?_⟩⟩, hd⟩
    · rw [hget q i hi (by omega), recCells_int _ _ _ _ hq]
    · rw [hget p i hi (by omega), recCells_last]
/-- Rows stay where one block alone has turned, and it is none of theirs. -/
theorem ownsRow_only {g B e size : Nat} {w w' : World} {v : Value} {n : Nat} {xs : List Value} (h : OnlyB g w w') (ho : w.ownsRow B e size v n xs) (hn : v.ownBlock ≠ some g) : w'.ownsRow B e size v n xs := by
  refine ⟨ho.1, ?_⟩
  rcases ho.2 with h2 | ⟨k, cap, cur, hv, hg, hh, r⟩
  · exact Or.inl h2
  · exact Or.inr ⟨k, cap, cur, hv, hg, by rw [h.block k (Array.getElem?_eq_some_iff.1 hh).1 (fun e => hn (by rw [hv, e]; rfl))]; exact hh, r⟩
theorem WRecs.only {g p e B : Nat} {w w' : World} {a : Option Addr} {n c : Nat} {I : Nat → Nat → Int} {A : Nat → Option Addr} {N C : Nat → Nat} {L : Nat → List Int} (h : WRecs p e B w a n c I A N C L) (ho : OnlyB g w w') (hg : g < B) : WRecs p e B w' a n c I A N C L :=
  ⟨ownsRow_only ho h.row (fun e1 => by have := (World.ownsRow.lt h.row g e1).1; omega), fun i hi => ho.own (h.data i hi) (fun e1 => by have := (World.ownsRow.lt (h.data i hi) g e1).1; omega), h.byte⟩
/-- .. and where another row has grown, of another type. -/
theorem WRecs.kept {p e B : Nat} {w w' : World} {a : Option Addr} {n c : Nat} {I : Nat → Nat → Int} {A : Nat → Option Addr} {N C : Nat → Nat} {L : Nat → List Int} (h : WRecs p e B w a n c I A N C L) {v : Value} {B2 e2 s2 n2 : Nat} {xs2 : List Value} (h2 : w.ownsRow B2 e2 s2 v n2 xs2) (he : e ≠ e2) (he2 : e2 ≠ 5) (g : w.grownBy w' v.ownBlock) : WRecs p e B w' a n c I A N C L := by
  refine ⟨World.ownsRow.kept h.row g ?_, fun i hi => World.ownsRow.kept (h.data i hi) g ?_, h.byte⟩
  · cases hk : (Value.slice a n c).ownBlock with
    | none => exact Or.inl rfl
    | some k => exact Or.inr fun e1 => types_ne h.row h2 he k hk e1.symm
  · cases hk : (Value.slice (A i) (N i) (C i)).ownBlock with
    | none => exact Or.inl rfl
    | some k => exact Or.inr fun e1 => types_ne (h.data i hi) h2 (Ne.symm he2) k hk e1.symm

/-- 'append(s, Rec{.., data})', the data a row of the call's own, new or not. -/
theorem wp_appW {w1 : World} {o : Oper} {act : Act} {KK : Act → World → Prop} {Q : Exit → Act → World → Prop} (s x : Operand) (t : TypeId)
    (ho : o.op = .call { callee := .builtin .append, args := #[s, x], argTypes := #[t, t] })
    (p e B : Nat) (ht : Tryd.prog.underlying t = some (.slice e)) (hinf : ∃ i z, Tryd.prog.info? e = some i ∧ i.zero = some z ∧ i.size = p + 1 ∧ z.cells.size = p + 1 ∧ i.bytes ≤ 64) (he : e ≠ 5)
    (a : Option Addr) (n c : Nat) (I : Nat → Nat → Int) (A : Nat → Option Addr) (N C : Nat → Nat) (L : Nat → List Int) (hs : act.eval s = .slice a n c) (hold : WRecs p e B w1 a n c I A N C L)
    (J : Nat → Int) (a1 : Option Addr) (n1 c1 : Nat) (l1 : List Int) (hnew : Own B w1 a1 n1 c1 l1) (hb1 : IsB l1) (hB : B ≤ w1.heap.size)
    (cs : Array Value) (hcs : cs.toList = recCells p J (.slice a1 n1 c1)) (hx : act.eval x = .slice (some ⟨w1.heap.size, 0, none⟩) 1 1) (hn : n ≤ 1048576)
    (h : ∀ a' c' w', WRecs p e B w' a' (n + 1) c' (upd I n J) (upd A n a1) (upd N n n1) (upd C n c1) (upd L n l1) → Below B w1 w' → (w1.alloc (.cells cs e)).grownBy w' (Value.slice a n c).ownBlock → KK (act.put o.dst (.slice a' (n + 1) c')) w') : o.wp Tryd.prog act (w1.alloc (.cells cs e)) KK Q := by
  obtain ⟨i, z, hi, hz0, hz1, hz2, hz3⟩ := hinf
  have q0 : Below w1.heap.size w1 (w1.alloc (.cells cs e)) := (Below.refl _ _).alloc (Nat.le_refl _) _
  refine wp_append_own _ s x t ho B e i z (p + 1) i.bytes ht hi hz0 hz1 rfl hz2 (by omega) _ n _ hs (own_below hold.row q0) ⟨w1.heap.size, 0, none⟩ 1 1 (recCells p J (.slice a1 n1 c1)) hx (by rw [recCells_len, Nat.one_mul]) ?_ (recCells_oneCell _ _ _ _ _) (by unfold maxLen; omega) ?_ (by simp; omega) ?_
  · intro j u hj
    rw [Addr.add_lit, Nat.zero_add]
    rw [← hcs] at hj
    have : (w1.alloc (.cells cs e)).cell? ⟨w1.heap.size, j, none⟩ = cs[j]? := cell_of_row _ w1.heap.size j cs e (0, 0) (heap_alloc_new w1 _)
    rw [this, ← hj]
    simp
  · have : (n + 1) * i.bytes ≤ (n + 1) * 64 := Nat.mul_le_mul_left _ hz3
    omega
  · intro v' w' ho' hg' _
    have hv : ∃ a' c', v' = .slice a' (n + 1) c' := by
      rcases ho'.2 with ⟨rfl, h0⟩ | ⟨g, cap, cur, rfl, _⟩
      · omega
      · exact ⟨_, _, rfl⟩
    obtain ⟨a', c', rfl⟩ := hv
    have keep : ∀ {B2 : Nat} {a2 : Option Addr} {n2 c2 : Nat} {l2 : List Int}, Own B2 (w1.alloc (.cells cs e)) a2 n2 c2 l2 → Own B2 w' a2 n2 c2 l2 := fun {B2 a2 n2 c2 l2} h2 => by
      refine World.ownsRow.kept h2 hg' ?_
      cases hk : (Value.slice a2 n2 c2).ownBlock with
      | none => exact Or.inl rfl
      | some k => exact Or.inr fun e1 => types_ne h2 (own_below hold.row q0) (Ne.symm he) k hk e1.symm
    refine h a' c' w' ⟨?_, fun i hi => ?_, fun i hi => ?_⟩ ((q0.mono hB).trans ((Below.refl _ _).grown hg' (by simp; omega) (fun k hk => (World.ownsRow.lt (own_below hold.row q0) k hk).1))) hg'
    · have e1 : flat p (upd I n J) (fun i => .slice (upd A n a1 i) (upd N n n1 i) (upd C n c1 i)) (n + 1) = flat p I (fun i => .slice (A i) (N i) (C i)) n ++ recCells p J (.slice a1 n1 c1) := by
        rw [flat, upd_same, upd_same, upd_same, upd_same]
        rw [flat_congr p n (I' := I) (V' := fun i => .slice (A i) (N i) (C i)) (fun i hi => ⟨fun q _ => by rw [upd_lt _ _ _ hi], by rw [upd_lt _ _ _ hi, upd_lt _ _ _ hi, upd_lt _ _ _ hi]⟩)]
      rw [e1]
      exact ho'
    · by_cases e2 : i = n
      · subst e2; rw [upd_same, upd_same, upd_same, upd_same]; exact keep (hnew.below q0)
      · have hi' : i < n := by omega
        rw [upd_lt _ _ _ hi', upd_lt _ _ _ hi', upd_lt _ _ _ hi', upd_lt _ _ _ hi']
        exact keep ((hold.data i hi').below q0)
    · by_cases e2 : i = n
      · subst e2; rw [upd_same]; exact hb1
      · rw [upd_ne _ _ _ e2]; exact hold.byte i (by omega)
theorem step_appW {w1 : World} {ops : Array Oper} {o : Oper} {act : Act} {KK : Act → World → Prop} {Q : Exit → Act → World → Prop} {E : Prop} (hgd : o.guard = none) (s x : Operand) (t : TypeId)
    (ho : o.op = .call { callee := .builtin .append, args := #[s, x], argTypes := #[t, t] })
    (p e B : Nat) (ht : Tryd.prog.underlying t = some (.slice e)) (hinf : ∃ i z, Tryd.prog.info? e = some i ∧ i.zero = some z ∧ i.size = p + 1 ∧ z.cells.size = p + 1 ∧ i.bytes ≤ 64) (he : e ≠ 5)
    (a : Option Addr) (n c : Nat) (I : Nat → Nat → Int) (A : Nat → Option Addr) (N C : Nat → Nat) (L : Nat → List Int) (hs : act.eval s = .slice a n c) (hold : WRecs p e B w1 a n c I A N C L)
    (J : Nat → Int) (a1 : Option Addr) (n1 c1 : Nat) (l1 : List Int) (hnew : Own B w1 a1 n1 c1 l1) (hb1 : IsB l1) (hB : B ≤ w1.heap.size)
    (cs : Array Value) (hcs : cs.toList = recCells p J (.slice a1 n1 c1)) (hx : act.eval x = .slice (some ⟨w1.heap.size, 0, none⟩) 1 1) (hn : n ≤ 1048576)
    (h : ∀ a' c' w', WRecs p e B w' a' (n + 1) c' (upd I n J) (upd A n a1) (upd N n n1) (upd C n c1) (upd L n l1) → Below B w1 w' → (w1.alloc (.cells cs e)).grownBy w' (Value.slice a n c).ownBlock → KK (act.put o.dst (.slice a' (n + 1) c')) w') :
    if Region.wanted o (yielded ops act.tmps) = true then Oper.wp Tryd.prog o act (w1.alloc (.cells cs e)) KK Q else E := by
  have hw : Region.wanted o (yielded ops act.tmps) = true := by simp [Region.wanted, hgd]
  rw [if_pos hw]
  exact wp_appW s x t ho p e B ht hinf he a n c I A N C L hs hold J a1 n1 c1 l1 hnew hb1 hB cs hcs hx hn h

/-- A row of bytes is stored into one of the records. -/
theorem WRecs.put {p e B g : Nat} {w : World} {n c : Nat} {I : Nat → Nat → Int} {A : Nat → Option Addr} {N C : Nat → Nat} {L : Nat → List Int} (h' : WRecs p e B w (some ⟨g, 0, none⟩) n c I A N C L) (he : e ≠ 5) (j : Nat) (hj : j < n) (a1 : Option Addr) (n1 c1 : Nat) (l1 : List Int) (ho : Own B w a1 n1 c1 l1) (hl : IsB l1) :
    WRecs p e B (w.setCell ⟨g, j * (p + 1) + p, none⟩ (.slice a1 n1 c1)) (some ⟨g, 0, none⟩) n c I (upd A j a1) (upd N j n1) (upd C j c1) (upd L j l1) ∧ w.grownBy (w.setCell ⟨g, j * (p + 1) + p, none⟩ (.slice a1 n1 c1)) (some g) := by
  have hs := World.ownsRow.stored h'.row (j * (p + 1) + p) (.slice a1 n1 c1)
  rw [flat_setLast p I _ _ j n hj] at hs
  have eV : upd (fun i => Value.slice (A i) (N i) (C i)) j (.slice a1 n1 c1) = fun i => .slice (upd A j a1 i) (upd N j n1 i) (upd C j c1 i) := by
    funext i
    by_cases e1 : i = j
    · subst e1; simp [upd]
    · simp [upd, e1]
  rw [eV] at hs
  have keep : ∀ {B2 : Nat} {a2 : Option Addr} {n2 c2 : Nat} {l2 : List Int}, Own B2 w a2 n2 c2 l2 → Own B2 (w.setCell ⟨g, j * (p + 1) + p, none⟩ (.slice a1 n1 c1)) a2 n2 c2 l2 := fun {B2 a2 n2 c2 l2} h2 => by
    refine World.ownsRow.kept h2 hs.2 ?_
    cases hk : (Value.slice a2 n2 c2).ownBlock with
    | none => exact Or.inl rfl
    | some k => exact Or.inr fun e1 => types_ne h2 h'.row (Ne.symm he) k hk (by rw [e1]; rfl)
  refine ⟨⟨hs.1, fun i hi => ?_, fun i hi => ?_⟩, hs.2⟩
  · by_cases e1 : i = j
    · subst e1; rw [upd_same, upd_same, upd_same, upd_same]; exact keep ho
    · rw [upd_ne _ _ _ e1, upd_ne _ _ _ e1, upd_ne _ _ _ e1, upd_ne _ _ _ e1]; exact keep (h'.data i hi)
  · by_cases e1 : i = j
    · subst e1; rw [upd_same]; exact hl
    · rw [upd_ne _ _ _ e1]; exact h'.byte i hi
end Go.Proofs.YtjjfgoeibcmfkaaDoor

/- The draw of a sector. -/
namespace Go.Proofs.YtjjfgoeibcmfkaaDoor
open Go.RowKit
set_option linter.unusedVariables false

theorem OnlyB.thenB {g B : Nat} {a b c : World} (h : OnlyB g a b) (hb : Below B b c) (hB : a.heap.size ≤ B) : OnlyB g a c :=
  ⟨hb.os.trans h.os, hb.tape.trans h.tape, hb.output.trans h.output, Nat.le_trans h.size hb.size, fun k hk hn => (hb.block k (Nat.lt_of_lt_of_le hk hB)).trans (h.block k hk hn)⟩
theorem isB_setD {l : List Int} (h : IsB l) (i : Nat) {u : Int} (h0 : 0 ≤ u) (h1 : u < 256) : IsB (l.set i u) := fun j => by
  rw [List.getD_eq_getElem?_getD, List.getElem?_set]
  by_cases e : i = j
  · rw [if_pos e]
    by_cases hl : i < l.length
    · rw [if_pos hl]; exact ⟨h0, h1⟩
    · rw [if_neg hl]; exact ⟨by simp, by simp⟩
  · rw [if_neg e]
    have := h j
    rwa [List.getD_eq_getElem?_getD] at this
theorem own_setD {B g : Nat} {w : World} {n c : Nat} {l : List Int} (h : Own B w (some ⟨g, 0, none⟩) n c l) (i : Nat) (u : Int) : Own B (w.setCell ⟨g, i, none⟩ (.int .u8 u)) (some ⟨g, 0, none⟩) n c (l.set i u) := by
  have h1 := (World.ownsRow.stored h i (.int .u8 u)).1
  have e : (ob l).set i (.int .u8 u) = ob (l.set i u) := by unfold ob; rw [List.map_set]
  rw [e] at h1
  exact h1

/-- A drawn sector. -/
def secL (v : Int) : List Int := (zeros64.set 0 v).set 63 (v / 2)
theorem secL_isB {v : Int} (h0 : 0 ≤ v) (h1 : v < 256) : IsB (secL v) := isB_setD (isB_setD zeros64_isB 0 h0 h1) 63 (by omega) (by omega)
theorem secL_len (v : Int) : (secL v).length = 64 := by simp [secL, zeros64_len]

set_option maxRecDepth 100000 in
set_option maxHeartbeats 1000000 in
theorem l1Sector_calls (g : Nat) (a : Option Addr) (n c : Nat) (l : List Int) (p : Nat) (w : World) (h : IsRd w g a n c l p) :
    Calls Tryd.prog 65 #[.pointer (some ⟨g, 0, none⟩)] w fun e w' => e = .returned (.slice (some ⟨w.heap.size, 0, none⟩) 64 64) ∧ OnlyB g w w' ∧ IsRd w' g a n c l (rdP n p) ∧ Own w.heap.size w' (some ⟨w.heap.size, 0, none⟩) 64 64 (secL (l.getD p 0)) := by
  have hB := h.bs.byte p
  have hg := h.lt
  have q0 := (Below.refl w.heap.size w).alloc (Nat.le_refl _) (.cells zero64 5)
  have o0 := own_made64 w.heap.size w (Nat.le_refl _)
  have r0 := h.below q0
  have kz : ∀ w : World, (Instr.makeSlice 38 (.int .i64 64) (.int .i64 64)).run Tryd.prog w = .ok (.slice (some ⟨w.heap.size, 0, none⟩) 64 64) (w.alloc (.cells zero64 5)) := run_made64
  have Q0 : Hid _ := q0
  clear q0
  go_enter Tryd.func65, Tryd.ntmps65
  go_wp2_with fail
  refine (next_calls g a n c l p _ r0).mono ?_
  rintro e w1 ⟨rfl, o1, r1⟩
  generalize hvv : l.getD p 0 = v at *
  have HV : Hid (l.getD p 0 = v) := hvv
  clear hvv
  obtain ⟨v0, v1⟩ := hB
  have s1 := o1.own o0 (fun e1 => by have := (World.ownsRow.lt o0 g e1).1; omega)
  have s2 := own_setD s1 0 v
  have s3 := own_setD s2 63 (v / 2)
  have c0 : w1.cell? ⟨w.heap.size, 0, none⟩ = some (.int .u8 0) := by rw [World.ownsRow.cellAt s1 0 (by omega)]; rfl
  have c63 : w1.cell? ⟨w.heap.size, 63, none⟩ = some (.int .u8 0) := by rw [World.ownsRow.cellAt s1 63 (by omega)]; rfl
  have f0 := World.ownsRow.frozenAt s1 0
  have f63 := World.ownsRow.frozenAt s1 63
  have O1 : Hid (OnlyB g w w1) := (Below.onlyB Q0.out g).trans o1
  have F3 : Hid (OnlyB g w ((w1.setCell ⟨w.heap.size, 0, none⟩ (.int .u8 v)).setCell ⟨w.heap.size, 63, none⟩ (.int .u8 (v / 2)))) := O1.out.thenB (((Below.refl w.heap.size w1).setCell (p := ⟨w.heap.size, 0, none⟩) (Nat.le_refl _) _).setCell (p := ⟨w.heap.size, 63, none⟩) (Nat.le_refl _) _) (Nat.le_refl _)
  have x3 : ((w1.setCell ⟨w.heap.size, 0, none⟩ (.int .u8 v)).setCell ⟨w.heap.size, 63, none⟩ (.int .u8 (v / 2))).heap[g]? = w1.heap[g]? := by
    rw [Below.heap_setCell _ _ _ _ (show g ≠ w.heap.size by omega), Below.heap_setCell _ _ _ _ (show g ≠ w.heap.size by omega)]
  have R3 : Hid _ := h.only F3.out (x3.trans r1.box) r1.at_
  have S3 : Hid _ := s3
  have hv2 : v.tdiv 2 = v / 2 := Int.tdiv_eq_ediv_of_nonneg v0
  clear o0 r0 h o1 r1 s1 s2 s3 x3 O1
  go_wp2
  go_ret
  rw [HV.out]
  exact ⟨rfl, F3.out, R3.out, S3.out⟩
end Go.Proofs.YtjjfgoeibcmfkaaDoor

