import Derived.Test.YtglbanolhhjjiaaGreatDoorGe14
import Derived.Test.YtglbanolhhjjiaaGreatDoorGe1
import Derived.Test.YtglbanolhhjjiaaGreatDoorGe25
import Derived.Test.YtglbanolhhjjiaaGreatDoorGe5
import Derived.Test.YtglbanolhhjjiaaGreatDoorGe22
import Derived.Deep.RegionLaw
import Derived.Deep.DeepCutAuto
/- A store's cells. -/
namespace Go.Proofs.YtglbanolhhjjiaaGreatDoor
open Go.RowKit
set_option linter.unusedVariables false

def stV (d : DV) (K : DK) (g r u f : Int) : List Value := [.slice d.sa K.n d.sc, .slice d.pa K.m d.pc, .int .i64 g, .int .i64 r, .int .i64 u, .int .i64 f]
def stZ : List Value := [.slice none 0 0, .slice none 0 0, .int .i64 0, .int .i64 0, .int .i64 0, .int .i64 0]
theorem stZ_one : ∀ u ∈ stZ, u.oneCell' = true := by intro u hu; simp [stZ] at hu; rcases hu with rfl | rfl <;> rfl
theorem stV_one (d : DV) (K : DK) (g r u f : Int) : ∀ x ∈ stV d K g r u f, x.oneCell' = true := by intro x hx; simp [stV] at hx; rcases hx with rfl | rfl | rfl | rfl | rfl | rfl <;> rfl
theorem sizeSt : (Tryz.prog.info? 38).map (·.size) = some 6 := by kernel_rfl
theorem built_st0 : Tryz.prog.built 38 [] = some stZ.toArray := by kernel_rfl
theorem built_st (d : DV) (K : DK) (g r u f : Int) : Tryz.prog.built 38 [(0, .agg #[.slice d.sa K.n d.sc, .slice d.pa K.m d.pc]), (1, .agg #[.int .i64 g, .int .i64 r, .int .i64 u, .int .i64 f])] = some (stV d K g r u f).toArray := by kernel_rfl
theorem ownsRow_low {B e s : Nat} {w w' : World} {v : Value} {n : Nat} {xs : List Value} (h : w.ownsRow B e s v n xs) (hk : ∀ k, B ≤ k → k < w.heap.size → w'.heap[k]? = w.heap[k]?) : w'.ownsRow B e s v n xs := by
  refine ⟨h.1, ?_⟩
  rcases h.2 with h2 | ⟨g, cap, cur, e1, hB, hh, r⟩
  · exact Or.inl h2
  · exact Or.inr ⟨g, cap, cur, e1, hB, (hk g hB (Array.getElem?_eq_some_iff.1 hh).1).trans hh, r⟩
theorem ORecs.low {p e B : Nat} {w w' : World} {a : Option Addr} {n c : Nat} {I : Nat → Nat → Int} {A : Nat → Option Addr} {N C : Nat → Nat} {L : Nat → List Int} (h : ORecs p e B w a n c I A N C L) (hk : ∀ k, B ≤ k → k < w.heap.size → w'.heap[k]? = w.heap[k]?) : ORecs p e B w' a n c I A N C L :=
  ⟨ownsRow_low h.row hk, fun i hi => ownsRow_low (h.data i hi) hk, h.byte, h.sep1⟩
theorem odisk_only {B B0 g : Nat} {w w' : World} {d : DV} {K : DK} (h : ODisk B w d K) (o : OnlyB g w w') (hB : B0 ≤ B) (hg : g < B) : ODisk B0 w' d K := by
  have hk : ∀ k, B ≤ k → k < w.heap.size → w'.heap[k]? = w.heap[k]? := fun k h1 h2 => o.block k h2 (by omega)
  exact ⟨(h.safe.low hk).mono hB, (h.pend.low hk).mono hB, h.sepX⟩
theorem odisk_setRow {B B0 g : Nat} {w : World} {d : DV} {K : DK} {cells : Array Value} (h : ODisk B w d K) (hB : B0 ≤ B) (hg : g < B) : ODisk B0 (w.setRow g cells) d K := by
  have o := onlyB_setRow w g cells
  have hk : ∀ k, B ≤ k → k < w.heap.size → (w.setRow g cells).heap[k]? = w.heap[k]? := fun k h1 h2 => o.block k h2 (by omega)
  exact ⟨(h.safe.low hk).mono hB, (h.pend.low hk).mono hB, h.sepX⟩
end Go.Proofs.YtglbanolhhjjiaaGreatDoor

/- A store at work. -/
namespace Go.Proofs.YtglbanolhhjjiaaGreatDoor
open Go.RowKit
set_option linter.unusedVariables false

set_option maxRecDepth 100000 in
theorem woSrc {eN eW : Addr} {d : DV} {K : DK} {g gw mc B0 : Nat} {root : Int} {w1 : World} (h : RDisk w1 d K) (hok : dOk K) (hE : Errs w1 eN eW) (ho : w1.ownsMap Tryz.prog 3 (plainElem Tryz.prog 3) g K.m (lastD K.At K.m)) (hgm : w1.heap.size ≤ mc) (hgw : w1.heap.size ≤ gw) (hmb : mc < B0) (hgb : gw < B0) :
    Src (pgD K) B0 64 124 (.pointer (some ⟨gw, 0, none⟩)) (CS (pgD K) w1 gw mc (woC d K g mc root)) (fun k => k = mc) where
  low := fun k e => by subst e; exact hmb
  meth := fun w => methWo _ w
  ent := fun _ _ => rfl
  keep := fun u u' hs hb hk => by
    obtain ⟨cl, D, hC⟩ := hs.ca
    exact ⟨hs.b.trans (hb.mono (by omega)), (hb.block gw hgb).trans hs.k, cl, D, hC.keep (hb.block mc hmb) hk⟩
  page := fun u id hs h0 h1 => woPage_calls h hok hE ho hgm hgw id u hs h0 h1
/-- A store at work stands. -/
structure WoS (K : DK) (root : Int) (B gw : Nat) (w' : World) : Prop where
  ok : dOk K
  ex : ∃ (B0 : Nat) (S : World → Prop) (X : Nat → Prop), Src (pgD K) B0 64 124 (.pointer (some ⟨gw, 0, none⟩)) S X ∧ S w' ∧ B0 ≤ w'.heap.size ∧ (∀ u, S u → u.cell? ⟨gw, 4, none⟩ = some (.int .i64 root)) ∧ (∀ k, X k → B ≤ k) ∧ B ≤ B0
theorem built_wo (d : DV) (K : DK) (g mc : Nat) (root : Int) : Tryz.prog.built 127 [(0, .agg #[.slice d.sa K.n d.sc, .slice d.pa K.m d.pc, .map (some g)]), (1, .map (some mc)), (2, .int .i64 root)] = some (woC d K g mc root).toArray := by kernel_rfl
theorem caQ_new (P : Pg) (w : World) (o : Obj) : CaQ P ((w.alloc (.map #[] 0)).alloc o) w.heap.size [] (.map []) := ⟨(World.ownsMap_made w _ _ _).alloc o, ⟨List.nodup_nil, fun x hx => by simp at hx⟩, fun i => by rfl, fun i hi => by simp at hi⟩
def awV : Bool → Nat → Value
  | true, gw => .tuple #[.pointer (some ⟨gw, 0, none⟩), .bool true]
  | false, _ => .tuple #[.pointer none, .bool false]
def AwP (K : DK) (gen root used free : Int) (w : World) (e : Ending) (w' : World) : Prop := Below w.heap.size w w' ∧ ((whB K gen root used free = false ∧ e = .returned (.tuple #[.pointer none, .bool false])) ∨ (whB K gen root used free = true ∧ ∃ gw, e = .returned (.tuple #[.pointer (some ⟨gw, 0, none⟩), .bool true]) ∧ WoS K root w.heap.size gw w'))

set_option maxHeartbeats 4000000 in
set_option maxRecDepth 100000 in
theorem atWork_calls (eN eW : Addr) (d : DV) (K : DK) (gen root used free : Int) (w : World) (h : RDisk w d K) (hE : Errs w eN eW) :
    Calls Tryz.prog 31 #[.agg (stV d K gen root used free).toArray] w (AwP K gen root used free w) := by
  obtain ⟨W1, hW1⟩ : ∃ W, W = w.alloc (Obj.cells (stV d K gen root used free).toArray 38) := ⟨_, rfl⟩
  have q1 : Below w.heap.size w W1 := by rw [hW1]; exact (Below.refl _ _).alloc (Nat.le_refl _) _
  have z1 : W1.heap.size = w.heap.size + 1 := by rw [hW1]; simp
  have kS : Blk W1 38 w.heap.size (stV d K gen root used free) := by rw [hW1]; exact blk_new w _ _
  have h1 := h.below q1
  have E1 := hE.below q1
  have H1 : Hid _ := And.intro q1 (And.intro kS (And.intro h1 E1))
  have a0 : W1.cell? ⟨w.heap.size, 0, none⟩ = some (.slice d.sa K.n d.sc) := kS.cell 0
  have a1 : W1.cell? ⟨w.heap.size, 1, none⟩ = some (.slice d.pa K.m d.pc) := kS.cell 1
  clear q1 kS h hE E1
  cases hdo : dOkB K with
  | false =>
    have NR := newReader_no d K W1 h1 (fun hk => by rw [dOk_true hk] at hdo; cases hdo)
    have hW : Hid (whB K gen root used free = false) := by show whB K gen root used free = false; unfold whB; rw [hdo]
    unfold dval at NR
    unfold rZ at NR
    clear h1 hdo
    go_enter Tryz.func31, Tryz.ntmps31
    go_upto_region 1 with fail
    change Code.wp _ _ _ _ (w.alloc (Obj.cells (stV d K gen root used free).toArray 38))
    rw [← hW1]
    clear hW1
    go_wp2_with fail
    refine NR.mono ?_
    rintro e w4 ⟨rfl, b4⟩
    have d4 : Below w.heap.size w w4 := H1.out.1.trans (b4.mono H1.out.1.size)
    have FIN : Hid _ := d4.alloc d4.size (Obj.cells #[.slice none 0 0, .slice none 0 0, .map none] 122)
    clear NR b4 d4 a0 a1
    go_wp2_with (refine wpList_storeNew rfl 122 _ _ rfl w4 #[.slice none 0 0, .slice none 0 0, .map none] #[.slice none 0 0, .slice none 0 0, .map none] 122 rfl rfl sizeRd rfl rfl ?_)
    go_ret2
    exact ⟨FIN.out, Or.inl ⟨hW.out, rfl⟩⟩
  | true =>
    have hok := dOk_of hdo
    have hn := hok.1.2.1
    have NR := newReader_core d.sa d.pa d.sc d.pc d.sA d.pA d.sN d.sC d.pN d.pC K W1 h1.safe h1.pend hok
    have hW : Hid (whB K gen root used free = hoB (pgD K) (nPg K) ((nPg K : Nat) : Int) gen root used free) := by show whB K gen root used free = _; unfold whB; rw [hdo]
    have HOK : Hid _ := hok
    clear h1 hdo hok
    go_enter Tryz.func31, Tryz.ntmps31
    go_upto_region 1 with fail
    change Code.wp _ _ _ _ (w.alloc (Obj.cells (stV d K gen root used free).toArray 38))
    rw [← hW1]
    clear hW1
    go_wp2_with fail
    refine NR.mono ?_
    rintro e w4 ⟨g, rfl, b4, om4⟩
    have q5 : Below w4.heap.size w4 (w4.alloc (Obj.cells (rdV d K g).toArray 122)) := (Below.refl _ _).alloc (Nat.le_refl _) _
    have u5 : Below W1.heap.size W1 (w4.alloc (Obj.cells (rdV d K g).toArray 122)) := b4.trans (q5.mono b4.size)
    have kS5 := H1.out.2.1.below u5
    have kV5 := blk_new w4 122 (rdV d K g).toArray
    have om5 := om4.alloc (.cells (rdV d K g).toArray 122)
    have hz5 := u5.size
    have d5 : Below w.heap.size w (w4.alloc (Obj.cells (rdV d K g).toArray 122)) := H1.out.1.trans (u5.mono H1.out.1.size)
    have H5 : Hid _ := And.intro kS5 (And.intro om5 (And.intro (H1.out.2.2.1.below u5) (And.intro (H1.out.2.2.2.below u5) d5)))
    clear NR b4 om4 q5 u5 om5 a0 a1 d5
    go_upto_region 4 with (first | (refine wpList_storeNew rfl 122 _ _ rfl w4 #[.slice none 0 0, .slice none 0 0, .map none] (rdV d K g).toArray 122 rfl rfl sizeRd rfl (all_one (rdV_one d K g)) ?_))
    change Code.wp _ _ _ _ (w4.alloc (Obj.cells (rdV d K g).toArray 122))
    generalize w4.alloc (Obj.cells (rdV d K g).toArray 122) = W5 at *
    generalize w4.heap.size = vb at *
    have kV : Blk W5 122 vb (rdV d K g) := kV5
    have v0 : W5.cell? ⟨vb, 0, none⟩ = some (.slice d.sa K.n d.sc) := kV.cell 0
    have v1 : W5.cell? ⟨vb, 1, none⟩ = some (.slice d.pa K.m d.pc) := kV.cell 1
    have v2 : W5.cell? ⟨vb, 2, none⟩ = some (.map (some g)) := kV.cell 2
    have a3 : (W5.alloc (Obj.map #[] 0)).cell? ⟨w.heap.size, 3, none⟩ = some (.int .i64 root) := (kS5.below ((Below.refl _ _).alloc (Nat.le_refl _) (Obj.map #[] 0))).cell 3
    obtain ⟨W6, hW6⟩ : ∃ W, W = (W5.alloc (.map #[] 0)).alloc (Obj.cells (woC d K g W5.heap.size root).toArray 127) := ⟨_, rfl⟩
    have q6 : Below W5.heap.size W5 W6 := by rw [hW6]; exact ((Below.refl _ _).alloc (Nat.le_refl _) _).alloc (by simp) _
    have z6 : W6.heap.size = W5.heap.size + 1 + 1 := by rw [hW6]; simp
    have k6 : Blk W6 127 (W5.heap.size + 1) (woC d K g W5.heap.size root) := by
      have := blk_new (W5.alloc (.map #[] 0)) 127 (woC d K g W5.heap.size root).toArray
      rw [hW6]
      simpa using this
    have CS6 : CS (pgD K) W5 (W5.heap.size + 1) W5.heap.size (woC d K g W5.heap.size root) W6 := ⟨q6, k6, [], .map [], by rw [hW6]; exact caQ_new _ _ _⟩
    have HS := woSrc (B0 := W5.heap.size + 1 + 1) (root := root) H5.out.2.2.1 HOK.out H5.out.2.2.2.1 H5.out.2.1 (Nat.le_refl _) (by omega : W5.heap.size ≤ W5.heap.size + 1) (by omega : W5.heap.size < W5.heap.size + 1 + 1) (by omega)
    have HHS : Hid _ := HS
    have H6 : Hid _ := And.intro CS6 (And.intro q6 z6)
    have hmm := @run_makeMap Tryz.prog
    have hbw := built_wo d K g W5.heap.size root
    have kS6 := kS5.below q6
    clear kV kV5 kS5 q6 k6 CS6 HS
    go_upto_region 5 with fail
    change Code.wp _ _ _ _ ((W5.alloc (.map #[] 0)).alloc (Obj.cells (woC d K g W5.heap.size root).toArray 127))
    rw [← hW6]
    clear hW6 hmm hbw v0 v1 v2 a3
    obtain ⟨mc, hmc⟩ : ∃ x, x = W5.heap.size := ⟨_, rfl⟩
    rw [← hmc] at HHS H6 ⊢
    have hzm : w.heap.size < mc := by omega
    have hz6m : W6.heap.size = mc + 1 + 1 := H6.out.2.2
    have d6 : Below w.heap.size w W6 := H5.out.2.2.2.2.trans (H6.out.2.1.mono (by omega))
    have HCS : Hid (∀ u, Below mc W6 u → u.cell? ⟨w.heap.size, 0, none⟩ = some (.slice d.sa K.n d.sc) ∧ u.cell? ⟨w.heap.size, 1, none⟩ = some (.slice d.pa K.m d.pc) ∧ u.cell? ⟨w.heap.size, 2, none⟩ = some (.int .i64 gen) ∧ u.cell? ⟨w.heap.size, 3, none⟩ = some (.int .i64 root) ∧ u.cell? ⟨w.heap.size, 4, none⟩ = some (.int .i64 used) ∧ u.cell? ⟨w.heap.size, 5, none⟩ = some (.int .i64 free)) := fun u hu => by
      have k9 : Blk u 38 w.heap.size (stV d K gen root used free) := (hu.block w.heap.size hzm).trans kS6
      exact ⟨k9.cell 0, k9.cell 1, k9.cell 2, k9.cell 3, k9.cell 4, k9.cell 5⟩
    have dd : Below W6.heap.size W6 W6.drew := ⟨rfl, rfl, rfl, Nat.le_refl _, fun _ _ => rfl⟩
    have cs := HCS.out W6.drew (dd.mono (by omega))
    have HW : Hid (whB K gen root used free = hoB (pgD K) (nPg K) ((nPg K : Nat) : Int) gen root used free) := hW.out
    obtain ⟨r, hrr⟩ : ∃ r, r = hoB (pgD K) (nPg K) ((nPg K : Nat) : Int) gen root used free := ⟨_, rfl⟩
    have HRR : Hid (r = hoB (pgD K) (nPg K) ((nPg K : Nat) : Int) gen root used free) := hrr
    have HW : Hid (whB K gen root used free = r) := by rw [hrr]; exact HW.out
    clear hrr
    -- what the end of every branch asks for
    have HEND : Hid (∀ (u u9 : World) (hb : Nat) (xs ys : List Value), OnlyS (fun k => k = mc) W6 u → (r = true → CS (pgD K) W5 (mc + 1) mc (woC d K g mc root) u) → Blk u 102 hb xs → mc + 1 + 1 ≤ hb → OnlyB hb u u9 → Below mc W6 u9 ∧ (r = true → WoS K root w.heap.size (mc + 1) u9)) := fun u u9 hb xs ys ho hs hk hl ho9 => by
      have hzu := ho.size
      have h9 := ho9.size
      refine ⟨(ho.below (by omega) (fun k e => by omega)).trans (ho9.below (by omega) (by omega)), fun hr => ⟨HOK.out, mc + 1 + 1, CS (pgD K) W5 (mc + 1) mc (woC d K g mc root), (fun k => k = mc), HHS.out, HHS.out.keep _ _ (hs hr) (ho9.below hl (by omega)) (keepT_only ho9 hk (by decide)), by omega, fun u hu => hu.k.cell 4, fun k e => by omega, by omega⟩⟩
    have HIN : Hid (∀ u, OnlyS (fun k => k = mc) W6 u → CS (pgD K) W5 (mc + 1) mc (woC d K g mc root) u → Calls Tryz.prog 72 #[.iface 64 (.pointer (some ⟨mc + 1, 0, none⟩)), .int .i64 (nPg K : Nat), .agg (supC gen root used free).toArray] u (HiP (pgD K) (nPg K) (CS (pgD K) W5 (mc + 1) mc (woC d K g mc root)) (fun k => k = mc) r u)) := fun u ho hu => by
      rw [HRR.out]
      exact holdingIn_calls (pgD_ok H5.out.2.2.1 HOK.out) (fun t => vL_le HOK.out t) HHS.out (nPg K) gen root used free u hu (by have := ho.size; omega)
    have HKB : Hid (∀ u u', CS (pgD K) W5 (mc + 1) mc (woC d K g mc root) u → mc + 1 + 1 ≤ u.heap.size → Below u.heap.size u u' → CS (pgD K) W5 (mc + 1) mc (woC d K g mc root) u') := fun u u' hs hz hb => HHS.out.keep _ _ hs (hb.mono hz) (keepT_below hb)
    have HDP : Hid (∀ u, Calls Tryz.prog 73 #[.agg #[.slice d.sa K.n d.sc, .slice d.pa K.m d.pc]] u fun e w' => e = .returned (.int .i64 ((nPg K : Nat) : Int)) ∧ Below u.heap.size u w') := fun u => by
      have DP := diskPages_calls d.sa d.pa d.sc d.pc K u hn
      rw [show (K.n : Int) / 4 = ((nPg K : Nat) : Int) by unfold nPg; omega] at DP
      exact DP
    have HFIN : Hid (∀ u, Below mc W6 u → (r = true → WoS K root w.heap.size (mc + 1) u) → AwP K gen root used free w (.returned (awV r (mc + 1))) u) := fun u hb hs => by
      refine ⟨d6.trans (hb.mono (by omega)), ?_⟩
      rw [HW.out]
      cases hr : r with
      | true => exact Or.inr ⟨rfl, mc + 1, rfl, hs hr⟩
      | false => exact Or.inl ⟨rfl, rfl⟩
    have C6 : Hid (CS (pgD K) W5 (mc + 1) mc (woC d K g mc root) W6.drew) := HKB.out _ _ H6.out.1 (by omega) dd
    have HMC : Hid (mc = W5.heap.size) := hmc
    have HZ6 : Hid (W6.heap.size = mc + 1 + 1) := hz6m
    have hz6l : mc + 1 + 1 ≤ W6.heap.size := by omega
    clear kS6 d6 hmc hz6m z6
    refine wp_regionD (fun u => u.cell? ⟨w.heap.size, 0, none⟩ = some (.slice d.sa K.n d.sc) ∧ u.cell? ⟨w.heap.size, 1, none⟩ = some (.slice d.pa K.m d.pc) ∧ u.cell? ⟨w.heap.size, 2, none⟩ = some (.int .i64 gen) ∧ u.cell? ⟨w.heap.size, 3, none⟩ = some (.int .i64 root) ∧ u.cell? ⟨w.heap.size, 4, none⟩ = some (.int .i64 used) ∧ u.cell? ⟨w.heap.size, 5, none⟩ = some (.int .i64 free)) (fun k => decide (13 ≤ k)) (by kernel_rfl) ?_
    refine wpAnyD_takeT 0 25 (v := ?vva0) rfl rfl (by kernel_rfl) (by kernel_rfl) (by kernel_rfl) (by kernel_rfl) (fun _ _ _ h => h) (Or.inl ⟨by rfl, ?hya0⟩) cs ?resta0
    case hya0 => (intro w hSw; (try dsimp only at hSw); go_simp; try with_reducible rfl)
    simp only [Act.put, List.setIfInBounds_toArray, List.set_cons_zero, List.set_cons_succ]
    refine wpAnyD_takeT 1 26 (v := ?vva1) rfl rfl (by kernel_rfl) (by kernel_rfl) (by kernel_rfl) (by kernel_rfl) (fun _ _ _ h => h) (Or.inl ⟨by rfl, ?hya1⟩) cs ?resta1
    case hya1 => (intro w hSw; (try dsimp only at hSw); go_simp; try with_reducible rfl)
    simp only [Act.put, List.setIfInBounds_toArray, List.set_cons_zero, List.set_cons_succ]
    refine wpAnyD_takeT 2 27 (v := ?vva2) rfl rfl (by kernel_rfl) (by kernel_rfl) (by kernel_rfl) (by kernel_rfl) (fun _ _ _ h => h) (Or.inl ⟨by rfl, ?hya2⟩) cs ?resta2
    case hya2 => (intro w hSw; (try dsimp only at hSw); go_simp; try with_reducible rfl)
    simp only [Act.put, List.setIfInBounds_toArray, List.set_cons_zero, List.set_cons_succ]
    refine wpAnyD_takeT 3 28 (v := ?vva3) rfl rfl (by kernel_rfl) (by kernel_rfl) (by kernel_rfl) (by kernel_rfl) (fun _ _ _ h => h) (Or.inl ⟨by rfl, ?hya3⟩) cs ?resta3
    case hya3 => (intro w hSw; (try dsimp only at hSw); go_simp; try with_reducible rfl)
    simp only [Act.put, List.setIfInBounds_toArray, List.set_cons_zero, List.set_cons_succ]
    refine wpAnyD_takeT 5 30 (v := ?vva4) rfl rfl (by kernel_rfl) (by kernel_rfl) (by kernel_rfl) (by kernel_rfl) (fun _ _ _ h => h) (Or.inl ⟨by rfl, ?hya4⟩) cs ?resta4
    case hya4 => (intro w hSw; (try dsimp only at hSw); go_simp; try with_reducible rfl)
    simp only [Act.put, List.setIfInBounds_toArray, List.set_cons_zero, List.set_cons_succ]
    refine wpAnyD_takeT 6 31 (v := ?vva5) rfl rfl (by kernel_rfl) (by kernel_rfl) (by kernel_rfl) (by kernel_rfl) (fun _ _ _ h => h) (Or.inl ⟨by rfl, ?hya5⟩) cs ?resta5
    case hya5 => (intro w hSw; (try dsimp only at hSw); go_simp; try with_reducible rfl)
    simp only [Act.put, List.setIfInBounds_toArray, List.set_cons_zero, List.set_cons_succ]
    refine wpAnyD_two 4 11 (by kernel_rfl) rfl rfl (fun KK hK => ?_) (fun KK hK => ?_)
    · rw [if_pos (show Region.wanted _ _ = true from rfl)]
      have DP := HDP.out W6.drew
      go_wp2_with fail
      refine DP.mono ?_
      rintro e u1 ⟨rfl, b1⟩
      have o61 : OnlyS (fun k => k = mc) W6 u1 := (OnlyS.ofBelow dd).trans (OnlyS.ofBelow b1)
      have C1 : CS (pgD K) W5 (mc + 1) mc (woC d K g mc root) u1 := HKB.out _ _ C6.out (show mc + 1 + 1 ≤ W6.heap.size by omega) b1
      have hzu1 := o61.size
      refine hK.out _ _ (fun _ => HCS.out _ (o61.below (by omega) (fun k e => by omega))) ?_
      clear hK KK
      refine wpAnyD_two 7 11 (by kernel_rfl) rfl rfl (fun KK hK => ?_) (fun KK hK => ?_)
      · rw [if_pos (show Region.wanted _ _ = true from rfl)]
        have HI := HIN.out u1 o61 C1
        unfold supC at HI
        go_wp2_with fail
        refine HI.mono ?_
        rintro e v1 ⟨o1, s1, cs1, hcl1, hco1, rfl⟩
        have ck1 := HCS.out v1 ((o61.trans o1).below (by omega) (fun k e => by omega))
        refine hK.out _ _ (fun _ => ck1) ?_
        clear hK KK
        refine wpAnyD_takeT 8 24 (v := ?vvf0) rfl rfl (by kernel_rfl) (by kernel_rfl) (by kernel_rfl) (by kernel_rfl) (fun _ _ _ h => h) (Or.inl ⟨by rfl, ?hyf0⟩) ck1 ?restf0
        case hyf0 => (intro w hSw; (try dsimp only at hSw); go_simp; try with_reducible rfl)
        simp only [Act.put, List.setIfInBounds_toArray, List.set_cons_zero, List.set_cons_succ]
        refine wpAnyD_takeT 9 33 (v := ?vvf1) rfl rfl (by kernel_rfl) (by kernel_rfl) (by kernel_rfl) (by kernel_rfl) (fun _ _ _ h => h) (Or.inl ⟨by rfl, ?hyf1⟩) ck1 ?restf1
        case hyf1 => (intro w hSw; (try dsimp only at hSw); go_simp; try with_reducible rfl)
        simp only [Act.put, List.setIfInBounds_toArray, List.set_cons_zero, List.set_cons_succ]
        refine wpAnyD_takeT 10 34 (v := ?vvf2) rfl rfl (by kernel_rfl) (by kernel_rfl) (by kernel_rfl) (by kernel_rfl) (fun _ _ _ h => h) (Or.inl ⟨by rfl, ?hyf2⟩) ck1 ?restf2
        case hyf2 => (intro w hSw; (try dsimp only at hSw); go_simp; try with_reducible rfl)
        simp only [Act.put, List.setIfInBounds_toArray, List.set_cons_zero, List.set_cons_succ]
        refine wpAnyD_one 11 (by kernel_rfl) rfl (fun KK hK => ?_)
        rw [if_pos (show Region.wanted _ _ = true from rfl)]
        go_wp2_with fail
        have q9 : Below v1.heap.size v1 (v1.alloc (Obj.cells hoZ.toArray 102)) := (Below.refl _ _).alloc (Nat.le_refl _) _
        have hz9 := (o61.trans o1).size
        have ck9 := HCS.out (v1.alloc (Obj.cells hoZ.toArray 102)) (((o61.trans o1).below (by omega) (fun k e => by omega)).trans (q9.mono (by omega)))
        refine hK.out _ _ (fun _ => ck9) ?_
        clear hK KK
        have kh1 : Blk (v1.alloc (Obj.cells hoZ.toArray 102)) 102 v1.heap.size hoZ := blk_new v1 _ _
        have of1 : OnlyS (fun k => k = mc) W6 (v1.alloc (Obj.cells hoZ.toArray 102)) := (o61.trans o1).trans (OnlyS.ofBelow q9)
        have sf1 : r = true → CS (pgD K) W5 (mc + 1) mc (woC d K g mc root) (v1.alloc (Obj.cells hoZ.toArray 102)) := fun hr => HKB.out _ _ (s1 hr) (by omega) q9
        have hl1 : mc + 1 + 1 ≤ v1.heap.size := by omega
        clear ck1
        have sC : (Tryz.prog.info? 102).map (·.size) = some cs1.toArray.size := by rw [List.size_toArray, hcl1]; exact sizeHo
        have hco' := all_one hco1
        have E9 := HEND.out (v1.alloc (Obj.cells hoZ.toArray 102)) ((v1.alloc (Obj.cells hoZ.toArray 102)).setRow v1.heap.size cs1.toArray) v1.heap.size hoZ [] of1 sf1 kh1 hl1 (onlyB_setRow _ _ _)
        refine wpAnyD_one 12 (by kernel_rfl) rfl (fun KK hK => ?_)
        rw [if_pos (show Region.wanted _ _ = true from rfl)]
        refine wp_store_row 102 _ _ rfl v1.heap.size cs1.toArray rfl rfl 102 _ kh1 sC (by rw [List.size_toArray, List.size_toArray, hcl1]; rfl) hco' ?_
        refine hK.out _ _ (fun _ => HCS.out _ E9.1) ?_
        clear hK KK
        refine wpAnyD_one 13 (by kernel_rfl) rfl (fun KK hK => ?_)
        rw [if_pos (show Region.wanted _ _ = true from rfl)]
        go_wp2_with fail
        refine hK.out _ _ (fun h => absurd h (by decide)) ?_
        clear hK KK
        refine wpAnyD_done (by kernel_rfl) ?_ _
        have F9 : Hid _ := HFIN.out _ E9.1 E9.2
        clear E9 kh1 of1 sf1 hco1 HEND HIN HDP HCS HKB HFIN
        cases r with
        | true =>
          go_wp2_with fail
          go_ret2
          exact F9.out
        | false =>
          go_wp2_with fail
          go_ret2
          exact F9.out
      · rw [if_pos (show Region.wanted _ _ = true from rfl)]
        go_wp2_with fail
        have q9 : Below u1.heap.size u1 (u1.alloc (Obj.cells hoZ.toArray 102)) := (Below.refl _ _).alloc (Nat.le_refl _) _
        have hz9 := o61.size
        have ck9 := HCS.out (u1.alloc (Obj.cells hoZ.toArray 102)) ((o61.below (by omega) (fun k e => by omega)).trans (q9.mono (by omega)))
        have o69 : OnlyS (fun k => k = mc) W6 (u1.alloc (Obj.cells hoZ.toArray 102)) := o61.trans (OnlyS.ofBelow q9)
        have C9 : CS (pgD K) W5 (mc + 1) mc (woC d K g mc root) (u1.alloc (Obj.cells hoZ.toArray 102)) := HKB.out _ _ C1 (by omega) q9
        have kh9 : Blk (u1.alloc (Obj.cells hoZ.toArray 102)) 102 u1.heap.size hoZ := blk_new u1 _ _
        have hl9 : mc + 1 + 1 ≤ u1.heap.size := by omega
        refine hK.out _ _ (fun _ => ck9) ?_
        clear hK KK
        refine wpAnyD_one 7 (by kernel_rfl) rfl (fun KK hK => ?_)
        rw [if_pos (show Region.wanted _ _ = true from rfl)]
        have HI := HIN.out (u1.alloc (Obj.cells hoZ.toArray 102)) o69 C9
        unfold supC at HI
        go_wp2_with fail
        refine HI.mono ?_
        rintro e v2 ⟨o2, s2, cs2, hcl2, hco2, rfl⟩
        have of2 : OnlyS (fun k => k = mc) W6 v2 := o69.trans o2
        have kh2 : Blk v2 102 u1.heap.size hoZ := Blk.onlyS kh9 o2 (fun e => by omega)
        have ck2 := HCS.out v2 (of2.below (by omega) (fun k e => by omega))
        have hl2 := hl9
        have sf2 := s2
        refine hK.out _ _ (fun _ => ck2) ?_
        clear hK KK
        refine wpAnyD_takeT 8 24 (v := ?vvg20) rfl rfl (by kernel_rfl) (by kernel_rfl) (by kernel_rfl) (by kernel_rfl) (fun _ _ _ h => h) (Or.inl ⟨by rfl, ?hyg20⟩) ck2 ?restg20
        case hyg20 => (intro w hSw; (try dsimp only at hSw); go_simp; try with_reducible rfl)
        simp only [Act.put, List.setIfInBounds_toArray, List.set_cons_zero, List.set_cons_succ]
        refine wpAnyD_takeT 9 33 (v := ?vvg21) rfl rfl (by kernel_rfl) (by kernel_rfl) (by kernel_rfl) (by kernel_rfl) (fun _ _ _ h => h) (Or.inl ⟨by rfl, ?hyg21⟩) ck2 ?restg21
        case hyg21 => (intro w hSw; (try dsimp only at hSw); go_simp; try with_reducible rfl)
        simp only [Act.put, List.setIfInBounds_toArray, List.set_cons_zero, List.set_cons_succ]
        refine wpAnyD_takeT 10 34 (v := ?vvg22) rfl rfl (by kernel_rfl) (by kernel_rfl) (by kernel_rfl) (by kernel_rfl) (fun _ _ _ h => h) (Or.inl ⟨by rfl, ?hyg22⟩) ck2 ?restg22
        case hyg22 => (intro w hSw; (try dsimp only at hSw); go_simp; try with_reducible rfl)
        simp only [Act.put, List.setIfInBounds_toArray, List.set_cons_zero, List.set_cons_succ]
        have sC : (Tryz.prog.info? 102).map (·.size) = some cs2.toArray.size := by rw [List.size_toArray, hcl2]; exact sizeHo
        have hco' := all_one hco2
        have E9 := HEND.out v2 (v2.setRow u1.heap.size cs2.toArray) u1.heap.size hoZ [] of2 sf2 kh2 hl2 (onlyB_setRow _ _ _)
        refine wpAnyD_one 12 (by kernel_rfl) rfl (fun KK hK => ?_)
        rw [if_pos (show Region.wanted _ _ = true from rfl)]
        refine wp_store_row 102 _ _ rfl u1.heap.size cs2.toArray rfl rfl 102 _ kh2 sC (by rw [List.size_toArray, List.size_toArray, hcl2]; rfl) hco' ?_
        refine hK.out _ _ (fun _ => HCS.out _ E9.1) ?_
        clear hK KK
        refine wpAnyD_one 13 (by kernel_rfl) rfl (fun KK hK => ?_)
        rw [if_pos (show Region.wanted _ _ = true from rfl)]
        go_wp2_with fail
        refine hK.out _ _ (fun h => absurd h (by decide)) ?_
        clear hK KK
        refine wpAnyD_done (by kernel_rfl) ?_ _
        have F9 : Hid _ := HFIN.out _ E9.1 E9.2
        clear E9 kh2 of2 sf2 hco2 HEND HIN HDP HCS HKB HFIN
        cases r with
        | true =>
          go_wp2_with fail
          go_ret2
          exact F9.out
        | false =>
          go_wp2_with fail
          go_ret2
          exact F9.out
    · rw [if_pos (show Region.wanted _ _ = true from rfl)]
      go_wp2_with fail
      have q9 : Below W6.drew.heap.size W6.drew (W6.drew.alloc (Obj.cells hoZ.toArray 102)) := (Below.refl _ _).alloc (Nat.le_refl _) _
      have o69 : OnlyS (fun k => k = mc) W6 (W6.drew.alloc (Obj.cells hoZ.toArray 102)) := (OnlyS.ofBelow dd).trans (OnlyS.ofBelow q9)
      have hz9 := o69.size
      have ck9 := HCS.out (W6.drew.alloc (Obj.cells hoZ.toArray 102)) (o69.below (by omega) (fun k e => by omega))
      have C9 : CS (pgD K) W5 (mc + 1) mc (woC d K g mc root) (W6.drew.alloc (Obj.cells hoZ.toArray 102)) := HKB.out _ _ C6.out (show mc + 1 + 1 ≤ W6.heap.size by omega) q9
      have kh9 : Blk (W6.drew.alloc (Obj.cells hoZ.toArray 102)) 102 W6.heap.size hoZ := blk_new W6.drew _ _
      have hl9 : mc + 1 + 1 ≤ W6.heap.size := by omega
      refine hK.out _ _ (fun _ => ck9) ?_
      clear hK KK
      refine wpAnyD_one 4 (by kernel_rfl) rfl (fun KK hK => ?_)
      rw [if_pos (show Region.wanted _ _ = true from rfl)]
      have DP := HDP.out (W6.drew.alloc (Obj.cells hoZ.toArray 102))
      go_wp2_with fail
      refine DP.mono ?_
      rintro e u3 ⟨rfl, b3⟩
      have hz3 := b3.size
      have o63 : OnlyS (fun k => k = mc) W6 u3 := o69.trans (OnlyS.ofBelow b3)
      have C3 : CS (pgD K) W5 (mc + 1) mc (woC d K g mc root) u3 := HKB.out _ _ C9 (by omega) b3
      have kh3 := kh9.below b3
      have ck3 := HCS.out u3 (o63.below (by omega) (fun k e => by omega))
      refine hK.out _ _ (fun _ => ck3) ?_
      clear hK KK kh9
      refine wpAnyD_one 7 (by kernel_rfl) rfl (fun KK hK => ?_)
      rw [if_pos (show Region.wanted _ _ = true from rfl)]
      have HI := HIN.out u3 o63 C3
      unfold supC at HI
      go_wp2_with fail
      refine HI.mono ?_
      rintro e v4 ⟨o4, s4, cs4, hcl4, hco4, rfl⟩
      have of4 : OnlyS (fun k => k = mc) W6 v4 := o63.trans o4
      have kh4 : Blk v4 102 W6.heap.size hoZ := Blk.onlyS kh3 o4 (fun e => by omega)
      have ck4 := HCS.out v4 (of4.below (by omega) (fun k e => by omega))
      have hl4 := hl9
      have sf4 := s4
      refine hK.out _ _ (fun _ => ck4) ?_
      clear hK KK
      refine wpAnyD_takeT 8 24 (v := ?vvg40) rfl rfl (by kernel_rfl) (by kernel_rfl) (by kernel_rfl) (by kernel_rfl) (fun _ _ _ h => h) (Or.inl ⟨by rfl, ?hyg40⟩) ck4 ?restg40
      case hyg40 => (intro w hSw; (try dsimp only at hSw); go_simp; try with_reducible rfl)
      simp only [Act.put, List.setIfInBounds_toArray, List.set_cons_zero, List.set_cons_succ]
      refine wpAnyD_takeT 9 33 (v := ?vvg41) rfl rfl (by kernel_rfl) (by kernel_rfl) (by kernel_rfl) (by kernel_rfl) (fun _ _ _ h => h) (Or.inl ⟨by rfl, ?hyg41⟩) ck4 ?restg41
      case hyg41 => (intro w hSw; (try dsimp only at hSw); go_simp; try with_reducible rfl)
      simp only [Act.put, List.setIfInBounds_toArray, List.set_cons_zero, List.set_cons_succ]
      refine wpAnyD_takeT 10 34 (v := ?vvg42) rfl rfl (by kernel_rfl) (by kernel_rfl) (by kernel_rfl) (by kernel_rfl) (fun _ _ _ h => h) (Or.inl ⟨by rfl, ?hyg42⟩) ck4 ?restg42
      case hyg42 => (intro w hSw; (try dsimp only at hSw); go_simp; try with_reducible rfl)
      simp only [Act.put, List.setIfInBounds_toArray, List.set_cons_zero, List.set_cons_succ]
      have sC : (Tryz.prog.info? 102).map (·.size) = some cs4.toArray.size := by rw [List.size_toArray, hcl4]; exact sizeHo
      have hco' := all_one hco4
      have E9 := HEND.out v4 (v4.setRow W6.heap.size cs4.toArray) W6.heap.size hoZ [] of4 sf4 kh4 hl4 (onlyB_setRow _ _ _)
      refine wpAnyD_one 12 (by kernel_rfl) rfl (fun KK hK => ?_)
      rw [if_pos (show Region.wanted _ _ = true from rfl)]
      refine wp_store_row 102 _ _ rfl W6.heap.size cs4.toArray rfl rfl 102 _ kh4 sC (by rw [List.size_toArray, List.size_toArray, hcl4]; rfl) hco' ?_
      refine hK.out _ _ (fun _ => HCS.out _ E9.1) ?_
      clear hK KK
      refine wpAnyD_one 13 (by kernel_rfl) rfl (fun KK hK => ?_)
      rw [if_pos (show Region.wanted _ _ = true from rfl)]
      go_wp2_with fail
      refine hK.out _ _ (fun h => absurd h (by decide)) ?_
      clear hK KK
      refine wpAnyD_done (by kernel_rfl) ?_ _
      have F9 : Hid _ := HFIN.out _ E9.1 E9.2
      clear E9 kh4 of4 sf4 hco4 HEND HIN HDP HCS HKB HFIN
      cases r with
      | true =>
        go_wp2_with fail
        go_ret2
        exact F9.out
      | false =>
        go_wp2_with fail
        go_ret2
        exact F9.out
end Go.Proofs.YtglbanolhhjjiaaGreatDoor

namespace Go.Proofs.YtglbanolhhjjiaaGreatDoor
open Go.RowKit

def supBody (gen root used free : Int) : List Int := num gen 8 ++ num root 4 ++ (num used 4 ++ num free 4)
theorem supBody_len (gen root used free : Int) : (supBody gen root used free).length = 20 := by simp [supBody, num_len]
theorem supBody_isB (gen root used free : Int) : IsB (supBody gen root used free) := isB_append (isB_append (num_isB _ _) (num_isB _ _)) (isB_append (num_isB _ _) (num_isB _ _))

/-- 'append(s, x...)' as one step of a region that draws its order. -/
theorem step_app {w : World} {ops : Array Oper} {o : Oper} {act : Act} {K : Act → World → Prop} {Q : Exit → Act → World → Prop} {E : Prop} (hgd : o.guard = none) (s x : Operand)
    (ho : o.op = .call { callee := .builtin .append, args := #[s, x], argTypes := #[56, 56] })
    (B : Nat) (a : Option Addr) (n c : Nat) (xs : List Int) (hs : act.eval s = .slice a n c) (hown : Own B w a n c xs)
    (g m d : Nat) (l : List Int) (hx : act.eval x = .slice (some ⟨g, 0, none⟩) m d) (hl : Bs w (some ⟨g, 0, none⟩) m d l) (hlen : n + m ≤ 140737488355328) (hB : B ≤ w.heap.size)
    (h : ∀ a' c' w', Own B w' a' (n + m) c' (xs ++ l) → Below B w w' → K (act.put o.dst (.slice a' (n + m) c')) w') :
    if Region.wanted o (yielded ops act.tmps) = true then Oper.wp Tryz.prog o act w K Q else E := by
  have hw : Region.wanted o (yielded ops act.tmps) = true := by simp [Region.wanted, hgd]
  rw [if_pos hw]
  obtain ⟨i, hi, hz0, hz1, hz2⟩ := info_parts info5
  refine wp_append_own w s x _ ho B 5 i _ 1 1 Tryz.underlying56 hi hz0 hz1 hz2 rfl (by omega) _ n (ob xs) hs hown ⟨g, 0, none⟩ m d (ob l) hx (by simp [ob, hl.len_eq]) ?_ (ob_oneCell l) (by unfold maxLen; omega) (by omega) hB ?_
  · intro j u hj
    have hjl : j < l.length := by have := (List.getElem?_eq_some_iff.1 hj).1; simpa [ob] using this
    obtain ⟨b1, off, e, _, hc⟩ := hl.at_ (by have := hl.len_eq; omega)
    cases e
    rw [ob_getElem? l j hjl] at hj
    rw [Addr.add_lit, hc j (by have := hl.len_eq; omega)]
    exact hj
  · intro v' w' ho' hg' _
    have e : ob xs ++ ob l = ob (xs ++ l) := by simp [ob]
    rw [e] at ho'
    have hv : ∃ a' c', v' = .slice a' (n + m) c' := by
      rcases ho'.2 with ⟨rfl, h0⟩ | ⟨g, cap, cur, rfl, _⟩
      · exact ⟨none, 0, by rw [h0]⟩
      · exact ⟨_, _, rfl⟩
    obtain ⟨a', c', rfl⟩ := hv
    exact h a' c' w' ho' ((Below.refl _ _).grown hg' hB (fun k hk => (hown.lt k hk).1))

theorem l2Num_some (v : Int) (k : Nat) (w : World) (h0 : 0 ≤ v) (h1 : v ≤ 9223372036854775807) (hk : k ≤ 8) (hk0 : 0 < k) :
    Calls Tryz.prog 128 #[.int .i64 v, .int .i64 k] w fun e w' => ∃ g c, e = .returned (.slice (some ⟨g, 0, none⟩) k c) ∧ Below w.heap.size w w' ∧ Own w.heap.size w' (some ⟨g, 0, none⟩) k c (num v k) := by
  refine (l2Num_calls v k w h0 h1 hk).mono ?_
  rintro e w' ⟨a, c, rfl, b, o⟩
  obtain ⟨g, rfl, _⟩ := (show ∃ g, a = some ⟨g, 0, none⟩ ∧ w.heap.size ≤ g by
    rcases o.2 with ⟨e, h0⟩ | ⟨g, cap, cur, e, hg, _⟩
    · omega
    · cases e
      exact ⟨g, rfl, hg⟩)
  exact ⟨g, c, rfl, b, o⟩

theorem undrew {B : Nat} {w w' : World} (h : Below B w.drew w') : Below B w w' := ⟨h.os, h.tape, h.output, h.size, h.block⟩

/-- The cells of a box of four. -/
theorem box4 {B : Nat} {w wx w1 : World} {v0 v1 v2 v3 : Value} {t : TypeId} (b : Below B wx w1) (hB : w.heap.size < B) (h0 : wx.heap = (w.alloc (.cells #[v0, v1, v2, v3] t)).heap) :
    w1.cell? ⟨w.heap.size, 0, none⟩ = some v0 ∧ w1.cell? ⟨w.heap.size, 1, none⟩ = some v1 ∧ w1.cell? ⟨w.heap.size, 2, none⟩ = some v2 ∧ w1.cell? ⟨w.heap.size, 3, none⟩ = some v3 := by
  have key : ∀ o, w1.cell? ⟨w.heap.size, o, none⟩ = (w.alloc (.cells #[v0, v1, v2, v3] t)).cell? ⟨w.heap.size, o, none⟩ := fun o => by
    rw [b.cell (p := ⟨w.heap.size, o, none⟩) hB]
    exact World.cell?_of_block (by rw [h0])
  refine ⟨?_, ?_, ?_, ?_⟩ <;> rw [key] <;> simp
/-- .. that was kept. -/
theorem keep4 {B : Nat} {w w1 w2 : World} {v0 v1 v2 v3 : Value} (k : w1.cell? ⟨w.heap.size, 0, none⟩ = some v0 ∧ w1.cell? ⟨w.heap.size, 1, none⟩ = some v1 ∧ w1.cell? ⟨w.heap.size, 2, none⟩ = some v2 ∧ w1.cell? ⟨w.heap.size, 3, none⟩ = some v3) (b : Below B w1 w2) (hB : w.heap.size < B) :
    w2.cell? ⟨w.heap.size, 0, none⟩ = some v0 ∧ w2.cell? ⟨w.heap.size, 1, none⟩ = some v1 ∧ w2.cell? ⟨w.heap.size, 2, none⟩ = some v2 ∧ w2.cell? ⟨w.heap.size, 3, none⟩ = some v3 := by
  refine ⟨?_, ?_, ?_, ?_⟩ <;> rw [b.cell (p := ⟨w.heap.size, _, none⟩) hB]
  · exact k.1
  · exact k.2.1
  · exact k.2.2.1
  · exact k.2.2.2

set_option maxRecDepth 100000 in
set_option maxHeartbeats 4000000 in
theorem l2SuperBody_calls (gen root used free : Int) (w : World) (g0 : 0 ≤ gen) (g1 : gen ≤ 1000000000000) (r0 : 0 ≤ root) (r1 : root ≤ 1024) (u0 : 0 ≤ used) (u1 : used ≤ 1024) (f0 : 0 ≤ free) (f1 : free ≤ 1024) :
    Calls Tryz.prog 94 #[.agg #[.int .i64 gen, .int .i64 root, .int .i64 used, .int .i64 free]] w fun e w' => ∃ a c, e = .returned (.slice a 20 c) ∧ Below w.heap.size w w' ∧ Own w.heap.size w' a 20 c (supBody gen root used free) := by
  go_enter Tryz.func94, Tryz.ntmps94
  go_wp2_with fail
  go_cut [3] (fun s3 wx => ∃ a3 c3, s3 = .slice a3 12 c3 ∧ Below w.heap.size w wx ∧ w.heap.size + 1 ≤ wx.heap.size ∧ Own (w.heap.size + 1) wx a3 12 c3 (num gen 8 ++ num root 4) ∧ wx.cell? ⟨w.heap.size, 0, none⟩ = some (.int .i64 gen) ∧ wx.cell? ⟨w.heap.size, 1, none⟩ = some (.int .i64 root) ∧ wx.cell? ⟨w.heap.size, 2, none⟩ = some (.int .i64 used) ∧ wx.cell? ⟨w.heap.size, 3, none⟩ = some (.int .i64 free))
  case first =>
    go_region_law (first
      | (refine step_app rfl _ _ rfl (w.heap.size + 1) _ 8 c1 (num gen 8) rfl (o1.below b2) g2 4 c2 (num root 4) rfl (o2.bs (num_isB _ _)) (by omega) (by omega) ?_; intro a3 c3 w3 o3 b3)
      | (rw [if_pos (show Region.wanted _ _ = true from rfl)]; go_wp2_with (first
        | (go_at_call_of 128 gen; refine (l2Num_some gen 8 _ g0 (by omega) (by omega) (by omega)).mono ?_; rintro e w1 ⟨g1, c1, rfl, b1, o1⟩; simp only [World.size_drew, World.size_alloc] at b1 o1; obtain ⟨k0, k1, k2, k3⟩ := box4 (w := w) (v0 := .int .i64 gen) (v1 := .int .i64 root) (v2 := .int .i64 used) (v3 := .int .i64 free) (t := 36) b1 (Nat.lt_succ_self _) rfl; have z1 := b1.size; simp only [World.size_drew, World.size_alloc] at z1)
        | (go_at_call_of 128 root; refine (l2Num_some root 4 _ r0 (by omega) (by omega) (by omega)).mono ?_; rintro e w2 ⟨g2, c2, rfl, b2, o2⟩; have z2 := b2.size))))
    all_goals
      have kk := keep4 (w := w) (keep4 (w := w) ⟨k0, k1, k2, k3⟩ b2 (by omega)) b3 (by omega)
      have q3 : Below w.heap.size w w3 := (((Below.refl _ _).alloc (Nat.le_refl _) _).drew.trans (b1.mono (Nat.le_succ _))).trans ((b2.mono (by omega)).trans (b3.mono (Nat.le_succ _)))
      have z3 : w.heap.size + 1 ≤ w3.heap.size := by have := b3.size; omega
      have KK : Hid _ := kk
      clear b1 b2 b3 o1 o2 z1 z2 k0 k1 k2 k3 kk
      go_wp2_with fail
      go_meet
      exact ⟨a3, c3, rfl, q3, z3, o3, KK.out⟩
  case rest =>
  obtain ⟨a3, c3, rfl, q3, z3, o3, k0, k1, k2, k3⟩ := hcut
  have tok1 : True := trivial
  go_wp2_with fail
  go_region_law (first
    | (have _t := tok1; refine step_app rfl _ _ rfl (w.heap.size + 1) a3 12 c3 (num gen 8 ++ num root 4) rfl ?_ g4 4 c4 (num used 4) rfl ?_ ?_ ?_ ?_; exact o3.below b4; exact o4.bs (num_isB _ _); omega; omega; intro a5 c5 w5 o5 b5; have z5 := b5.size; have o5h : Own (w.heap.size + 1) w5 a5 16 c5 (num gen 8 ++ num root 4 ++ num used 4) := (by simpa using o5); obtain ⟨t0, t1, t2, t3⟩ := keep4 (w := w) ⟨p0, p1, p2, p3⟩ b5 (by omega); clear tok1 _t)
    | (have _u := b6; refine step_app rfl _ _ rfl (w.heap.size + 1) a5 16 c5 (num gen 8 ++ num root 4 ++ num used 4) rfl ?_ g6 4 c6 (num free 4) rfl ?_ ?_ ?_ ?_; exact o5h.below b6; exact o6.bs (num_isB _ _); omega; omega; intro a7 c7 w7 o7 b7; clear _u)
    | (rw [if_pos (show Region.wanted _ _ = true from rfl)]; go_wp2_with (first
      | (go_at_call_of 128 used; refine (l2Num_some used 4 _ u0 (by omega) (by omega) (by omega)).mono ?_; rintro e w4 ⟨g4, c4, rfl, b4, o4⟩; simp only [World.size_drew] at b4 o4; replace b4 := undrew b4; have z4 := b4.size; obtain ⟨p0, p1, p2, p3⟩ := keep4 (w := w) ⟨k0, k1, k2, k3⟩ b4 (by omega))
      | (go_at_call_of 128 free; refine (l2Num_some free 4 _ f0 (by omega) (by omega) (by omega)).mono ?_; rintro e w6 ⟨g6, c6, rfl, b6, o6⟩; have z6 := b6.size))))
  all_goals
    have q7 : Below w.heap.size w w7 := q3.trans (((b4.mono (by omega)).trans (b5.mono (Nat.le_succ _))).trans ((b6.mono (by omega)).trans (b7.mono (Nat.le_succ _))))
    have o7h : Own w.heap.size w7 a7 20 c7 (supBody gen root used free) := by
      have := o7.mono (Nat.le_succ _)
      simpa [supBody] using this
    clear b4 b5 b6 b7 o7 o6 o5 o5h o4 o3 k0 k1 k2 k3 p0 p1 p2 p3 t0 t1 t2 t3 q3
    go_wp2
    go_ret
    exact ⟨a7, c7, rfl, q7, o7h⟩
end Go.Proofs.YtglbanolhhjjiaaGreatDoor

/- Numbers of seven and of eight bytes. -/
namespace Go.Proofs.YtglbanolhhjjiaaGreatDoor
open Go.RowKit
set_option linter.unusedVariables false

set_option maxHeartbeats 1000000 in
theorem l2Low7_calls (a : Option Addr) (n c : Nat) (l : List Int) (w : World) (h : Bs w a n c l) (hn : n ≤ 7) :
    Calls Tryz.prog 108 #[.slice a n c] w fun e w' => e = .returned (.int .i64 (low l)) ∧ w' = w := by
  have HB : Hid (∀ k, 0 < k → 0 ≤ low (l.drop k) ∧ low (l.drop k) ≤ 281474976710656) := fun k hk => by
    have h1 := low_bd (isB_drop h.byte k)
    have h2 : (l.drop k).length ≤ 6 := by rw [List.length_drop, h.len_eq]; omega
    have h3 := pow6 _ h2
    exact ⟨h1.1, by omega⟩
  have HE : Hid (low (l.drop n) = 0) := by
    have : l.drop n = [] := by rw [List.drop_eq_nil_iff, h.len_eq]; exact Nat.le_refl _
    show low (l.drop n) = 0
    rw [this]; rfl
  go_enter Tryz.func108, Tryz.ntmps108
  go_wp2
  go_loop [3, 4] (fun v i => ∃ j : Nat, j ≤ n ∧ i = .int .i64 ((j : Int) - 1) ∧ v = .int .i64 (low (l.drop j))) (fun _ i => (intOf i + 1).toNat)
  case atStart => exact ⟨n, Nat.le_refl _, rfl, by rw [HE.out]⟩
  case round =>
    obtain ⟨j, hj, rfl, rfl⟩ := hrel
    by_cases h0 : 0 < j
    · obtain ⟨b, off, rfl, hbl, hc⟩ := h.at_ (by omega)
      obtain ⟨i, rfl⟩ : ∃ i, j = i + 1 := ⟨j - 1, by omega⟩
      have hci := hc i (by omega)
      have hbi := h.byte i
      have LD : Hid _ := low_drop l i (by rw [h.len_eq]; omega)
      have hb1 := HB.out (i + 1) (by omega)
      have e1 : ((i + 1 : Nat) : Int) - 1 = (i : Int) := by omega
      rw [e1]
      have hi1 : (0 : Int) ≤ (i : Int) := by omega
      have hi2 : (i : Int) < (n : Int) := by omega
      generalize low (l.drop (i + 1)) = X at *
      generalize l.getD i 0 = y at *
      clear hc h
      go_wp2
      go_round
      case rel => exact ⟨i, by omega, by go_num, by rw [LD.out]; congr 1; omega⟩
      case measure => simp [intOf]
    · have e : j = 0 := by omega
      subst e
      go_wp2
      go_ret
      exact ⟨rfl, rfl⟩

theorem i64_or_nat2 (a b : Nat) (ha : a < 281474976710657) (hb : b < 256) : bits .or .i64 ((a : Int) * 256) (b : Int) = (a : Int) * 256 + b := by
  rw [show (a : Int) * 256 = ((a * 256 : Nat) : Int) by omega, show ((a * 256 : Nat) : Int) + (b : Int) = ((a * 256 + b : Nat) : Int) by omega]
  have e : a * 256 ||| b = a * 256 + b := by
    have := Nat.shiftLeft_add_eq_or_of_lt (i := 8) (b := b) (by omega) a
    rw [Nat.shiftLeft_eq] at this
    exact this.symm
  show IntKind.i64.wrap ((BitVec.ofInt 64 ((a * 256 : Nat) : Int) ||| BitVec.ofInt 64 (b : Int)).toNat : Int) = _
  rw [BitVec.toNat_or, ofInt_u64 (a * 256) (by omega), ofInt_u64 b (by omega), e]
  simp [IntKind.wrap, IntKind.bits, IntKind.signed]
  omega

theorem i64_or_wrap (x y : Nat) (hx : x < 72057594037927936) (hy : y < 256) : bits .or .i64 (IntKind.i64.wrap ((x : Int) * 256)) (y : Int) = IntKind.i64.wrap ((x : Int) * 256 + y) := by
  have e : x * 256 ||| y = x * 256 + y := by
    have := Nat.shiftLeft_add_eq_or_of_lt (i := 8) (b := y) (by omega) x
    rw [Nat.shiftLeft_eq] at this
    exact this.symm
  have e1 : (BitVec.ofInt 64 (IntKind.i64.wrap ((x : Int) * 256))).toNat = x * 256 := by
    simp [IntKind.wrap, IntKind.bits, IntKind.signed, BitVec.toNat_ofInt]
    omega
  show IntKind.i64.wrap ((BitVec.ofInt 64 (IntKind.i64.wrap ((x : Int) * 256)) ||| BitVec.ofInt 64 (y : Int)).toNat : Int) = _
  rw [BitVec.toNat_or, e1, ofInt_u64 y (by omega), e]
  congr 1

theorem wrap_is (z : Int) : IntKind.i64.wrap z = wrap64 z := by
  unfold wrap64
  simp [IntKind.wrap, IntKind.bits, IntKind.signed]
  omega

/-- What numberOf says of eight bytes. -/
def num8 (l : List Int) : Int := IntKind.i64.wrap (low (l.drop 1) * 256 + l.getD 0 0)
theorem num8_is {l : List Int} (hB : IsB l) (hl : l.length = 8) : (l.getD 7 0 = 0 → num8 l = low (l.take 7)) ∧ (l.getD 7 0 ≠ 0 → num8 l < 1 ∨ 1000000000000 < num8 l) := by
  obtain ⟨x0, x1, x2, x3, x4, x5, x6, x7, rfl⟩ : ∃ x0 x1 x2 x3 x4 x5 x6 x7, l = [x0, x1, x2, x3, x4, x5, x6, x7] := by
    match l, hl with
    | [x0, x1, x2, x3, x4, x5, x6, x7], _ => exact ⟨x0, x1, x2, x3, x4, x5, x6, x7, rfl⟩
  have b0 := hB 0
  have b1 := hB 1
  have b2 := hB 2
  have b3 := hB 3
  have b4 := hB 4
  have b5 := hB 5
  have b6 := hB 6
  have b7 := hB 7
  simp at b0 b1 b2 b3 b4 b5 b6 b7
  have e : num8 [x0, x1, x2, x3, x4, x5, x6, x7] = IntKind.i64.wrap ((x1 + 256 * (x2 + 256 * (x3 + 256 * (x4 + 256 * (x5 + 256 * (x6 + 256 * x7)))))) * 256 + x0) := by simp [num8, low]
  rw [e]
  constructor
  · intro h7
    simp at h7
    subst h7
    simp [low, IntKind.wrap, IntKind.bits, IntKind.signed]
    omega
  · intro h7
    simp at h7
    simp [IntKind.wrap, IntKind.bits, IntKind.signed]
    omega

theorem pow7 (m : Nat) (h : m ≤ 7) : (256 : Int) ^ m ≤ 72057594037927936 := by
  have k : ∀ m : Fin 8, (256 : Int) ^ (m : Nat) ≤ 72057594037927936 := by decide
  exact k ⟨m, by omega⟩

set_option maxHeartbeats 1000000 in
theorem numberOf8_calls (a : Option Addr) (c : Nat) (l : List Int) (w : World) (h : Bs w a 8 c l) :
    Calls Tryz.prog 121 #[.slice a 8 c] w fun e w' => e = .returned (.int .i64 (num8 l)) ∧ w' = w := by
  have HB : Hid (∀ k, 0 < k → 0 ≤ low (l.drop k) ∧ low (l.drop k) < 72057594037927936) := fun k hk => by
    have h1 := low_bd (isB_drop h.byte k)
    have h2 : (l.drop k).length ≤ 7 := by rw [List.length_drop, h.len_eq]; omega
    have h3 := pow7 _ h2
    exact ⟨h1.1, by omega⟩
  have HB2 : Hid (∀ k, 1 < k → low (l.drop k) < 281474976710656 + 1) := fun k hk => by
    have h1 := low_bd (isB_drop h.byte k)
    have h2 : (l.drop k).length ≤ 6 := by rw [List.length_drop, h.len_eq]; omega
    have h3 := pow6 _ h2
    omega
  have HE : Hid (low (l.drop 8) = 0) := by
    have : l.drop 8 = [] := by rw [List.drop_eq_nil_iff, h.len_eq]; exact Nat.le_refl _
    show low (l.drop 8) = 0
    rw [this]; rfl
  obtain ⟨b, off, rfl, hbl, hc⟩ := h.at_ (by omega)
  go_enter Tryz.func121, Tryz.ntmps121
  go_wp2
  go_loop [3, 4] (fun v i => ∃ j : Nat, j ≤ 8 ∧ i = .int .i64 ((j : Int) - 1) ∧ (0 < j → v = .int .i64 (low (l.drop j))) ∧ (j = 0 → v = .int .i64 (num8 l))) (fun _ i => (intOf i + 1).toNat)
  case atStart => exact ⟨8, Nat.le_refl _, rfl, fun _ => by rw [HE.out], fun h => by omega⟩
  case round =>
    obtain ⟨j, hj, rfl, hv, hv0⟩ := hrel
    by_cases h0 : 0 < j
    · obtain rfl := hv h0
      obtain ⟨i, rfl⟩ : ∃ i, j = i + 1 := ⟨j - 1, by omega⟩
      have hci := hc i (by omega)
      have hbi := h.byte i
      have LD : Hid _ := low_drop l i (by rw [h.len_eq]; omega)
      have hb1 := HB.out (i + 1) (by omega)
      have e1 : ((i + 1 : Nat) : Int) - 1 = (i : Int) := by omega
      rw [e1]
      have hi1 : (0 : Int) ≤ (i : Int) := by omega
      have hi2 : (i : Int) < 8 := by omega
      by_cases hi0 : i = 0
      · subst hi0
        have N8 : Hid (num8 l = IntKind.i64.wrap (low (l.drop 1) * 256 + l.getD 0 0)) := rfl
        generalize low (l.drop (0 + 1)) = X at *
        generalize l.getD 0 0 = y at *
        obtain ⟨x, rfl⟩ := Int.eq_ofNat_of_zero_le hb1.1
        obtain ⟨y, rfl⟩ := Int.eq_ofNat_of_zero_le hbi.1
        have ho := i64_or_wrap x y (by omega) (by omega)
        rw [wrap_is ((x : Int) * 256)] at ho
        have HO : Hid _ := ho
        simp only [Nat.add_zero] at hci
        clear hc h ho hv hv0 HB2
        go_wp2
        go_round
        case rel => exact ⟨0, by omega, by go_num, fun h => by omega, fun _ => by rw [N8.out, HO.out]⟩
        case measure => simp [intOf]
      · have hb2 := HB2.out (i + 1) (by omega)
        generalize low (l.drop (i + 1)) = X at *
        generalize l.getD i 0 = y at *
        obtain ⟨x, rfl⟩ := Int.eq_ofNat_of_zero_le hb1.1
        obtain ⟨y, rfl⟩ := Int.eq_ofNat_of_zero_le hbi.1
        have ho := i64_or_nat2 x y (by omega) (by omega)
        clear hc h
        have HO : Hid _ := ho
        clear ho hv hv0 HB2
        go_wp2
        go_round
        case rel => exact ⟨i, by omega, by go_num, fun _ => by rw [LD.out, HO.out]; congr 1; omega, fun h => absurd h hi0⟩
        case measure => simp [intOf]
    · have e : j = 0 := by omega
      subst e
      obtain rfl := hv0 rfl
      go_wp2
      go_ret
      exact ⟨rfl, rfl⟩
end Go.Proofs.YtglbanolhhjjiaaGreatDoor

