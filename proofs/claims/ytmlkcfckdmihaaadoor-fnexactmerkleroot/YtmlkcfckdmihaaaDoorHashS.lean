/- The laws' own functions on rows of hashes. -/
import Derived.Test.YtmlkcfckdmihaaaDoorHRow
import Derived.Test.YtmlkcfckdmihaaaDoorHashFns
import Derived.Laws.CopyRow
namespace Go.Proofs.YtmlkcfckdmihaaaDoor
open Go.RowKit
set_option linter.unusedVariables false

/-- A whole array into the middle of a block. -/
theorem run_storeVar_at {P : Program} (w : World) (g off : Nat) (ty t : TypeId) (cur cs : List Value) (hg : Blk w t g cur) (hi : (P.info? ty).map (·.size) = some cs.length) (hfit : off + cs.length ≤ cur.length) (h1 : ∀ v ∈ cs, v.oneCell' = true) :
    (storeVar ty ⟨g, off, none⟩ (.agg cs.toArray)).run P w = .ok () (w.setRow g (cur.take off ++ cs ++ cur.drop (off + cs.length)).toArray) := by
  have := run_storeCells_at P g off t cs 0 cur.toArray w hg (by simpa using hfit) h1
  cases hq : P.info? ty with
  | none => simp [hq] at hi
  | some i =>
    have hs : cs.length = i.size := by simp [hq] at hi; omega
    simp only [Nat.add_zero] at this
    simp [storeVar, sizeOf, typeInfo, hq, Value.cells, hs]
    simpa [hs] using this
theorem wpList_store_at {P : Program} {ops : Array Oper} {rest : List Oper} {o : Oper} {a : Act} {w : World} {Q : Exit → Act → World → Prop} (hgd : o.guard = none) (ty : TypeId) (x y : Operand) (ho : o.op = .store ty x y)
    (g off : Nat) (cs : List Value) (hx : a.eval x = .pointer (some ⟨g, off, none⟩)) (hy : a.eval y = .agg cs.toArray) (t : TypeId) (cur : List Value) (hg : Blk w t g cur) (hi : (P.info? ty).map (·.size) = some cs.length) (hfit : off + cs.length ≤ cur.length) (h1 : ∀ v ∈ cs, v.oneCell' = true)
    (h : wpList P ops Q rest (a.put o.dst undef) (w.setRow g (cur.take off ++ cs ++ cur.drop (off + cs.length)).toArray)) : wpList P ops Q (o :: rest) a w :=
  wpList_plain hgd fun _ hK => by
    unfold Oper.wp execOp
    simp only [ho, hx, hy, Instr.storeAt, Instr.sureAddr, Sem.run_bind, Sem.run_pure, Result.andThen_ok, run_storeVar_at w g off ty t cur cs hg hi hfit h1]
    exact hK _ _ h

def zeroH : List Int := List.replicate 32 0
theorem zeroH_ok (n : Nat) : IsHs (fun _ => zeroH) n := ⟨fun _ _ => by simp [zeroH], fun _ _ => isB_rep 32⟩
theorem hrow_zero : ∀ n, hrow (fun _ => zeroH) n = List.replicate (n * 32) (.int .u8 0)
  | 0 => by simp [hrow]
  | n + 1 => by
    rw [hrow, hrow_zero n, Nat.add_mul, Nat.one_mul, ← List.replicate_append_replicate]
    simp [ob, zeroH]
theorem made_hrow (n : Nat) : (madeCells (ob zeroH).toArray (n * 32)).toList = hrow (fun _ => zeroH) n := by
  have e : ob zeroH = List.replicate 32 (.int .u8 0) := by
    unfold ob zeroH
    rw [List.map_replicate]
  rw [hrow_zero, e]
  generalize hx : Value.int .u8 0 = x
  apply List.ext_getElem
  · simp only [madeCells, Array.toList_map, List.length_map, Array.length_toList, Array.size_range, List.length_replicate]
  · intro i h1 h2
    have hm : i % 32 < 32 := Nat.mod_lt _ (by omega)
    rw [List.getElem_replicate]
    simp only [madeCells, Array.toList_map, List.getElem_map, Array.getElem_toList, Array.getElem_range, List.size_toArray, List.length_replicate]
    rw [getElem!_pos _ _ (by simpa using hm)]
    simp only [List.getElem_toArray, List.getElem_replicate]
/-- A row that is full lies in a block of its own. -/
theorem ohs_blk {B g n : Nat} {w : World} {xs : List Value} (h : w.ownsRow B 24 32 (.slice (some ⟨g, 0, none⟩) n n) n xs) : Blk w 24 g xs ∧ B ≤ g := by
  rcases h.2 with ⟨e, _⟩ | ⟨g', cap, cur, e, hg, hh, h1, h2, h3, h4⟩
  · cases e
  · cases e
    rw [List.take_of_length_le (by rw [Array.length_toList]; omega)] at h4
    subst h4
    exact ⟨by unfold Blk; rw [Array.toArray_toList]; exact hh, hg⟩
theorem blk_ohs {B g n : Nat} {w : World} {h : Nat → List Int} (hb : Blk w 24 g (hrow h n)) (ok : IsHs h n) (hB : B ≤ g) (hn : n ≤ 1048576) : OHs B w (some ⟨g, 0, none⟩) n n h := by
  have hl := hrow_len h n ok
  exact ⟨hl, Or.inr ⟨g, n, (hrow h n).toArray, rfl, hB, hb, Nat.le_refl _, by unfold maxLen; omega, by simpa using hl, List.take_of_length_le (by simp; omega)⟩⟩
/-- One element of a row is put in. -/
theorem hrow_put (f : Nat → List Int) (x : List Int) (hx : x.length = 32) : ∀ n j, j < n → IsHs f n → (hrow f n).take (j * 32) ++ ob x ++ (hrow f n).drop (j * 32 + 32) = hrow (updH f j x) n
  | 0, j, h, _ => by omega
  | n + 1, j, h, H => by
    have hl := hrow_len f n (H.mono (by omega))
    have ho : (ob (f n)).length = 32 := by rw [ob_length, H.len n (by omega)]
    by_cases e : j = n
    · subst e
      rw [hrow_updH, hrow, List.take_append_of_le_length (by omega), List.take_of_length_le (by omega), List.drop_eq_nil_of_le (by rw [List.length_append]; omega), List.append_nil]
    · have hm : (j + 1) * 32 ≤ n * 32 := Nat.mul_le_mul_right _ (by omega)
      rw [hrow, hrow, List.take_append_of_le_length (by omega), List.drop_append_of_le_length (by omega), ← List.append_assoc, hrow_put f x hx n j (by omega) (H.mono (by omega))]
      have : updH f j x n = f n := by simp [updH, Ne.symm e]
      rw [this]
theorem upd_ok {f : Nat → List Int} {x : List Int} {n j : Nat} (H : IsHs f n) (hl : x.length = 32) (hB : IsB x) : IsHs (updH f j x) n :=
  ⟨fun i hi => by by_cases e : i = j <;> simp [updH, e, hl] <;> exact H.len i hi, fun i hi => by
    by_cases e : i = j
    · simp only [updH, e, if_true]; exact hB
    · simp only [updH, e, if_false]; exact H.byte i hi⟩
def upToH (h : Nat → List Int) (j : Nat) : Nat → List Int := fun i => if i < j then h i else zeroH
theorem upToH_ok {h : Nat → List Int} {n : Nat} (H : IsHs h n) (j : Nat) : IsHs (upToH h j) n :=
  ⟨fun i hi => by unfold upToH; split; exact H.len i hi; simp [zeroH], fun i hi => by unfold upToH; split; exact H.byte i hi; exact isB_rep 32⟩
theorem upToH_succ (h : Nat → List Int) (j : Nat) : updH (upToH h j) j (h j) = upToH h (j + 1) := by
  funext i
  by_cases e : i = j
  · subst e; simp [updH, upToH]
  · by_cases h2 : i < j
    · simp [updH, upToH, e, h2, Nat.lt_succ_of_lt h2]
    · simp [updH, upToH, e, h2, show ¬ i < j + 1 by omega]

theorem sizeL : (Tryd.prog.info? 23).map (·.size) = some 32 := by kernel_rfl

set_option maxHeartbeats 1000000 in
set_option maxRecDepth 100000 in
theorem toHashS_calls (a : Option Addr) (n c : Nat) (h : Nat → List Int) (w : World) (H : RHs w a n c h) (hn : n ≤ 1048576) :
    Calls Tryd.prog 13 #[.slice a n c] w fun e w' => ∃ g, e = .returned (.slice (some ⟨g, 0, none⟩) n n) ∧ Below w.heap.size w w' ∧ OHs w.heap.size w' (some ⟨g, 0, none⟩) n n h := by
  obtain ⟨i, hi, hz0, hz1, hz2⟩ := info_parts infoH
  go_enter Tryd.func13, Tryd.ntmps13
  go_wp2_with (at_make; refine wpList_make_full _ rfl _ _ 33 rfl w.heap.size 24 i _ 32 Tryd.underlying33 hi hz0 hz1 _ _ _ _ n rfl rfl rfl rfl ?b1 ?b2 ?b3 ?_)
  case b1 => rw [hz2]; omega
  case b2 => unfold maxLen; omega
  case b3 => exact Nat.le_refl _
  clear hi hz0 hz1 hz2
  intro w1 hown hgr
  have hm : (madeCells (ob zeroH).toArray (n * 32)).toList = hrow (fun _ => zeroH) n := made_hrow n
  have hown2 : w1.ownsRow w.heap.size 24 32 (.slice (some ⟨w.heap.size, 0, none⟩) n n) n (hrow (fun _ => zeroH) n) := by rw [← hm]; exact hown
  obtain ⟨k1, _⟩ := ohs_blk hown2
  have b1 : Below w.heap.size w w1 := (Below.refl _ _).grown hgr (Nat.le_refl _) (fun _ e => by cases e)
  have HK : Hid _ := And.intro k1 b1
  clear hown hown2 hgr hm k1 b1
  go_wp2
  go_loopw [4] (fun i wr => ∃ j, j ≤ n ∧ i = .int .i64 (j : Nat) ∧ Below w.heap.size w wr ∧ Blk wr 24 w.heap.size (hrow (upToH h j) n)) (fun i _ => n - (intOf i).toNat)
  case atStart => exact ⟨0, Nat.zero_le _, rfl, HK.out.2, by rw [show upToH h 0 = fun _ => zeroH by funext i; simp [upToH]]; exact HK.out.1⟩
  case round =>
    obtain ⟨j, hj, rfl, hb, hk⟩ := hrel
    by_cases hlt : j < n
    · obtain ⟨b, off, rfl, hbl, hcc⟩ := H.at_ (by omega)
      have hl := H.ok.len j hlt
      have hcells := (H.below hb).cells j hlt
      have sL : (Tryd.prog.info? 23).map (·.size) = some (ob (h j)).length := by rw [ob_length, hl]; exact sizeL
      have sO : (Tryd.prog.info? 24).map (·.size) = some (ob (h j)).length := by rw [ob_length, hl]; exact sizeH
      have TC := fun w => toHash_calls (h j) w hl
      have hjn : (j : Int) < (n : Int) := by omega
      go_upto_region 5 with fail
      go_wp2_with (refine wpList_load_at rfl 23 _ rfl b (off + j * 32) rfl (ob (h j)) _ hcells Tryd.underlying23 rfl sL ?_)
      refine (TC _).mono ?_
      rintro e w2 ⟨rfl, b2⟩
      have k2 := hk.below b2
      have hlen := hrow_len (upToH h j) n (upToH_ok H.ok j)
      have hm2 : (j + 1) * 32 ≤ n * 32 := Nat.mul_le_mul_right _ (by omega)
      have hfit : j * 32 + (ob (h j)).length ≤ (hrow (upToH h j) n).length := by rw [ob_length, hl, hlen]; omega
      have hput := hrow_put (upToH h j) (h j) hl n j hlt (upToH_ok H.ok j)
      rw [upToH_succ] at hput
      have eP : (hrow (upToH h j) n).take (j * 32) ++ ob (h j) ++ (hrow (upToH h j) n).drop (j * 32 + (ob (h j)).length) = hrow (upToH h (j + 1)) n := by rw [ob_length, hl]; exact hput
      have k3 := k2.setRow (hrow (upToH h (j + 1)) n)
      have b3 : Below w.heap.size w (w2.setRow w.heap.size (hrow (upToH h (j + 1)) n).toArray) := (hb.trans (b2.mono hb.size)).trans ((onlyB_setRow w2 w.heap.size _).below (Nat.le_refl _) (Nat.le_trans hb.size b2.size))
      have HF : Hid _ := And.intro k3 b3
      clear k3 b3 hput hcells TC hb hk b2
      go_wp2_with (refine wpList_store_at rfl 24 _ _ rfl w.heap.size (j * 32) (ob (h j)) rfl rfl 24 _ k2 sO hfit (ob_oneCell _) ?_)
      go_roundw
      case rel => exact ⟨j + 1, by omega, by go_num, HF.out.2, HF.out.1⟩
      case measure => simp [intOf]; omega
    · have e : j = n := by omega
      subst e
      go_wp2
      go_ret
      have hk2 : Blk wr 24 w.heap.size (hrow h j) := by
        rw [← hrow_congr j (h := upToH h j) (fun i hi => by simp [upToH, hi])]
        exact hk
      exact ⟨w.heap.size, rfl, hb, blk_ohs hk2 H.ok (Nat.le_refl _) hn⟩

set_option maxHeartbeats 1000000 in
set_option maxRecDepth 100000 in
theorem szHashS_calls (a : Option Addr) (n c : Nat) (w : World) (hn : n ≤ 9223372036854775807) :
    Calls Tryd.prog 11 #[.slice a n c, .int .i64 1048576] w fun e w' => e = .returned (.int .i64 (if n ≤ 1048576 then (1048576 : Int) - n else -1)) ∧ w' = w := by
  by_cases h : n ≤ 1048576
  · have h' : ¬ ((1048576 : Int) - (n : Int) < 0) := by omega
    go_enter Tryd.func11, Tryd.ntmps11
    go_wp2
    go_ret
    exact ⟨by simp, rfl⟩
  · have h' : (1048576 : Int) - (n : Int) < 0 := by omega
    go_enter Tryd.func11, Tryd.ntmps11
    go_wp2
    go_ret
    exact ⟨by simp, rfl⟩
/-- A load, as what one operation yields. -/
theorem yield_load {P : Program} {w : World} {t : TypeId} {ρ : Operand → Value} {x : Operand} {o : Oper} {p v : Value} (ho : o.op = .load t x) (hx : ρ x = p) (h : (Instr.loadAt t p).run P w = .ok v w) : (execOp ρ o).run P w = .ok (.value v) w := by
  unfold execOp
  simp only [ho, hx, Sem.run_bind, h, Result.andThen_ok, Sem.run_pure]

set_option maxHeartbeats 1000000 in
set_option maxRecDepth 100000 in
theorem eqHashS_calls (a1 a2 : Option Addr) (n c1 c2 : Nat) (h : Nat → List Int) (w : World) (H1 : RHs w a1 n c1 h) (H2 : RHs w a2 n c2 h) (hn : n ≤ 1048576) :
    Calls Tryd.prog 15 #[.slice a1 n c1, .slice a2 n c2] w fun e w' => e = .returned (.bool true) ∧ Below w.heap.size w w' := by
  have hne : ((n : Int) != (n : Int)) = false := by simp
  go_enter Tryd.func15, Tryd.ntmps15
  go_wp2
  go_loopw [5] (fun i wr => ∃ j, j ≤ n ∧ i = .int .i64 (j : Nat) ∧ Below w.heap.size w wr) (fun i _ => n - (intOf i).toNat)
  case atStart => exact ⟨0, Nat.zero_le _, rfl, Below.refl _ _⟩
  case round =>
    obtain ⟨j, hj, rfl, hb⟩ := hrel
    by_cases hlt : j < n
    · obtain ⟨b, off, rfl, _, _⟩ := H1.at_ (by omega)
      obtain ⟨b', off', rfl, _, _⟩ := H2.at_ (by omega)
      have L1 : ∀ v : World, Below wr.heap.size wr v → (Instr.loadAt 24 (.pointer (some ⟨b, off + j * 32, none⟩))).run Tryd.prog v = .ok (.agg (ob (h j)).toArray) v := fun v hv => ((H1.below hb).below hv).load j hlt
      have L2 : ∀ v : World, Below wr.heap.size wr v → (Instr.loadAt 24 (.pointer (some ⟨b', off' + j * 32, none⟩))).run Tryd.prog v = .ok (.agg (ob (h j)).toArray) v := fun v hv => ((H2.below hb).below hv).load j hlt
      have EQ := fun v => eqHash_calls (h j) v (H1.ok.len j hlt)
      unfold hA at EQ
      have HL : Hid _ := And.intro L1 (And.intro L2 EQ)
      have hjn : (j : Int) < (n : Int) := by omega
      have hj0 : (0 : Int) ≤ (j : Int) := by omega
      clear L1 L2 EQ
      go_wp2_with fail
      refine wp_regionD (fun v => (Instr.loadAt 24 (.pointer (some ⟨b, off + j * 32, none⟩))).run Tryd.prog v = .ok (.agg (ob (h j)).toArray) v ∧ (Instr.loadAt 24 (.pointer (some ⟨b', off' + j * 32, none⟩))).run Tryd.prog v = .ok (.agg (ob (h j)).toArray) v) (fun j => decide (8 ≤ j)) (by kernel_rfl) ?_
      have hS0 := And.intro (HL.out.1 wr.drew (Below.refl _ _).drew) (HL.out.2.1 wr.drew (Below.refl _ _).drew)
      refine wpAnyD_takeT 0 17 (v := ?vv0) rfl rfl (by kernel_rfl) (by kernel_rfl) (by kernel_rfl) (by kernel_rfl) (fun _ _ _ h => h) (Or.inl ⟨by rfl, ?hy0⟩) hS0 ?rest0
      case hy0 => (intro w hSw; (try dsimp only at hSw); go_simp; try with_reducible rfl)
      simp only [Act.put, List.setIfInBounds_toArray, List.set_cons_zero, List.set_cons_succ]
      refine wpAnyD_takeT 1 18 (v := ?vv1) rfl rfl (by kernel_rfl) (by kernel_rfl) (by kernel_rfl) (by kernel_rfl) (fun _ _ _ h => h) (Or.inl ⟨by rfl, ?hy1⟩) hS0 ?rest1
      case hy1 => (intro w hSw; (try dsimp only at hSw); go_simp; try with_reducible rfl)
      simp only [Act.put, List.setIfInBounds_toArray, List.set_cons_zero, List.set_cons_succ]
      refine wpAnyD_takeT 2 19 (v := ?vv2) rfl rfl (by kernel_rfl) (by kernel_rfl) (by kernel_rfl) (by kernel_rfl) (fun _ _ _ h => h) (Or.inl ⟨by rfl, ?hy2⟩) hS0 ?rest2
      case hy2 => (intro w hSw; (try dsimp only at hSw); go_simp; try with_reducible rfl)
      simp only [Act.put, List.setIfInBounds_toArray, List.set_cons_zero, List.set_cons_succ]
      refine wpAnyD_takeT 3 20 (v := .agg (ob (h j)).toArray) rfl rfl (by kernel_rfl) (by kernel_rfl) (by kernel_rfl) (by kernel_rfl) (fun _ _ _ h => h) (Or.inl ⟨by rfl, ?hy3⟩) hS0 ?rest3
      case hy3 => exact fun w hSw => yield_load (p := .pointer (some ⟨b, off + j * 32, none⟩)) rfl rfl hSw.1
      simp only [Act.put, List.setIfInBounds_toArray, List.set_cons_zero, List.set_cons_succ]
      refine wpAnyD_takeT 4 21 (v := ?vv4) rfl rfl (by kernel_rfl) (by kernel_rfl) (by kernel_rfl) (by kernel_rfl) (fun _ _ _ h => h) (Or.inl ⟨by rfl, ?hy4⟩) hS0 ?rest4
      case hy4 => (intro w hSw; (try dsimp only at hSw); go_simp; try with_reducible rfl)
      simp only [Act.put, List.setIfInBounds_toArray, List.set_cons_zero, List.set_cons_succ]
      refine wpAnyD_takeT 5 22 (v := ?vv5) rfl rfl (by kernel_rfl) (by kernel_rfl) (by kernel_rfl) (by kernel_rfl) (fun _ _ _ h => h) (Or.inl ⟨by rfl, ?hy5⟩) hS0 ?rest5
      case hy5 => (intro w hSw; (try dsimp only at hSw); go_simp; try with_reducible rfl)
      simp only [Act.put, List.setIfInBounds_toArray, List.set_cons_zero, List.set_cons_succ]
      refine wpAnyD_takeT 6 23 (v := ?vv6) rfl rfl (by kernel_rfl) (by kernel_rfl) (by kernel_rfl) (by kernel_rfl) (fun _ _ _ h => h) (Or.inl ⟨by rfl, ?hy6⟩) hS0 ?rest6
      case hy6 => (intro w hSw; (try dsimp only at hSw); go_simp; try with_reducible rfl)
      simp only [Act.put, List.setIfInBounds_toArray, List.set_cons_zero, List.set_cons_succ]
      refine wpAnyD_takeT 7 24 (v := .agg (ob (h j)).toArray) rfl rfl (by kernel_rfl) (by kernel_rfl) (by kernel_rfl) (by kernel_rfl) (fun _ _ _ h => h) (Or.inl ⟨by rfl, ?hy7⟩) hS0 ?rest7
      case hy7 => exact fun w hSw => yield_load (p := .pointer (some ⟨b', off' + j * 32, none⟩)) rfl rfl hSw.2
      simp only [Act.put, List.setIfInBounds_toArray, List.set_cons_zero, List.set_cons_succ]
      refine wpAnyD_one 8 (by kernel_rfl) rfl (fun KK hK => ?_)
      rw [if_pos (show Region.wanted _ _ = true from rfl)]
      go_wp2_with fail
      refine (HL.out.2.2 _).mono ?_
      rintro e w2 ⟨rfl, b2⟩
      have b3 : Below w.heap.size w w2 := hb.drew.trans (b2.mono (by simpa using hb.size))
      go_wp2_with fail
      refine hK.out _ _ (fun h => by cases h) ?_
      clear hK KK
      refine wpAnyD_one 9 (by kernel_rfl) rfl (fun KK hK => ?_)
      go_simp
      refine hK.out _ _ (fun h => by cases h) ?_
      clear hK KK
      refine wpAnyD_done (by kernel_rfl) ?_ _
      clear b2 hb hS0
      go_wp2
      go_roundw
      case rel => exact ⟨j + 1, by omega, by go_num, b3⟩
      case measure => simp [intOf]; omega
    · have e : j = n := by omega
      subst e
      go_wp2
      go_ret
      exact ⟨rfl, hb⟩
end Go.Proofs.YtmlkcfckdmihaaaDoor
