import Derived.Test.YtnohmedccbogkaaGreatDoorCo21
import Derived.Test.YtnohmedccbogkaaGreatDoorCo6
import Derived.Test.YtnohmedccbogkaaGreatDoorCo4
import Derived.Test.YtnohmedccbogkaaGreatDoorCo11
import Derived.Test.YtnohmedccbogkaaGreatDoorCo20
import Derived.Test.YtnohmedccbogkaaGreatDoorCo12
/- readTree. -/
namespace Go.Proofs.YtnohmedccbogkaaGreatDoor
open Go.RowKit
set_option linter.unusedVariables false

theorem built_in0 : Tryz.prog.built 265 [] = some #[.int .i64 0, .slice none 0 0] := by kernel_rfl
theorem built_to (p : Option Addr) : Tryz.prog.built 267 [(0, .pointer p)] = some #[.pointer p] := by kernel_rfl
theorem built_wk (ty : Nat) (v : Value) (m : Nat) : Tryz.prog.built 271 [(0, .iface ty v), (1, .map (some m)), (2, .int .i64 (-1))] = some #[.iface ty v, .map (some m), .int .i64 (-1), .string (strOfNums []), .string (strOfNums [])] := by kernel_rfl
theorem built_k1 (ty : Nat) (v : Value) : Tryz.prog.built 276 [(1, .iface ty v)] = some #[.string (strOfNums []), .iface ty v] := by kernel_rfl
def x00 : LSg := (strOfNums [], strOfNums [])
/-- The tree that is read. -/
def rtO (P : Pg) (N : Nat) (root : Int) : Option (Option Tr) := if root = 0 then some none else (wkT P (N + 1) 0 ⟨[], -1⟩ x00 root).map fun y => some y.1
/-- What is known of a tree that was read. -/
def trGood (N : Nat) : Option Tr → Prop
  | none => True
  | some T => isT T = true ∧ full T true ∧ (pgsT T).Nodup ∧ ∀ x ∈ pgsT T, 2 ≤ x ∧ x < (N : Int)
def RtP (P : Pg) (N : Nat) (S : World → Prop) (X : Nat → Prop) (root : Int) (w : World) (e : Ending) (w' : World) : Prop :=
  OnlyS X w w' ∧ ((∃ o gt F, rtO P N root = some o ∧ e = .returned (.pointer (some ⟨gt, 0, none⟩)) ∧ TopR w' gt o F ∧ (∀ k ∈ F, w.heap.size ≤ k) ∧ S w' ∧ trGood N o) ∨ (rtO P N root = none ∧ e = .panicked badE))
variable {S : World → Prop} {X : Nat → Prop} {B0 N ty fn : Nat} {v : Value} {P : Pg}
theorem wkT_good (PW : PgW P N) {f : Nat} {root : Int} {T : Tr} {st : St} {z : LSg} (h : wkT P f 0 ⟨[], -1⟩ x00 root = some (T, st, z)) (hs : SeenOk st.seen N) : trGood N (some T) := by
  unfold wkT at h
  cases hr : rdT P f 0 ⟨[], -1⟩ root with
  | none => rw [hr] at h; cases h
  | some y =>
    rw [hr] at h
    obtain ⟨z2, hz, e⟩ := Option.map_eq_some_iff.1 h
    obtain ⟨y1, y2⟩ := y
    cases e
    have hk := rdT_ok PW f 0 ⟨[], -1⟩ root _ _ hr
    refine ⟨hk.isT, hk.full, ?_, hk.pgs⟩
    have h2 := hk.seen.nodup_iff.1 hs.nodup
    rwa [List.append_nil] at h2

set_option maxHeartbeats 4000000 in
set_option maxRecDepth 100000 in
theorem readTree_calls (PW : PgW P N) (HS : Src P B0 ty fn v S X) (root : Int) (w : World) (hS : S w) (hB : B0 ≤ w.heap.size) (hlo : 0 ≤ root) (hhi : root < 4294967296) :
    Calls Tryz.prog 151 #[.iface ty v, .int .i64 root] w (RtP P N S X root w) := by
  obtain ⟨W1, hW1⟩ : ∃ W, W = w.alloc (Obj.cells #[.int .i64 0, .slice none 0 0] 265) := ⟨_, rfl⟩
  obtain ⟨W2, hW2⟩ : ∃ W, W = W1.alloc (Obj.cells #[.pointer (some ⟨w.heap.size, 0, none⟩)] 267) := ⟨_, rfl⟩
  have q1 : Below w.heap.size w W1 := by rw [hW1]; exact (Below.refl _ _).alloc (Nat.le_refl _) _
  have q2 : Below W1.heap.size W1 W2 := by rw [hW2]; exact (Below.refl _ _).alloc (Nat.le_refl _) _
  have z1 : W1.heap.size = w.heap.size + 1 := by rw [hW1]; simp
  have z2 : W2.heap.size = w.heap.size + 1 + 1 := by rw [hW2]; simp [z1]
  have kI : Blk W2 265 w.heap.size [.int .i64 0, .slice none 0 0] := (by rw [hW1]; exact blk_new w _ _ : Blk W1 265 w.heap.size [.int .i64 0, .slice none 0 0]).below q2
  have kT : Blk W2 267 (w.heap.size + 1) [.pointer (some ⟨w.heap.size, 0, none⟩)] := by rw [hW2, ← z1]; exact blk_new W1 _ _
  have q12 : Below w.heap.size w W2 := q1.trans (q2.mono q1.size)
  have S2 : S W2 := HS.keep _ _ hS (q12.mono hB) (keepT_below q12)
  have hb1 := built_in0
  have hb2 := built_to (some ⟨w.heap.size, 0, none⟩)
  by_cases h0 : root = 0
  · have hr : Hid (rtO P N root = some none) := by show rtO P N root = some none; unfold rtO; rw [if_pos h0]
    have FIN : Hid (RtP P N S X root w (.returned (.pointer (some ⟨w.heap.size + 1, 0, none⟩))) W2) := ⟨OnlyS.ofBelow q12, Or.inl ⟨none, w.heap.size + 1, [w.heap.size + 1, w.heap.size], hr.out, rfl, ⟨w.heap.size, none, 0, [], [], rfl, kT, kI, orow_nil _ _ _ _ _, rfl, rfl⟩, fun k hk => by simp at hk; omega, S2, trivial⟩⟩
    clear q1 q2 z1 z2 kI kT q12 S2 hr
    subst h0
    go_enter Tryz.func151, Tryz.ntmps151
    go_wp2_with fail
    go_ret
    rw [hW2, hW1] at FIN
    exact FIN.out
  have h0' : (root == 0) = false := by simp [h0]
  have hr : Hid (rtO P N root = (wkT P (N + 1) 0 ⟨[], -1⟩ x00 root).map fun y => some y.1) := by show rtO P N root = _; unfold rtO; rw [if_neg h0]
  obtain ⟨W3, hW3⟩ : ∃ W, W = W2.alloc (Obj.map #[] 0) := ⟨_, rfl⟩
  obtain ⟨W4, hW4⟩ : ∃ W, W = W3.alloc (Obj.cells #[.iface ty v, .map (some (w.heap.size + 1 + 1)), .int .i64 (-1), .string (strOfNums []), .string (strOfNums [])] 271) := ⟨_, rfl⟩
  have q3 : Below W2.heap.size W2 W3 := by rw [hW3]; exact (Below.refl _ _).alloc (Nat.le_refl _) _
  have q4 : Below W3.heap.size W3 W4 := by rw [hW4]; exact (Below.refl _ _).alloc (Nat.le_refl _) _
  have z3 : W3.heap.size = w.heap.size + 1 + 1 + 1 := by rw [hW3]; simp [z2]
  have z4 : W4.heap.size = w.heap.size + 1 + 1 + 1 + 1 := by rw [hW4]; simp [z3]
  have q34 : Below W2.heap.size W2 W4 := q3.trans (q4.mono q3.size)
  have kG : Blk W4 271 (w.heap.size + 1 + 1 + 1) (wkc (.iface ty v) (w.heap.size + 1 + 1) (-1) x00) := by rw [hW4, ← z3]; exact blk_new W3 _ _
  have sM : SetI W4 (w.heap.size + 1 + 1) [] := by
    have e : SetI W3 (w.heap.size + 1 + 1) [] := ⟨.map [], by rw [hW3, ← z2]; exact World.ownsMap_made _ _ _ _, fun i => by rfl⟩
    exact e.same (q4.block _ (by omega))
  have S4 : S W4 := HS.keep _ _ S2 (q34.mono (by omega)) (keepT_below q34)
  have hw4 : Wk S B0 (w.heap.size + 1 + 1 + 1) (w.heap.size + 1 + 1) N (.iface ty v) W4 ⟨[], -1⟩ x00 := ⟨kG, sM, S4, by omega, by omega, ⟨List.nodup_nil, fun x hx => by simp at hx⟩⟩
  have q14 : Below w.heap.size w W4 := q12.trans (q34.mono q12.size)
  have kI4 := kI.below q34
  have kT4 := kT.below q34
  have ND := node_calls (g := w.heap.size + 1 + 1 + 1) (m := w.heap.size + 1 + 1) PW HS (N + 1) 0 root ⟨[], -1⟩ x00 W4.drew (hw4.below HS ⟨rfl, rfl, rfl, Nat.le_refl _, fun _ _ => rfl⟩) (by omega) (Nat.zero_le _) hlo hhi
  have hmm := @run_makeMap Tryz.prog
  have hb3 := built_wk ty v (w.heap.size + 1 + 1)
  have hXl : ∀ k, X k → k < w.heap.size := fun k e => Nat.lt_of_lt_of_le (HS.low k e) hB
  have H4 : Hid _ := And.intro q14 (And.intro kI4 hXl)
  have cs : W4.drew.cell? ⟨w.heap.size + 1, 0, none⟩ = some (.pointer (some ⟨w.heap.size, 0, none⟩)) := kT4.cell 0
  have HKT : Hid (Blk W4 267 (w.heap.size + 1) [.pointer (some ⟨w.heap.size, 0, none⟩)]) := kT4
  have Z4 : Hid _ := z4
  clear q1 q2 z1 z2 z3 z4 kI kT q12 S2 q3 q4 q34 kG sM S4 hw4 q14 kI4 kT4 hXl
  go_enter Tryz.func151, Tryz.ntmps151
  go_upto_region 4 with fail
  change Code.wp _ _ _ _ ((((w.alloc (Obj.cells #[.int .i64 0, .slice none 0 0] 265)).alloc (Obj.cells #[.pointer (some ⟨w.heap.size, 0, none⟩)] 267)).alloc (Obj.map #[] 0)).alloc (Obj.cells #[.iface ty v, .map (some (w.heap.size + 1 + 1)), .int .i64 (-1), .string (strOfNums []), .string (strOfNums [])] 271))
  rw [← hW1, ← hW2, ← hW3, ← hW4]
  clear hW1 hW2 hW3 hW4 hb1 hb2 hb3 hmm
  obtain ⟨gi, hgi⟩ : ∃ x, x = w.heap.size := ⟨_, rfl⟩
  obtain ⟨gt, hgt⟩ : ∃ x, x = w.heap.size + 1 := ⟨_, rfl⟩
  obtain ⟨mm, hmm⟩ : ∃ x, x = w.heap.size + 1 + 1 := ⟨_, rfl⟩
  obtain ⟨gg, hgg⟩ : ∃ x, x = w.heap.size + 1 + 1 + 1 := ⟨_, rfl⟩
  refine wp_regionD (fun u => u.cell? ⟨w.heap.size + 1, 0, none⟩ = some (.pointer (some ⟨w.heap.size, 0, none⟩))) (fun k => decide (9 ≤ k)) (by kernel_rfl) ?_
  refine wpAnyD_takeT 0 17 (v := ?vva0) rfl rfl (by kernel_rfl) (by kernel_rfl) (by kernel_rfl) (by kernel_rfl) (fun _ _ _ h => h) (Or.inl ⟨by rfl, ?hya0⟩) cs ?resta0
  case hya0 => (intro w hSw; (try dsimp only at hSw); go_simp; try with_reducible rfl)
  simp only [Act.put, List.setIfInBounds_toArray, List.set_cons_zero, List.set_cons_succ]
  refine wpAnyD_takeT 1 18 (v := ?vva1) rfl rfl (by kernel_rfl) (by kernel_rfl) (by kernel_rfl) (by kernel_rfl) (fun _ _ _ h => h) (Or.inl ⟨by rfl, ?hya1⟩) cs ?resta1
  case hya1 => (intro w hSw; (try dsimp only at hSw); go_simp; try with_reducible rfl)
  simp only [Act.put, List.setIfInBounds_toArray, List.set_cons_zero, List.set_cons_succ]
  refine wpAnyD_takeT 2 19 (v := ?vva2) rfl rfl (by kernel_rfl) (by kernel_rfl) (by kernel_rfl) (by kernel_rfl) (fun _ _ _ h => h) (Or.inl ⟨by rfl, ?hya2⟩) cs ?resta2
  case hya2 => (intro w hSw; (try dsimp only at hSw); go_simp; try with_reducible rfl)
  simp only [Act.put, List.setIfInBounds_toArray, List.set_cons_zero, List.set_cons_succ]
  refine wpAnyD_takeT 3 20 (v := ?vva3) rfl rfl (by kernel_rfl) (by kernel_rfl) (by kernel_rfl) (by kernel_rfl) (fun _ _ _ h => h) (Or.inl ⟨by rfl, ?hya3⟩) cs ?resta3
  case hya3 => (intro w hSw; (try dsimp only at hSw); go_simp; try with_reducible rfl)
  simp only [Act.put, List.setIfInBounds_toArray, List.set_cons_zero, List.set_cons_succ]
  refine wpAnyD_takeT 4 21 (v := ?vva4) rfl rfl (by kernel_rfl) (by kernel_rfl) (by kernel_rfl) (by kernel_rfl) (fun _ _ _ h => h) (Or.inl ⟨by rfl, ?hya4⟩) cs ?resta4
  case hya4 => (intro w hSw; (try dsimp only at hSw); go_simp; try with_reducible rfl)
  simp only [Act.put, List.setIfInBounds_toArray, List.set_cons_zero, List.set_cons_succ]
  refine wpAnyD_takeT 5 22 (v := ?vva5) rfl rfl (by kernel_rfl) (by kernel_rfl) (by kernel_rfl) (by kernel_rfl) (fun _ _ _ h => h) (Or.inl ⟨by rfl, ?hya5⟩) cs ?resta5
  case hya5 => (intro w hSw; (try dsimp only at hSw); go_simp; try with_reducible rfl)
  simp only [Act.put, List.setIfInBounds_toArray, List.set_cons_zero, List.set_cons_succ]
  refine wpAnyD_one 6 (by kernel_rfl) rfl (fun KK hK => ?_)
  rw [if_pos (show Region.wanted _ _ = true from rfl)]
  go_wp2_with fail
  refine Calls.mono ND ?_
  rintro e w6 ⟨o6, ⟨T, st6, z6, G, ty6, p6, hw6, rfl, r6, n6, i6, k6, s6⟩ | ⟨hno, rfl⟩⟩
  rotate_left
  · have s6 : OnlyS X w w6 := ((OnlyS.ofBelow H4.out.1 : OnlyS X w W4).drew).transN o6 (fun k hk e => by rcases e with e | e | e; exact e; omega; omega)
    have FIN : Hid (RtP P N S X root w (.panicked badE) w6) := ⟨s6, Or.inr ⟨by rw [hr.out, show wkT P (N + 1) 0 ⟨[], -1⟩ x00 root = none from hno]; rfl, rfl⟩⟩
    clear s6 o6 hno
    go_wp2
    exact ⟨rfl, FIN.out⟩
  clear ND
  have s6' : OnlyS X w w6 := ((OnlyS.ofBelow H4.out.1 : OnlyS X w W4).drew).transN o6 (fun k hk e => by rcases e with e | e | e; exact e; omega; omega)
  have kT6 : Blk w6 267 (w.heap.size + 1) [.pointer (some ⟨w.heap.size, 0, none⟩)] := Blk.onlyS (show Blk W4.drew 267 (w.heap.size + 1) [.pointer (some ⟨w.heap.size, 0, none⟩)] from HKT.out) o6 (fun e => by rcases e with e | e | e; exact absurd (H4.out.2.2 _ e) (by omega); omega; omega)
  have kI6 : Blk w6 265 w.heap.size [.int .i64 0, .slice none 0 0] := Blk.onlyS (show Blk W4.drew 265 w.heap.size [.int .i64 0, .slice none 0 0] from H4.out.2.1) o6 (fun e => by rcases e with e | e | e; exact absurd (H4.out.2.2 _ e) (by omega); omega; omega)
  have ck6 : w6.cell? ⟨w.heap.size + 1, 0, none⟩ = some (.pointer (some ⟨w.heap.size, 0, none⟩)) := kT6.cell 0
  have hz6 : w.heap.size + 1 < w6.heap.size := kT6.lt
  have hz4 : w.heap.size + 1 + 1 + 1 + 1 ≤ w6.heap.size := by have := o6.size; have h9 := Z4.out; have h8 : W4.drew.heap.size = W4.heap.size := rfl; omega
  have hi6 : ∀ k ∈ G, w.heap.size + 1 + 1 + 1 + 1 ≤ k := fun k hk => by have := i6 k hk; have h9 := Z4.out; have h8 : W4.drew.heap.size = W4.heap.size := rfl; omega
  have q7 : Below w6.heap.size w6 (w6.alloc (Obj.cells [.string (strOfNums []), .iface ty6 (.pointer p6)].toArray 276)) := (Below.refl _ _).alloc (Nat.le_refl _) _
  have kT7 := kT6.below q7
  have kI7 := kI6.below q7
  have c7 := kI7.cell 1
  have f7 := kI7.free 1
  have ck7 := kT7.cell 0
  have o8 := onlyB_setCell (w6.alloc (Obj.cells [.string (strOfNums []), .iface ty6 (.pointer p6)].toArray 276)) w.heap.size 1 (.slice (some ⟨w6.heap.size, 0, none⟩) 1 1)
  have kT8 := kT7.only o8 (by omega)
  have kI8 := kI7.set 1 (.slice (some ⟨w6.heap.size, 0, none⟩) 1 1)
  have r7 : ORow 276 2 0 (w6.alloc (Obj.cells [.string (strOfNums []), .iface ty6 (.pointer p6)].toArray 276)) (some ⟨w6.heap.size, 0, none⟩) 1 1 (kdF [(strOfNums [], .iface ty6 (.pointer p6))]) := orow_one _ _ _ _ (Nat.zero_le _) _ rfl _ rfl
  have r8 := orow_rb r7 (fun k hk => o8.block k (by have := orow_rb_lt r7 k hk; exact this.2) (fun e => by simp [rb] at hk; omega))
  have rp8 := (r6.below q7).onlyS (OnlyS.ofB o8) (fun k hk e => by have := hi6 k hk; omega)
  have FIN : Hid (RtP P N S X root w (.returned (.pointer (some ⟨w.heap.size + 1, 0, none⟩))) ((w6.alloc (Obj.cells [.string (strOfNums []), .iface ty6 (.pointer p6)].toArray 276)).setCell ⟨w.heap.size, 1, none⟩ (.slice (some ⟨w6.heap.size, 0, none⟩) 1 1))) := by
    refine ⟨(s6'.trans (OnlyS.ofBelow q7)).transN (OnlyS.ofB o8) (fun k hk e => by omega), Or.inl ⟨some T, w.heap.size + 1, _, ?_, rfl, ⟨w.heap.size, some ⟨w6.heap.size, 0, none⟩, 1, [(strOfNums [], .iface ty6 (.pointer p6))], G, rfl, kT8, kI8, r8, _, rfl, rp8⟩, ?_, ?_, wkT_good PW hw6 k6.ok⟩⟩
    · rw [hr.out, show wkT P (N + 1) 0 ⟨[], -1⟩ x00 root = _ from hw6]; rfl
    · intro k hk
      rcases List.mem_cons.1 hk with rfl | hk
      · omega
      rcases List.mem_cons.1 hk with rfl | hk
      · omega
      rcases List.mem_append.1 hk with hk | hk
      · simp [rb] at hk; omega
      · have := hi6 k hk; omega
    · exact HS.keep _ _ (HS.keep _ _ k6.src (q7.mono (by omega)) (keepT_below q7)) (o8.below hB (by have := q7.size; omega)) (keepT_only o8 kI7 (by decide))
  clear s6' kT6 kI6 q7 kT7 kI7 o8 kT8 kI8 r7 r8 rp8 o6 r6 n6 i6 k6 s6 hw6 hi6
  go_wp2_with fail
  refine hK.out _ _ (fun _ => ck6) ?_
  clear hK KK
  refine wpAnyD_one 7 (by kernel_rfl) rfl (fun KK hK => ?_)
  rw [if_pos (show Region.wanted _ _ = true from rfl)]
  refine wp_build_eq1 _ _ rfl (cs := #[.string (strOfNums []), .iface ty6 (.pointer p6)]) ?bk ?_
  case bk =>
    simp only [List.map_toArray, List.map_cons, List.map_nil]
    exact built_k1 ty6 (.pointer p6)
  refine hK.out _ _ (fun _ => ck6) ?_
  clear hK KK
  refine wpAnyD_one 8 (by kernel_rfl) rfl (fun KK hK => ?_)
  rw [if_pos (show Region.wanted _ _ = true from rfl)]
  refine wp_buildSlice_eq1 _ _ _ rfl (v := .slice (some ⟨w6.heap.size, 0, none⟩) 1 1) (w' := w6.alloc (Obj.cells [.string (strOfNums []), .iface ty6 (.pointer p6)].toArray 276)) ?bs ?_
  case bs =>
    simp only [List.map_toArray, List.map_cons, List.map_nil]
    exact run_bsRow elKd (by omega) (.agg #[.string (strOfNums []), .iface ty6 (.pointer p6)]) [.string (strOfNums []), .iface ty6 (.pointer p6)] rfl rfl w6
  refine hK.out _ _ (fun _ => ck7) ?_
  clear hK KK
  refine wpAnyD_one 9 (by kernel_rfl) rfl (fun KK hK => ?_)
  rw [if_pos (show Region.wanted _ _ = true from rfl)]
  go_wp2_with fail
  refine hK.out _ _ (fun h => absurd h (by decide)) ?_
  clear hK KK
  refine wpAnyD_one 10 (by kernel_rfl) rfl (fun KK hK => ?_)
  rw [if_pos (show Region.wanted _ _ = true from rfl)]
  go_wp2_with fail
  refine hK.out _ _ (fun h => absurd h (by decide)) ?_
  clear hK KK
  refine wpAnyD_one 11 (by kernel_rfl) rfl (fun KK hK => ?_)
  rw [if_pos (show Region.wanted _ _ = true from rfl)]
  go_wp2_with fail
  refine hK.out _ _ (fun h => absurd h (by decide)) ?_
  clear hK KK
  refine wpAnyD_done (by kernel_rfl) ?_ _
  go_wp2_with fail
  go_ret
  exact FIN.out
end Go.Proofs.YtnohmedccbogkaaGreatDoor

/- A cursor whose bytes lie in a block of bytes. -/
namespace Go.Proofs.YtnohmedccbogkaaGreatDoor
open Go.RowKit
set_option linter.unusedVariables false

/-- The block that a cursor's rest lies in. -/
def curB (w : World) (g : Nat) : Option Nat := match w.cell? ⟨g, 0, none⟩ with | some (.slice (some a) _ _) => some a.block | _ => none
set_option maxHeartbeats 1000000 in
theorem take_yesB (g B : Nat) (l : List Int) (k : Nat) (w : World) (h : Cur w g B l) (h1 : 1 ≤ k) (hk : k ≤ l.length) :
    Calls Tryz.prog 97 #[.pointer (some ⟨g, 0, none⟩), .int .i64 (k : Int)] w fun e w' => ∃ b off c', e = .returned (.slice (some ⟨b, off, none⟩) k c') ∧ OnlyB g w w' ∧ Cur w' g B (l.drop k) ∧ Bs w' (some ⟨b, off, none⟩) k c' (l.take k) ∧ curB w' g = curB w g := by
  obtain ⟨a, n, c, h⟩ := h
  have hn := h.bs.len_eq
  obtain ⟨b, off, rfl, hl, _⟩ := h.bs.at_ (by omega)
  have hne := h.ne b off (by omega) rfl
  have hbB := h.low b off (by omega) rfl
  have hle := h.bs.le
  have hmx := h.bs.le'
  unfold maxLen at hmx
  have cc := h.blk.cell 0
  have hcb : curB w g = some b := by unfold curB; rw [cc]; rfl
  have fz := h.blk.free 0
  have hkk : decide (k ≤ n) = true := by simp; omega
  have P1 : Bs w (some ⟨b, off, none⟩) k c (l.take k) := by have := h.bs.cut 0 k (by omega) c (by omega) h.bs.le'; simpa using this
  have P2 : Bs w (some ⟨b, off + k, none⟩) (n - k) (c - k) (l.drop k) := by
    have := h.bs.cut k (n - k) (by omega) (c - k) (by omega) (by have := h.bs.le'; omega)
    rwa [List.take_of_length_le (by rw [List.length_drop]; omega)] at this
  have FIN : Hid (∀ a', (a' = some ⟨b, off + k, none⟩ ∨ (c = k ∧ a' = some ⟨b, off, none⟩)) → OnlyB g w (w.setCell ⟨g, 0, none⟩ (.slice a' (n - k) (c - k))) ∧ Cur (w.setCell ⟨g, 0, none⟩ (.slice a' (n - k) (c - k))) g B (l.drop k) ∧ Bs (w.setCell ⟨g, 0, none⟩ (.slice a' (n - k) (c - k))) (some ⟨b, off, none⟩) k c (l.take k) ∧ curB (w.setCell ⟨g, 0, none⟩ (.slice a' (n - k) (c - k))) g = some b) := fun a' ha => by
    have o := onlyB_setCell w g 0 (.slice a' (n - k) (c - k))
    refine ⟨o, ⟨a', n - k, c - k, h.blk.set 0 _, ?_, fun b' off' hp e => ?_⟩, P1.only o (fun b' off' _ e => by cases e; exact hne), ?_⟩
    rotate_left
    rotate_left
    · unfold curB
      rw [(h.blk.set 0 _).cell 0]
      rcases ha with rfl | ⟨hc, rfl⟩ <;> rfl
    rotate_left
    · rcases ha with rfl | ⟨hc, rfl⟩ <;> cases e <;> exact hbB
    rcases ha with rfl | ⟨hc, rfl⟩
    · exact P2.only o (fun b' off' _ e => by cases e; exact hne)
    · refine ⟨P2.len_eq, P2.le, P2.le', fun e => (by cases e), fun hp => by omega, P2.byte⟩
  have HCB : Hid _ := hcb
  clear h P1 P2 hcb
  go_enter Tryz.func97, Tryz.ntmps97
  go_wp2_with fail
  refine Calls.mono (need_yes w) ?_
  rintro e w1 ⟨rfl, hw⟩
  obtain rfl := hw.symm
  go_wp2
  · have hck : c - k = 0 := by omega
    go_ret
    have F := FIN.out (some ⟨b, off, none⟩) (Or.inr ⟨by assumption, rfl⟩)
    rw [hck] at F
    exact ⟨b, off, c, by simp_all, F.1, F.2.1, F.2.2.1, F.2.2.2.trans HCB.out.symm⟩
  · go_ret
    have F := FIN.out (some ⟨b, off + k, none⟩) (Or.inl rfl)
    exact ⟨b, off, c, rfl, F.1, F.2.1, F.2.2.1, F.2.2.2.trans HCB.out.symm⟩

theorem id_yesB (g B : Nat) (l : List Int) (w : World) (h : Cur w g B l) (hk : 4 ≤ l.length) :
    Calls Tryz.prog 186 #[.pointer (some ⟨g, 0, none⟩)] w fun e w' => e = .returned (.int .i64 (low (l.take 4))) ∧ OnlyB g w w' ∧ Cur w' g B (l.drop 4) ∧ curB w' g = curB w g := by
  have T := take_yesB g B l 4 w h (by omega) hk
  clear h
  go_enter Tryz.func186, Tryz.ntmps186
  go_wp2_with fail
  refine Calls.mono T ?_
  rintro e w1 ⟨b, off, c', rfl, o, C, R, E⟩
  have N := numberOf_calls _ 4 c' (l.take 4) w1 R (by omega)
  have FIN : Hid _ := And.intro o (And.intro C E)
  clear o C R T E
  go_wp2_with fail
  refine Calls.mono N ?_
  rintro e w2 ⟨rfl, hw⟩
  obtain rfl := hw.symm
  go_wp2
  go_ret
  exact ⟨rfl, FIN.out⟩
structure CurT (w : World) (g B : Nat) (l : List Int) : Prop where
  cur : Cur w g B l
  ty : 0 < l.length → ∀ b, curB w g = some b → ∃ cs fr, w.heap[b]? = some (.cells cs 5 fr)
theorem CurT.keep {w w' : World} {g B : Nat} {l : List Int} (h : CurT w g B l) (k1 : KeepT 162 w w') (k2 : KeepT 5 w w') : CurT w' g B l := by
  obtain ⟨⟨a, n, c, hc⟩, ty⟩ := h
  have hb := hc.blk.keepT k1
  have e1 : curB w' g = curB w g := by unfold curB; rw [hb.cell 0, hc.blk.cell 0]
  have hT : BsT w a n c l := ⟨hc.bs, fun hp => by
    obtain ⟨b, off, e, _, _⟩ := hc.bs.at_ hp
    obtain ⟨cs, fr, hh⟩ := ty (by rw [hc.bs.len_eq]; exact hp) b (by unfold curB; rw [hc.blk.cell 0, e]; rfl)
    exact ⟨b, off, cs, fr, e, hh⟩⟩
  refine ⟨⟨a, n, c, hb, (hT.keep k2).bs, hc.low⟩, fun hp b hbb => ?_⟩
  rw [e1] at hbb
  obtain ⟨cs, fr, hh⟩ := ty hp b hbb
  exact ⟨cs, fr, k2.block b cs fr hh⟩
theorem id_yesT (g B : Nat) (l : List Int) (w : World) (h : CurT w g B l) (hk : 4 ≤ l.length) :
    Calls Tryz.prog 186 #[.pointer (some ⟨g, 0, none⟩)] w fun e w' => e = .returned (.int .i64 (low (l.take 4))) ∧ OnlyB g w w' ∧ CurT w' g B (l.drop 4) := by
  refine (id_yesB g B l w h.cur hk).mono ?_
  rintro e w' ⟨rfl, o, C, E⟩
  refine ⟨rfl, o, C, fun _ b hb => ?_⟩
  rw [E] at hb
  obtain ⟨cs, fr, hh⟩ := h.ty (by omega) b hb
  obtain ⟨a, n, c, hc⟩ := h.cur
  have hne : b ≠ g := fun e => by
    subst e
    have := hc.blk
    unfold Blk at this
    rw [hh] at this
    cases this
  exact ⟨cs, fr, (o.block b (Array.getElem?_eq_some_iff.1 hh).1 hne).trans hh⟩
theorem curT_new {w : World} {a : Option Addr} {n c : Nat} {l : List Int} (h : BsT w a n c l) : CurT (w.alloc (.cells #[.slice a n c] 162)) w.heap.size w.heap.size l := by
  have q : Below w.heap.size w (w.alloc (.cells #[.slice a n c] 162)) := (Below.refl _ _).alloc (Nat.le_refl _) _
  have kC := blk_new w 162 #[.slice a n c]
  have hT := h.keep (keepT_below q)
  refine ⟨⟨a, n, c, ⟨kC, hT.bs, fun b off hn e => ?_⟩⟩, fun hp b hb => ?_⟩
  · obtain ⟨b1, off1, e1, hb, _⟩ := h.bs.at_ hn
    rw [e1] at e
    cases e
    exact hb
  · unfold curB at hb
    rw [kC.cell 0] at hb
    obtain ⟨b1, off1, cs, fr, e1, hh⟩ := hT.ty (by have := h.bs.len_eq; omega)
    rw [e1] at hb
    cases hb
    exact ⟨cs, fr, hh⟩
end Go.Proofs.YtnohmedccbogkaaGreatDoor

/- The program reads the free list: what is known on the way. -/
namespace Go.Proofs.YtnohmedccbogkaaGreatDoor
open Go.RowKit
set_option linter.unusedVariables false

/-- What stands behind readList. -/
def RlP (P : Pg) (N : Nat) (S : World → Prop) (X : Nat → Prop) (first : Int) (w : World) (e : Ending) (w' : World) : Prop :=
  OnlyS X w w' ∧ ((∃ free own a c a2 c2, flR P (N + 1) first [] [] = some (free, own) ∧ free.length ≤ 65536 ∧ own.length ≤ 1024 ∧ e = .returned (.tuple #[.slice a free.length c, .slice a2 own.length c2]) ∧ Own1 3 w.heap.size w' a free.length c (on free) ∧ Own1 3 w.heap.size w' a2 own.length c2 (on own) ∧ S w' ∧ (∀ g, a2 = some ⟨g, 0, none⟩ → a ≠ some ⟨g, 0, none⟩)) ∨ (flR P (N + 1) first [] [] = none ∧ e = .panicked badE))
/-- Two rows of numbers of the call's own. -/
structure LR (S : World → Prop) (X : Nat → Prop) (w : World) (free own : List Int) (a a2 : Option Addr) (c c2 : Nat) (wr : World) : Prop where
  fr : OnlyS X w wr
  src : S wr
  f : Own1 3 w.heap.size wr a free.length c (on free)
  o : Own1 3 w.heap.size wr a2 own.length c2 (on own)
  sep : ∀ g, a2 = some ⟨g, 0, none⟩ → a ≠ some ⟨g, 0, none⟩
structure LI (P : Pg) (N : Nat) (S : World → Prop) (X : Nat → Prop) (first : Int) (w : World) (free own : List Int) (a a2 : Option Addr) (c c2 : Nat) (id : Int) (wr : World) : Prop where
  r : LR S X w free own a a2 c c2 wr
  ok : SeenOk own N
  lf : free.length ≤ 64 * own.length
  eq : flR P (N + 1) first [] [] = flR P (N + 1 - own.length) id own free
  bd : 0 ≤ id ∧ id < 4294967296
variable {S : World → Prop} {X : Nat → Prop} {B0 N ty fn : Nat} {v : Value} {P : Pg} {w wr wr' : World} {free own : List Int} {a a2 : Option Addr} {c c2 : Nat}
theorem LR.below (HS : Src P B0 ty fn v S X) (hB : B0 ≤ w.heap.size) (h : LR S X w free own a a2 c c2 wr) (hb : Below wr.heap.size wr wr') : LR S X w free own a a2 c c2 wr' :=
  ⟨h.fr.trans (OnlyS.ofBelow hb), HS.keep _ _ h.src ⟨hb.os, hb.tape, hb.output, hb.size, fun i hi => hb.block i (by have := h.fr.size; omega)⟩ (keepT_below hb), h.f.below hb, h.o.below hb, h.sep⟩
/-- A block of the call's own that is no row of numbers is written. -/
theorem LR.only (HS : Src P B0 ty fn v S X) (hB : B0 ≤ w.heap.size) (h : LR S X w free own a a2 c c2 wr) {g t : Nat} {xs : List Value} (hk : Blk wr t g xs) (hg : w.heap.size ≤ g) (ht : t ≠ 3) (ht2 : t ≠ 5) (ho : OnlyB g wr wr') : LR S X w free own a a2 c c2 wr' :=
  ⟨h.fr.transN (OnlyS.ofB ho) (fun k hk e => by subst e; omega), HS.keep _ _ h.src (OnlyS.below (OnlyS.ofB ho) (by have := h.fr.size; omega) (fun k e => by subst e; omega)) (keepT_only ho hk ht2), h.f.keep (keepT_only ho hk ht), h.o.keep (keepT_only ho hk ht), h.sep⟩
/-- A page is read. -/
theorem LR.page (HS : Src P B0 ty fn v S X) (hB : B0 ≤ w.heap.size) (h : LR S X w free own a a2 c c2 wr) (hs : S wr') (ho : OnlyS X wr wr') : LR S X w free own a a2 c c2 wr' :=
  ⟨h.fr.trans ho, hs, own1_rb h.f (fun k hk => ho.block k (own1_rb_lt h.f k hk).2 (fun e => by have := HS.low k e; have := (own1_rb_lt h.f k hk).1; omega)), own1_rb h.o (fun k hk => ho.block k (own1_rb_lt h.o k hk).2 (fun e => by have := HS.low k e; have := (own1_rb_lt h.o k hk).1; omega)), h.sep⟩
/-- One number more that is free. -/
theorem LR.appF (HS : Src P B0 ty fn v S X) (hB : B0 ≤ w.heap.size) (h : LR S X w free own a a2 c c2 wr) {x : Int} {g c' : Nat} {w' : World} (ho : Own1 3 w.heap.size w' (some ⟨g, 0, none⟩) (free.length + 1) c' (on free ++ [.int .i64 x]))
    (hg : (wr.alloc (.cells #[.int .i64 x] 3)).grownBy w' (Value.slice a free.length c).ownBlock) (hat : a = some ⟨g, 0, none⟩ ∨ wr.heap.size < g) : LR S X w (free ++ [x]) own (some ⟨g, 0, none⟩) a2 c' c2 w' := by
  have q : Below wr.heap.size wr (wr.alloc (.cells #[.int .i64 x] 3)) := (Below.refl _ _).alloc (Nat.le_refl _) _
  have h1 := h.below HS hB q
  have hz := h.fr.size
  have hz1 := h1.fr.size
  refine ⟨h1.fr.transN (OnlyS.ofGrown hg) (fun k hk e => by have := (World.ownsRow.lt h.f k e).1; omega), HS.keep _ _ h1.src ((Below.refl _ _).grown hg (by omega) (fun k e => by have := (World.ownsRow.lt h.f k e).1; omega)) (keepT_grown h1.f hg (by decide)), ?_, ?_, ?_⟩
  · rw [List.length_append, ← on_app]
    exact ho
  · exact h1.o.grown h1.f hg (fun g1 e1 e2 => h1.sep g1 e2 e1)
  · intro g1 e1 e2
    cases e2
    rcases hat with e | e
    · exact h.sep g e1 e
    · have := own1_rb_lt h.o g (by rw [e1]; simp [rb])
      omega
/-- One page more of the list's own. -/
theorem LR.appO (HS : Src P B0 ty fn v S X) (hB : B0 ≤ w.heap.size) (h : LR S X w free own a a2 c c2 wr) {x : Int} {g c' : Nat} {w' : World} (ho : Own1 3 w.heap.size w' (some ⟨g, 0, none⟩) (own.length + 1) c' (on own ++ [.int .i64 x]))
    (hg : (wr.alloc (.cells #[.int .i64 x] 3)).grownBy w' (Value.slice a2 own.length c2).ownBlock) (hat : a2 = some ⟨g, 0, none⟩ ∨ wr.heap.size < g) : LR S X w free (own ++ [x]) a (some ⟨g, 0, none⟩) c c' w' := by
  have q : Below wr.heap.size wr (wr.alloc (.cells #[.int .i64 x] 3)) := (Below.refl _ _).alloc (Nat.le_refl _) _
  have h1 := h.below HS hB q
  have hz := h.fr.size
  have hz1 := h1.fr.size
  refine ⟨h1.fr.transN (OnlyS.ofGrown hg) (fun k hk e => by have := (World.ownsRow.lt h.o k e).1; omega), HS.keep _ _ h1.src ((Below.refl _ _).grown hg (by omega) (fun k e => by have := (World.ownsRow.lt h.o k e).1; omega)) (keepT_grown h1.o hg (by decide)), ?_, ?_, ?_⟩
  · exact h1.f.grown h1.o hg (fun g1 e1 e2 => h1.sep g1 e1 e2)
  · rw [List.length_append, ← on_app]
    exact ho
  · intro g1 e1 e2
    cases e1
    rcases hat with e | e
    · exact h.sep g e e2
    · have := own1_rb_lt h.f g (by rw [e2]; simp [rb])
      omega
theorem SeenOk.snoc {l : List Int} {N : Nat} (h : SeenOk l N) {id : Int} (h0 : 0 ≤ id) (h1 : id < (N : Int)) (h2 : id ∉ l) : SeenOk (l ++ [id]) N :=
  ⟨by
    rw [List.nodup_append]
    exact ⟨h.nodup, by simp, by intro a ha b hb e; simp at hb; subst hb; subst e; exact h2 ha⟩, fun x hx => by
    rcases List.mem_append.1 hx with hx | hx
    · exact h.lt x hx
    · simp at hx; subst hx; exact ⟨h0, h1⟩⟩
theorem idAt_bd {l : List Int} (hb : IsB l) (h : 4 ≤ l.length) : 0 ≤ idAt l 0 ∧ idAt l 0 < 4294967296 := by
  have := low_bd (isB_take hb 4)
  have hl : (l.take 4).length = 4 := by rw [List.length_take]; omega
  rw [hl] at this
  simpa [idAt] using this
theorem lastD_is (l : List Int) : l.getLastD 0 = l.getD (l.length - 1) 0 := by
  rw [List.getLastD_eq_getLast?, List.getLast?_eq_getElem?]
  rfl
theorem cur_blk {w : World} {g B : Nat} {l : List Int} (h : Cur w g B l) : ∃ xs, Blk w 162 g xs := by
  obtain ⟨a, n, c, h⟩ := h
  exact ⟨_, h.blk⟩
end Go.Proofs.YtnohmedccbogkaaGreatDoor

/- The program reads the free list: the walk. -/
namespace Go.Proofs.YtnohmedccbogkaaGreatDoor
open Go.RowKit
set_option linter.unusedVariables false

def slLen : Value → Nat
  | .slice _ n _ => n
  | _ => 0
variable {S : World → Prop} {X : Nat → Prop} {B0 N ty fn : Nat} {v : Value} {P : Pg}

set_option maxHeartbeats 8000000 in
set_option maxRecDepth 100000 in
theorem readList_calls (PW : PgW P N) (hbd : ∀ t, (P.bd t).length ≤ 256) (HS : Src P B0 ty fn v S X) (first : Int) (w : World) (hS : S w) (hB : B0 ≤ w.heap.size) (hf0 : 0 ≤ first) (hf1 : first < 4294967296) :
    Calls Tryz.prog 152 #[.iface ty v, .int .i64 first] w (RlP P N S X first w) := by
  have hNle := PW.le
  have hmth := HS.meth
  have hent := HS.ent
  have H0 : Hid (LI P N S X first w [] [] none none 0 0 first w) := ⟨⟨OnlyS.refl _ _, hS, own1_nil _ _ _, own1_nil _ _ _, fun g e => by cases e⟩, ⟨List.nodup_nil, by simp⟩, by simp, rfl, hf0, hf1⟩
  clear hS hf0 hf1
  go_enter Tryz.func152, Tryz.ntmps152
  go_wp2_with fail
  go_loopw [4, 5, 6] (fun s4 s5 s6 wr => ∃ (free own : List Int) (a a2 : Option Addr) (c c2 : Nat) (id : Int), s4 = .slice a free.length c ∧ s5 = .slice a2 own.length c2 ∧ s6 = .int .i64 id ∧ LI P N S X first w free own a a2 c c2 id wr) (fun _ s5 _ _ => N + 1 - slLen s5)
  case atStart => exact ⟨[], [], none, none, 0, 0, first, rfl, rfl, rfl, H0.out⟩
  case round =>
    obtain ⟨free, own, a, a2, c, c2, id, rfl, rfl, rfl, hI⟩ := hrel
    obtain ⟨wR, hwX⟩ : ∃ wX, wX = wr := ⟨_, rfl⟩
    subst hwX
    have hol := hI.ok.le
    have hfl := hI.lf
    have hwz := hI.r.fr.size
    have CT := containsN_calls w.heap.size a2 c2 own id wR hI.r.o (by omega)
    have HI : Hid _ := hI
    clear hI
    by_cases h0 : id = 0
    · subst h0
      have hfin : Hid (flR P (N + 1) first [] [] = some (free, own)) := by show flR P (N + 1) first [] [] = some (free, own); rw [HI.out.eq, flR_zero]
      clear CT
      go_wp2_with fail
      refine bodyPost_ret (v := .tuple #[.slice a free.length c, .slice a2 own.length c2]) (by simp [results, Tryz.results152]) rfl ?_
      exact ⟨HI.out.r.fr, Or.inl ⟨free, own, a, c, a2, c2, hfin.out, by omega, by omega, rfl, HI.out.r.f, HI.out.r.o, HI.out.r.src, HI.out.r.sep⟩⟩
    have hst : Hid (flR P (N + 1) first [] [] = flR P (N - own.length + 1) id own free) := by
      show flR P (N + 1) first [] [] = flR P (N - own.length + 1) id own free
      rw [HI.out.eq]; congr 1; omega
    have h0' : (id == 0) = false := by simp [h0]
    have FINP : Hid (∀ w', OnlyS X w w' → flOk P own id = false → RlP P N S X first w (.panicked badE) w') := fun w' ho hq => ⟨ho, Or.inr ⟨by rw [hst.out, flR_no h0 hq], rfl⟩⟩
    cases hc : own.contains id with
    | true =>
      rw [hc] at CT
      have hq : flOk P own id = false := by
        rw [← Bool.not_eq_true, flOk_iff]; intro h; exact h.2.2.1 (List.contains_iff_mem.1 hc)
      clear hc
      go_wp2_with fail
      refine CT.mono ?_
      rintro e u ⟨rfl, hu⟩
      obtain rfl := hu.symm
      clear hu CT
      go_wp2_with fail
      refine (need_no _).mono ?_
      rintro e w' ⟨rfl, rfl⟩
      go_wp2
      exact ⟨rfl, FINP.out _ HI.out.r.fr hq⟩
    | false =>
      rw [hc] at CT
      have PG := HS.page wR id HI.out.r.src HI.out.bd.1 HI.out.bd.2
      go_wp2_with fail
      refine CT.mono ?_
      rintro e u ⟨rfl, hu⟩
      obtain rfl := hu.symm
      clear hu CT
      go_wp2_with fail
      refine (need_yes _).mono ?_
      rintro e w' ⟨rfl, rfl⟩
      go_wp2_with fail
      refine PG.mono ?_
      rintro e w1 ⟨s1, o1, ⟨hok, ab, cb, rfl, hbs⟩ | ⟨hno, k, ab, nb, cb, ad, rfl⟩⟩
      rotate_left
      · have hq : flOk P own id = false := by
          rw [← Bool.not_eq_true, flOk_iff, hno]; intro h; exact absurd h.1 (by decide)
        have FIN : Hid (RlP P N S X first w (.panicked badE) w1) := FINP.out _ (HI.out.r.fr.trans o1) hq
        go_wp2_with fail
        refine (need_no _).mono ?_; rintro e w' ⟨rfl, hw⟩; obtain rfl := hw.symm; clear hw; go_wp2; exact ⟨rfl, FIN.out⟩
      have R1 := HI.out.r.page HS hB s1 o1
      have hns : id ∉ own := fun h => by rw [List.contains_iff_mem.2 h] at hc; cases hc
      obtain ⟨hi0, hiN⟩ := PW.ok id hok
      have hbl := hbd id
      generalize hl : P.bd id = l at hbs hbl ⊢
      generalize hkd : P.kd id = kd at ⊢
      have HL : Hid (P.bd id = l) := hl
      have HISB : Hid (IsB l) := by show IsB l; rw [← hl]; exact PW.byte id
      have HKD : Hid (P.kd id = kd) := hkd
      have HR1 : Hid _ := And.intro R1 hbs
      have hz1 : w.heap.size ≤ w1.heap.size := R1.fr.size
      have hid2 : -9223372036854775808 ≤ id ∧ id ≤ 9223372036854775807 := by omega
      clear hl hkd R1 hbs s1 o1 hc PG
      by_cases hk4 : kd = 4
      rotate_left
      · have hk4' : (kd == 4) = false := by simp [hk4]
        have hq : flOk P own id = false := by
          rw [← Bool.not_eq_true, flOk_iff, HKD.out]; intro h; exact hk4 h.2.1
        have FIN : Hid (RlP P N S X first w (.panicked badE) w1) := FINP.out _ HR1.out.1.fr hq
        go_wp2_with fail
        refine (need_no _).mono ?_; rintro e w' ⟨rfl, hw⟩; obtain rfl := hw.symm; clear hw; go_wp2; exact ⟨rfl, FIN.out⟩
      subst hk4
      go_wp2_with fail
      refine (need_yes _).mono ?_; rintro e w' ⟨rfl, hw⟩; obtain rfl := hw.symm; clear hw
      go_upto_region 7 with (first | (at_builtin; refine wpList_app1L rfl _ _ elInt rfl w.heap.size a2 own.length c2 (on own) rfl HR1.out.1.o (.int .i64 id) rfl rfl (by omega) (by omega) hz1 ?_; intro g2 c3 w2 o2 b2 gr2 at2) | fail)
      have R2 := HR1.out.1.appO HS hB o2 gr2 at2
      have q2 : Below w1.heap.size w1 (w1.alloc (.cells #[.int .i64 id] 3)) := (Below.refl _ _).alloc (Nat.le_refl _) _
      have t2 : BsT w2 ab l.length cb l := HR1.out.2.keep ((keepT_below q2).trans (keepT_grown (own_below HR1.out.1.o q2) gr2 (by decide)))
      have hb2 := built_cu ab l.length cb
      have q3 : Below w2.heap.size w2 (w2.alloc (.cells #[.slice ab l.length cb] 162)) := (Below.refl _ _).alloc (Nat.le_refl _) _
      have R3 := R2.below HS hB q3
      have kC := blk_new w2 162 #[.slice ab l.length cb]
      have cur3 := curT_new t2
      have hz2 : w.heap.size ≤ w2.heap.size := R2.fr.size
      have FINP2 : Hid (∀ w', OnlyS X w w' → (flOk P own id = true → frA (idsB l 1) free = none) → RlP P N S X first w (.panicked badE) w') := fun w' ho hq => by
        cases hfo : flOk P own id with
        | false => exact FINP.out w' ho hfo
        | true => exact ⟨ho, Or.inr ⟨by rw [hst.out, flR_yes h0 hfo, HL.out, hq hfo]; rfl, rfl⟩⟩
      have HOK4 : Hid (flOk P own id = true → 4 ≤ l.length ∧ l.length % 4 = 0) := fun h => by
        have := (flOk_iff.1 h).2.2.2; rw [HL.out] at this; exact this
      have HFO : Hid (4 ≤ l.length → l.length % 4 = 0 → flOk P own id = true) := fun h1 h2 => flOk_iff.2 ⟨hok, HKD.out, hns, by rw [HL.out]; exact h1, by rw [HL.out]; exact h2⟩
      have H3 : Hid _ := R3
      clear R2 R3 t2 q2 q3 o2 gr2 at2 b2 HR1 FINP
      go_upto_region 8 with fail
      generalize w2.alloc (.cells #[.slice ab l.length cb] 162) = W3 at *
      have kC' : Blk W3 162 w2.heap.size [.slice ab l.length cb] := kC
      generalize hgc : w2.heap.size = gc at *
      clear hgc kC
      by_cases h4 : l.length < 4
      · have IN := id_no gc gc l W3 cur3.cur h4
        have FIN : Hid (∀ w', OnlyB gc W3 w' → RlP P N S X first w (.panicked badE) w') := fun w' ho => FINP2.out w' (H3.out.only HS hB kC' hz2 (by decide) (by decide) ho).fr (fun h => absurd (HOK4.out h).1 (by omega))
        clear cur3
        go_wp2_with fail
        refine IN.mono ?_
        rintro e w4 ⟨rfl, o4⟩
        go_wp2
        exact ⟨rfl, FIN.out _ o4⟩
      have IY := id_yesT gc gc l W3 cur3 (by omega)
      rw [show low (l.take 4) = idAt l 0 by simp [idAt]] at IY
      clear cur3
      go_upto_region 9 with fail
      refine IY.mono ?_
      rintro e w4 ⟨rfl, o4, C4⟩
      have R4 := H3.out.only HS hB kC' hz2 (by decide) (by decide) o4
      have H4 : Hid _ := And.intro R4 C4
      clear IY R4 C4 o4 H3 kC'
      go_wp2_with fail
      go_loopw [4] (fun s4 wr => ∃ (k : Nat) (fs : List Int) (af : Option Addr) (cf : Nat), s4 = .slice af fs.length cf ∧ LR S X w fs (own ++ [id]) af (some ⟨g2, 0, none⟩) cf c3 wr ∧ CurT wr gc gc (l.drop (4 * k)) ∧ 1 ≤ k ∧ 4 * k ≤ l.length ∧ fs.length + 1 = free.length + k ∧ (l.length % 4 = 0 → frA (idsB l 1) free = frA (idsB l k) fs)) (fun _ wr => curLen wr gc)
      case atStart => exact ⟨1, free, a, c, rfl, H4.out.1, H4.out.2, by omega, by omega, by omega, fun _ => rfl⟩
      case round =>
        obtain ⟨k, fs, af, cf, rfl, hR, hC, hk1, hk2, hfs, hfr⟩ := hrel
        obtain ⟨wI, hwX⟩ : ∃ wX, wX = wr := ⟨_, rfl⟩
        subst hwX
        have hdl : (l.drop (4 * k)).length = l.length - 4 * k := by rw [List.length_drop]
        have HCL : Hid _ := curLen_is hC.cur
        have DC := done_calls gc gc (l.drop (4 * k)) wI hC.cur
        have HR : Hid _ := And.intro hR hfr
        have hzI : w.heap.size ≤ wI.heap.size := hR.fr.size
        have hsn : SeenOk (own ++ [id]) N := HI.out.ok.snoc (by omega) hiN hns
        have hsl := hsn.le
        rw [List.length_append, List.length_singleton] at hsl
        have HSN : Hid _ := hsn
        clear hsn
        by_cases hl0 : (l.drop (4 * k)).length = 0
        · rw [decide_eq_true hl0] at DC
          have hke : 4 * k = l.length := by omega
          have LIN : Hid (LI P N S X first w fs (own ++ [id]) af (some ⟨g2, 0, none⟩) cf c3 (idAt l 0) wI) := by
            refine ⟨HR.out.1, HSN.out, by rw [List.length_append, List.length_singleton]; omega, ?_, idAt_bd HISB.out (by omega)⟩
            rw [hst.out, flR_yes h0 (HFO.out (by omega) (by omega)), HL.out, HR.out.2 (by omega), idsB_nil (by omega), frA]
            show flR P (N - own.length) _ _ _ = _
            congr 1
            rw [List.length_append, List.length_singleton]
            omega
          clear hC hR hfr hdl hl0 hke hfs hk1 hk2
          go_wp2_with fail
          refine DC.mono ?_
          rintro e u ⟨rfl, hu⟩
          obtain rfl := hu.symm
          clear hu DC
          go_wp2_with fail
          go_roundw
          case rel => exact ⟨fs, own ++ [id], af, some ⟨g2, 0, none⟩, cf, c3, idAt l 0, rfl, by rw [List.length_append]; rfl, rfl, LIN.out⟩
          case measure => simp only [slLen]; omega
        rw [decide_eq_false hl0] at DC
        obtain ⟨xc, kCI⟩ := cur_blk hC.cur
        have HKC : Hid (Blk wI 162 gc xc) := kCI
        clear kCI hR hfr
        go_upto_region 10 with fail
        refine DC.mono ?_
        rintro e u ⟨rfl, hu⟩
        obtain rfl := hu.symm
        clear hu DC
        go_upto_region 10 with fail
        by_cases h5 : (l.drop (4 * k)).length < 4
        · have IN := id_no gc gc (l.drop (4 * k)) wI hC.cur h5
          have FIN : Hid (∀ w', OnlyB gc wI w' → RlP P N S X first w (.panicked badE) w') := fun w' ho => FINP2.out w' (HR.out.1.only HS hB (show Blk wI 162 gc xc from HKC.out) hz2 (by decide) (by decide) ho).fr (fun h => absurd (HOK4.out h).2 (by omega))
          clear hC
          go_wp2_with fail
          refine IN.mono ?_
          rintro e w4 ⟨rfl, o4⟩
          go_wp2
          exact ⟨rfl, FIN.out _ o4⟩
        have IY := id_yesT gc gc (l.drop (4 * k)) wI hC (by omega)
        rw [show low ((l.drop (4 * k)).take 4) = idAt l k from rfl, List.drop_drop, show 4 * k + 4 = 4 * (k + 1) by omega] at IY
        have hcons : idsB l k = idAt l k :: idsB l (k + 1) := idsB_cons (by omega)
        have HCONS : Hid _ := hcons
        clear hC hcons
        generalize hx : idAt l k = x at *
        clear hx
        go_upto_region 11 with fail
        refine IY.mono ?_
        rintro e w5 ⟨rfl, o5, C5⟩
        have R5 := HR.out.1.only HS hB (show Blk wI 162 gc xc from HKC.out) hz2 (by decide) (by decide) o5
        have HC5 : Hid _ := curLen_is C5.cur
        have H5 : Hid _ := And.intro R5 C5
        have hz5 : w.heap.size ≤ w5.heap.size := R5.fr.size
        have hdl5 : (l.drop (4 * (k + 1))).length = l.length - 4 * (k + 1) := by rw [List.length_drop]
        have HM : Hid (curLen w5 gc < curLen wI gc) := by
          show curLen w5 gc < curLen wI gc
          rw [HC5.out, HCL.out]; omega
        have hfsl : fs.length ≤ 65536 := by omega
        have HCUR : Hid (∀ (w8 : World), (w5.alloc (.cells #[.int .i64 x] 3)).grownBy w8 (Value.slice af fs.length cf).ownBlock → CurT w8 gc gc (l.drop (4 * (k + 1))) ∧ curLen w8 gc = curLen w5 gc) := fun w8 gr8 => by
          have q8 : Below w5.heap.size w5 (w5.alloc (.cells #[.int .i64 x] 3)) := (Below.refl _ _).alloc (Nat.le_refl _) _
          have k8 : ∀ t, 3 ≠ t → KeepT t w5 w8 := fun t ht => (keepT_below q8).trans (keepT_grown (own_below R5.f q8) gr8 ht)
          have C8 : CurT w8 gc gc (l.drop (4 * (k + 1))) := C5.keep (k8 _ (by decide)) (k8 _ (by decide))
          exact ⟨C8, by rw [curLen_is C8.cur, curLen_is C5.cur]⟩
        have hk5 : 4 * (k + 1) ≤ l.length := by omega
        clear IY o5 C5 hdl hdl5 hl0
        go_upto_region 11 with fail
        rcases Nat.eq_zero_or_pos fs.length with hf0 | hf0
        · have hfn : fs = [] := List.eq_nil_of_length_eq_zero hf0
          subst hfn
          have R6 : Own1 3 w.heap.size w5 af 0 cf (on []) := R5.f
          clear R5 hf0 hfsl
          go_wp2_with fail
          refine (need_yes _).mono ?_; rintro e w' ⟨rfl, hw⟩; obtain rfl := hw.symm; clear hw
          go_wp2_with (at_builtin; refine wpList_app1L rfl _ _ elInt rfl w.heap.size af 0 cf (on []) rfl R6 (.int .i64 x) rfl rfl (by omega) (by omega) hz5 ?_)
          intro g8 c8 w8 o8 b8 gr8 at8
          have R8 := H5.out.1.appF HS hB o8 gr8 at8
          have FIN : Hid _ := R8
          have HF8 : Hid (l.length % 4 = 0 → frA (idsB l 1) free = frA (idsB l (k + 1)) ([] ++ [x])) := fun h => by
            rw [HR.out.2 h, HCONS.out, frA, if_neg (fun h => h.1 rfl)]
          have CU8 : Hid (CurT w8 gc gc (l.drop (4 * (k + 1))) ∧ curLen w8 gc = curLen w5 gc) := HCUR.out w8 gr8
          clear o8 b8 gr8 at8 R8 R6
          go_wp2_with fail
          go_roundw
          case rel => exact ⟨k + 1, [] ++ [x], _, _, rfl, FIN.out, CU8.out.1, by omega, by omega, by rw [List.length_append, List.length_singleton]; omega, HF8.out⟩
          case measure => rw [CU8.out.2]; exact HM.out
        · obtain ⟨n1, hn1⟩ : ∃ n1, fs.length = n1 + 1 := ⟨fs.length - 1, by omega⟩
          obtain ⟨gf, rfl, _, _, _, hcf⟩ := R5.f.at_ hf0
          have hcy := hcf n1 (by omega)
          rw [on_getD fs n1 (by omega)] at hcy
          have HLD : Hid (fs.getLastD 0 = fs.getD n1 0) := by
            show fs.getLastD 0 = fs.getD n1 0
            rw [lastD_is, hn1]; rfl
          have R6 := R5.f
          rw [hn1] at R6
          have HN1 : Hid (fs.length = n1 + 1) := hn1
          simp only [hn1]
          have hn1b : n1 ≤ 65536 := by omega
          clear R5 hcf hf0 hfsl hn1
          generalize hy : fs.getD n1 0 = y at *
          clear hy
          have hn0 : ((((n1 + 1 : Nat) : Int)) == 0) = false := by simp; omega
          by_cases hxy : y < x
          · have HF8 : Hid (l.length % 4 = 0 → frA (idsB l 1) free = frA (idsB l (k + 1)) (fs ++ [x])) := fun h => by
              rw [HR.out.2 h, HCONS.out, frA, if_neg (fun h => by have := h.2; rw [HLD.out] at this; omega)]
            go_wp2_with fail
            refine (need_yes _).mono ?_; rintro e w' ⟨rfl, hw⟩; obtain rfl := hw.symm; clear hw
            go_wp2_with (at_builtin; refine wpList_app1L rfl _ _ elInt rfl w.heap.size (some ⟨gf, 0, none⟩) (n1 + 1) cf (on fs) rfl R6 (.int .i64 x) rfl rfl (by have := HN1.out; omega) (by omega) hz5 ?_)
            intro g8 c8 w8 o8 b8 gr8 at8
            rw [← HN1.out] at o8 gr8
            have R8 := H5.out.1.appF HS hB o8 gr8 (at8.imp (fun e => by rw [e]) (fun e => e))
            have FIN : Hid _ := R8
            have CU8 : Hid (CurT w8 gc gc (l.drop (4 * (k + 1))) ∧ curLen w8 gc = curLen w5 gc) := HCUR.out w8 gr8
            clear o8 b8 gr8 at8 R8 R6
            go_wp2_with fail
            go_roundw
            case rel => exact ⟨k + 1, fs ++ [x], _, _, by rw [List.length_append, HN1.out]; rfl, FIN.out, CU8.out.1, by omega, by omega, by rw [List.length_append, List.length_singleton]; omega, HF8.out⟩
            case measure => rw [CU8.out.2]; exact HM.out
          · have FIN : Hid (RlP P N S X first w (.panicked badE) w5) := FINP2.out w5 H5.out.1.fr (fun h => by
              have hp : fs ≠ [] ∧ x ≤ fs.getLastD 0 := ⟨fun e => by have h9 := HN1.out; rw [e] at h9; simp at h9, by rw [HLD.out]; omega⟩
              rw [HR.out.2 (HOK4.out h).2, HCONS.out, frA, if_pos hp])
            go_wp2_with fail
            refine (need_no _).mono ?_; rintro e w' ⟨rfl, hw⟩; obtain rfl := hw.symm; clear hw; go_wp2; exact ⟨rfl, FIN.out⟩
end Go.Proofs.YtnohmedccbogkaaGreatDoor

