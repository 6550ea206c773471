import Derived.Test.YthobegpfibfocaaDoorFB20
import Derived.Laws.CopyRow
import Derived.Test.YthobegpfibfocaaDoorFB21
import Derived.Test.YthobegpfibfocaaDoorFB0
/- What a piece makes of a hasher. -/
namespace Go.Proofs.YthobegpfibfocaaDoor
open Go.RowKit
set_option linter.unusedVariables false

def slen : Value → Nat
  | .slice _ n _ => n
  | _ => 0

/-- The hasher has been given the bytes m. -/
def HSt (w : World) (b : Nat) (m : List Int) : Prop := ∃ ch, IsH w b (shaW m (m.length / 64)) ch m.length ∧ ch.take (m.length % 64) = m.drop (64 * (m.length / 64))
theorem HSt.below {w w' : World} {b : Nat} {m : List Int} (h : HSt w b m) (hb : Below w.heap.size w w') : HSt w' b m := by
  obtain ⟨ch, h1, h2⟩ := h
  exact ⟨ch, h1.below hb, h2⟩

/-- What a piece makes of the chunk. -/
def chAdd (ch : List Int) (r : Nat) (x : List Int) : List Int := ch.take r ++ x ++ ch.drop (r + x.length)
theorem chAdd_len (ch : List Int) (r : Nat) (x : List Int) (h : r + x.length ≤ ch.length) : (chAdd ch r x).length = ch.length := by simp [chAdd]; omega
theorem chAdd_isB {ch : List Int} {r : Nat} {x : List Int} (h : IsB ch) (hx : IsB x) : IsB (chAdd ch r x) := by
  refine isB_append (isB_append (isB_take h r) hx) (fun i => ?_)
  have := h (r + x.length + i)
  simpa [List.getD, List.getElem?_drop] using this
theorem chAdd_take (ch : List Int) (r : Nat) (x : List Int) (h : r + x.length ≤ ch.length) : (chAdd ch r x).take (r + x.length) = ch.take r ++ x := by
  unfold chAdd
  rw [List.take_append_of_le_length (by simp; omega), List.take_of_length_le (by simp; omega)]
/-- The cells of a hasher behind a copy into its chunk. -/
theorem hx_copy (v : R8) (ch : List Int) (s r : Nat) (x : List Int) (hc : ch.length = 64) (h : r + x.length ≤ 64) : (hx v ch s).take (8 + r) ++ ob x ++ (hx v ch s).drop (8 + r + x.length) = hx v (chAdd ch r x) s := by
  have e8 : (ow v.list).length = 8 := rfl
  unfold hx chAdd
  rw [List.take_append, List.drop_append, e8, show 8 + r - 8 = r by omega, show 8 + r + x.length - 8 = r + x.length by omega, List.take_of_length_le (by rw [e8]; omega), List.drop_eq_nil_of_le (by rw [e8]; omega), List.nil_append,
    List.take_append_of_le_length (by rw [ob_length]; omega), List.drop_append_of_le_length (by rw [ob_length]; omega)]
  simp [ob, List.map_take, List.map_drop]
theorem hx_setSize (v : R8) (ch : List Int) (s t : Nat) (hc : ch.length = 64) : (hx v ch s).set 72 (.int .i64 (t : Int)) = hx v ch t := by
  have e8 : (ow v.list).length = 8 := rfl
  unfold hx
  rw [List.set_append_right _ _ (by omega), e8, List.set_append_right _ _ (by rw [ob_length]; omega), ob_length, hc]
  rfl

/-- A piece that does not fill the chunk. -/
theorem grow_some (m x ch : List Int) (hc : ch.length = 64) (h : ch.take (m.length % 64) = m.drop (64 * (m.length / 64))) (hf : m.length % 64 + x.length < 64) :
    shaW (m ++ x) ((m ++ x).length / 64) = shaW m (m.length / 64) ∧ (chAdd ch (m.length % 64) x).take ((m ++ x).length % 64) = (m ++ x).drop (64 * ((m ++ x).length / 64)) := by
  have e1 : (m ++ x).length / 64 = m.length / 64 := by rw [List.length_append]; omega
  have e2 : (m ++ x).length % 64 = m.length % 64 + x.length := by rw [List.length_append]; omega
  rw [e1, e2]
  refine ⟨shaW_append m x _ (by omega), ?_⟩
  rw [chAdd_take _ _ _ (by omega), h, List.drop_append_of_le_length (by omega)]
/-- A piece that fills it. -/
theorem grow_full (m x ch : List Int) (hc : ch.length = 64) (h : ch.take (m.length % 64) = m.drop (64 * (m.length / 64))) (hf : m.length % 64 + x.length = 64) :
    shaW (m ++ x) ((m ++ x).length / 64) = mixL (shaW m (m.length / 64)) (chAdd ch (m.length % 64) x) ∧ (m ++ x).length % 64 = 0 ∧ 64 * ((m ++ x).length / 64) = (m ++ x).length := by
  have e1 : (m ++ x).length / 64 = m.length / 64 + 1 := by rw [List.length_append]; omega
  have e2 : (m ++ x).length % 64 = 0 := by rw [List.length_append]; omega
  have e3 : chAdd ch (m.length % 64) x = blk (m ++ x) (m.length / 64) := by
    have t := chAdd_take ch (m.length % 64) x (by omega)
    rw [List.take_of_length_le (by rw [chAdd_len _ _ _ (by omega)]; omega)] at t
    rw [t, h, blk, List.drop_append_of_le_length (by omega), List.take_of_length_le (by simp; omega)]
  rw [e1, e3]
  refine ⟨?_, e2, ?_⟩
  · rw [shaW, shaW_append m x _ (by omega)]
  · have : (m ++ x).length = m.length + x.length := List.length_append
    omega
end Go.Proofs.YthobegpfibfocaaDoor

/- write: bytes go into the chunk. -/
namespace Go.Proofs.YthobegpfibfocaaDoor
open Go.RowKit
set_option linter.unusedVariables false

/-- 'copy', as one step of a region: into the middle of a block. -/
theorem step_copyB {ops : Array Oper} {o : Oper} {a : Act} {w : World} {K : Act → World → Prop} {Q : Exit → Act → World → Prop} {E : Prop} (hgd : o.guard = none) (d s : Operand)
    (ho : o.op = .call { callee := .builtin .copy, args := #[d, s], argTypes := #[22, 22] }) (g off dLen dCap : Nat) (hd : a.eval d = .slice (some ⟨g, off, none⟩) dLen dCap)
    (ad : Addr) (sLen sCap : Nat) (hs : a.eval s = .slice (some ad) sLen sCap) (cur : List Value) (t : TypeId) (hg : Blk w t g cur) (cs : List Value) (hn : cs.length = Nat.min sLen dLen)
    (hsrc : ∀ j v, cs[j]? = some v → w.cell? (ad.add j) = some v) (hfit : off + cs.length ≤ cur.length) (h1 : ∀ v ∈ cs, v.oneCell' = true)
    (h : K (a.put o.dst (goInt cs.length)) (w.setRow g (cur.take off ++ cs ++ cur.drop (off + cs.length)).toArray)) :
    if Region.wanted o (yielded ops a.tmps) = true then Oper.wp Tryd.prog o a w K Q else E := by
  rw [if_pos (show Region.wanted o (yielded ops a.tmps) = true by simp [Region.wanted, hgd])]
  have hrun := run_copy_row (P := Tryd.prog) w 22 22 o.type 5 g off dLen dCap ad sLen sCap cur.toArray t cs Tryd.underlying22 size8 hg hn hsrc (by simpa using hfit) h1
  unfold Oper.wp
  rw [List.append_assoc] at h hrun
  simp [execOp, ho, resolve, invoke, builtin, hd, hs, hrun, Result.andThen]
  exact h

/-- The rest of the chunk, as a slice. -/
theorem run_rest (b r : Nat) (hr : r < 64) (w : World) : (Instr.sliceAt 110 (.pointer (some ⟨b, 8, none⟩)) (some (.int .i64 (r : Int))) none none).run Tryd.prog w = .ok (.slice (some ⟨b, 8 + r, none⟩) (64 - r) (64 - r)) w := by
  have e1 : Tryd.prog.arrayLen 110 = 64 := by kernel_rfl
  have e2 : Tryd.prog.elem 110 = 5 := by kernel_rfl
  have hu : Tryd.prog.underlying 110 = some (.array (Tryd.prog.arrayLen 110) (Tryd.prog.elem 110)) := by rw [e1, e2]; exact Tryd.underlying110
  rw [run_sliceAt_array_l w 110 _ hu .i64 (r : Int) (by omega) (by rw [e1]; omega), e1, e2]
  obtain ⟨i, hi, hz0, hz1, hz2⟩ := info_parts info5
  simp [sizeOf, typeInfo, hi, hz1, slicedAt, Result.andThen, Addr.add_lit]
  omega

theorem hst_some {w : World} {b : Nat} {M x ch : List Int} {s r q : Nat} (hS : M.length = s) (hR : s % 64 = r) (hxl : x.length = q) (hc : ch.length = 64) (hch : ch.take r = M.drop (64 * (s / 64))) (hf : r + q < 64) (h : IsH w b (shaW M (s / 64)) (chAdd ch r x) (s + q)) : HSt w b (M ++ x) := by
  subst hS hR hxl
  obtain ⟨g1, g2⟩ := grow_some M x ch hc hch hf
  refine ⟨chAdd ch (M.length % 64) x, ?_, g2⟩
  rw [g1, List.length_append]
  exact h
theorem hst_full {w : World} {b : Nat} {M x ch : List Int} {s r q : Nat} (hS : M.length = s) (hR : s % 64 = r) (hxl : x.length = q) (hc : ch.length = 64) (hch : ch.take r = M.drop (64 * (s / 64))) (hf : r + q = 64) (h : IsH w b (mixL (shaW M (s / 64)) (chAdd ch r x)) (chAdd ch r x) (s + q)) : HSt w b (M ++ x) := by
  subst hS hR hxl
  obtain ⟨g1, g2, g3⟩ := grow_full M x ch hc hch hf
  refine ⟨chAdd ch (M.length % 64) x, ?_, ?_⟩
  · rw [g1, List.length_append]
    exact h
  · rw [g2, g3]
    simp

set_option maxHeartbeats 4000000 in
set_option maxRecDepth 100000 in
theorem write_calls (b : Nat) (m : List Int) (a : Option Addr) (n c : Nat) (l : List Int) (w : World) (T : Tabs w) (H : HSt w b m) (h : Bs w a n c l) (hne : 0 < n → ∀ g off, a = some ⟨g, off, none⟩ → g ≠ b) (hm : m.length + n ≤ 1099511627776) :
    Calls Tryd.prog 38 #[.pointer (some ⟨b, 0, none⟩), .slice a n c] w fun e w' => e = .returned (.tuple #[]) ∧ OnlyB b w w' ∧ HSt w' b (m ++ l) := by
  have hl := h.len_eq
  have hle := h.le
  have hB := h.byte
  obtain ⟨ab, off, hab⟩ : ∃ ab off, 0 < n → a = some ⟨ab, off, none⟩ ∧ ab ≠ b ∧ ab < w.heap.size ∧ ∀ i, i < n → w.cell? ⟨ab, off + i, none⟩ = some (.int .u8 (l.getD i 0)) := by
    by_cases h0 : 0 < n
    · obtain ⟨g, off, e, h1, h2⟩ := h.at_ h0
      exact ⟨g, off, fun _ => ⟨e, hne h0 g off e, h1, h2⟩⟩
    · exact ⟨0, 0, fun h => absurd h h0⟩
  obtain ⟨ch0, HH, _⟩ := H
  have hn1 := HH.ne1
  have hn2 := HH.ne2
  have H0 : HSt w b m := ⟨ch0, HH, by assumption⟩
  have HX : Hid _ := And.intro hab (And.intro T H0)
  clear hab T H0 HH hne h
  go_enter Tryd.func38, Tryd.ntmps38
  go_wp2
  go_loopw [1] (fun o wr => ∃ i a', i ≤ n ∧ o = .slice a' (n - i) (c - i) ∧ (i < n → a' = some ⟨ab, off + i, none⟩) ∧ OnlyB b w wr ∧ HSt wr b (m ++ l.take i)) (fun o _ => slen o)
  case atStart => exact ⟨0, a, Nat.zero_le _, rfl, fun h => (HX.out.1 h).1, OnlyB.refl _ _, by simpa using HX.out.2.2⟩
  case round =>
    obtain ⟨i, a', hi, rfl, ha', ho, ch, HI, hch⟩ := hrel
    by_cases hlt : i < n
    · obtain rfl := ha' hlt
      have hq0 : 0 < n - i := by omega
      have hML : (m ++ l.take i).length = m.length + i := by simp; omega
      obtain ⟨M, hM⟩ : ∃ M, M = m ++ l.take i := ⟨_, rfl⟩
      rw [← hM] at HI hch hML
      have hcl := HI.len
      have cs := HI.blk.cell 72
      rw [hx_size _ _ _ hcl] at cs
      have hs : M.length ≤ 1099511627776 := by omega
      have HML : Hid _ := And.intro hML hM
      clear hML hM
      generalize hS : M.length = s at *
      have HS : Hid _ := hS
      clear hS
      have er : ((s : Int)).tmod 64 = ((s % 64 : Nat) : Int) := by rw [Int.tmod_eq_emod_of_nonneg (by omega)]; omega
      have hr : s % 64 < 64 := Nat.mod_lt _ (by omega)
      generalize hR : s % 64 = r at *
      have hsl := run_rest b r hr
      have HR : Hid _ := hR
      clear hR
      have hin : (0 : Int) < ((n - i : Nat) : Int) := by omega
      go_wp2_with fail
      refine wp_regionD (fun v => v.cell? ⟨b, 72, none⟩ = some (.int .i64 (s : Nat))) (fun j => decide (10 ≤ j)) (by kernel_rfl) ?_
      refine wpAnyD_takeT 0 8 (v := ?vv0) rfl rfl (by kernel_rfl) (by kernel_rfl) (by kernel_rfl) (by kernel_rfl) (fun _ _ _ h => h) (Or.inl ⟨by rfl, ?hy0⟩) cs ?rest0
      case hy0 => (intro w hSw; (try dsimp only at hSw); go_simp; try with_reducible rfl)
      simp only [Act.put, List.setIfInBounds_toArray, List.set_cons_zero, List.set_cons_succ]
      refine wpAnyD_takeT 1 9 (v := ?vv1) rfl rfl (by kernel_rfl) (by kernel_rfl) (by kernel_rfl) (by kernel_rfl) (fun _ _ _ h => h) (Or.inl ⟨by rfl, ?hy1⟩) cs ?rest1
      case hy1 => (intro w hSw; (try dsimp only at hSw); go_simp; try with_reducible rfl)
      simp only [Act.put, List.setIfInBounds_toArray, List.set_cons_zero, List.set_cons_succ]
      refine wpAnyD_takeT 2 10 (v := ?vv2) rfl rfl (by kernel_rfl) (by kernel_rfl) (by kernel_rfl) (by kernel_rfl) (fun _ _ _ h => h) (Or.inl ⟨by rfl, ?hy2⟩) cs ?rest2
      case hy2 => (intro w hSw; (try dsimp only at hSw); go_simp; try with_reducible rfl)
      simp only [Act.put, List.setIfInBounds_toArray, List.set_cons_zero, List.set_cons_succ]
      refine wpAnyD_takeT 3 11 (v := ?vv3) rfl rfl (by kernel_rfl) (by kernel_rfl) (by kernel_rfl) (by kernel_rfl) (fun _ _ _ h => h) (Or.inl ⟨by rfl, ?hy3⟩) cs ?rest3
      case hy3 => (intro w hSw; (try dsimp only at hSw); go_simp; try with_reducible rfl)
      simp only [Act.put, List.setIfInBounds_toArray, List.set_cons_zero, List.set_cons_succ]
      refine wpAnyD_takeT 4 12 (v := ?vv4) rfl rfl (by kernel_rfl) (by kernel_rfl) (by kernel_rfl) (by kernel_rfl) (fun _ _ _ h => h) (Or.inl ⟨by rfl, ?hy4⟩) cs ?rest4
      case hy4 => (intro w hSw; (try dsimp only at hSw); go_simp; try with_reducible rfl)
      simp only [Act.put, List.setIfInBounds_toArray, List.set_cons_zero, List.set_cons_succ]
      refine wpAnyD_takeT 5 13 (v := ?vv5) rfl rfl (by kernel_rfl) (by kernel_rfl) (by kernel_rfl) (by kernel_rfl) (fun _ _ _ h => h) (Or.inl ⟨by rfl, ?hy5⟩) cs ?rest5
      case hy5 => (intro w hSw; (try dsimp only at hSw); go_simp; try with_reducible rfl)
      simp only [Act.put, List.setIfInBounds_toArray, List.set_cons_zero, List.set_cons_succ]
      refine wpAnyD_takeT 6 14 (v := ?vv6) rfl rfl (by kernel_rfl) (by kernel_rfl) (by kernel_rfl) (by kernel_rfl) (fun _ _ _ h => h) (Or.inl ⟨by rfl, ?hy6⟩) cs ?rest6
      case hy6 => (intro w hSw; (try dsimp only at hSw); go_simp; try with_reducible rfl)
      simp only [Act.put, List.setIfInBounds_toArray, List.set_cons_zero, List.set_cons_succ]
      refine wpAnyD_takeT 7 15 (v := ?vv7) rfl rfl (by kernel_rfl) (by kernel_rfl) (by kernel_rfl) (by kernel_rfl) (fun _ _ _ h => h) (Or.inl ⟨by rfl, ?hy7⟩) cs ?rest7
      case hy7 => (intro w hSw; (try dsimp only at hSw); go_simp; try with_reducible rfl)
      simp only [Act.put, List.setIfInBounds_toArray, List.set_cons_zero, List.set_cons_succ]
      refine wpAnyD_takeT 8 16 (v := ?vv8) rfl rfl (by kernel_rfl) (by kernel_rfl) (by kernel_rfl) (by kernel_rfl) (fun _ _ _ h => h) (Or.inl ⟨by rfl, ?hy8⟩) cs ?rest8
      case hy8 => (intro w hSw; (try dsimp only at hSw); go_simp; try with_reducible rfl)
      simp only [Act.put, List.setIfInBounds_toArray, List.set_cons_zero, List.set_cons_succ]
      refine wpAnyD_takeT 9 17 (v := ?vv9) rfl rfl (by kernel_rfl) (by kernel_rfl) (by kernel_rfl) (by kernel_rfl) (fun _ _ _ h => h) (Or.inl ⟨by rfl, ?hy9⟩) cs ?rest9
      case hy9 => (intro w hSw; (try dsimp only at hSw); go_simp; try with_reducible rfl)
      simp only [Act.put, List.setIfInBounds_toArray, List.set_cons_zero, List.set_cons_succ]
      obtain ⟨q, hq⟩ : ∃ q, q = Nat.min (n - i) (64 - r) := ⟨_, rfl⟩
      have hq1 : q ≤ n - i := by rw [hq]; exact Nat.min_le_left _ _
      have hq2 : q ≤ 64 - r := by rw [hq]; exact Nat.min_le_right _ _
      have hq3 : 0 < q := by rw [hq]; exact Nat.lt_min.2 ⟨by omega, by omega⟩
      have hq4 : q = n - i ∨ q = 64 - r := by rw [hq]; show min (n - i) (64 - r) = _ ∨ min (n - i) (64 - r) = _; omega
      have HQE : Hid _ := hq
      clear hq
      obtain ⟨x, hxx⟩ : ∃ x, x = (l.drop i).take q := ⟨_, rfl⟩
      have hxl : x.length = q := by rw [hxx]; simp; omega
      have hxB : IsB x := by rw [hxx]; exact isB_take (fun j => by have := hB (i + j); simpa [List.getD, List.getElem?_drop] using this) q
      have hsrc : ∀ j v, (ob x)[j]? = some v → wr.cell? ⟨ab, off + i + j, none⟩ = some v := fun j v hv => by
        have hj : j < q := by have := (List.getElem?_eq_some_iff.1 hv).1; rw [ob_length] at this; omega
        obtain ⟨_, hne, hlt3, hc⟩ := HX.out.1 (by omega)
        rw [ob_getElem? x j (by omega)] at hv
        rw [World.cell?_of_block (a := ⟨ab, off + i + j, none⟩) (ho.block ab hlt3 hne), Nat.add_assoc, hc (i + j) (by omega), ← hv, hxx]
        simp [List.getD, List.getElem?_drop, hj]
      have HX4 : Hid _ := hq4
      clear hq4
      have HXX : Hid (l.take i ++ x = l.take (i + q)) := by
        show _ = _
        rw [hxx, List.take_add]
      refine wpAnyD_one 10 (by kernel_rfl) rfl (fun KK hK => ?_)
      refine step_copyB rfl _ _ rfl b (8 + r) (64 - r) (64 - r) rfl ⟨ab, off + i, none⟩ (n - i) (c - i) rfl (hx (shaW M (s / 64)) ch s) 112 ?_ (ob x) ?_ ?_ ?_ ?_ ?_
      · exact HI.blk
      · rw [ob_length, hxl]; exact HQE.out
      · intro j v hv
        rw [Addr.add_lit]
        exact hsrc j v hv
      · rw [ob_length, hxl]
        have : (hx (shaW M (s / 64)) ch s).length = 73 := by simp [hx, ow, ob, R8.list, hcl]
        omega
      · exact ob_oneCell x
      rw [ob_length, hxl]
      have eC := hx_copy (shaW M (s / 64)) ch s r x hcl (by omega)
      rw [hxl] at eC
      rw [eC]
      have kC := Blk.setRow (w := wr.drew) HI.blk (hx (shaW M (s / 64)) (chAdd ch r x) s)
      have oC : OnlyB b w (wr.drew.setRow b (hx (shaW M (s / 64)) (chAdd ch r x) s).toArray) := ho.drew.trans (onlyB_setRow _ b _)
      clear eC hsrc cs
      generalize wr.drew.setRow b (hx (shaW M (s / 64)) (chAdd ch r x) s).toArray = W1 at *
      refine hK.out _ _ (fun h => by cases h) ?_
      clear hK KK
      refine wpAnyD_one 11 (by kernel_rfl) rfl (fun KK hK => ?_)
      go_simp
      refine hK.out _ _ (fun h => by cases h) ?_
      clear hK KK
      refine wpAnyD_done (by kernel_rfl) ?_ _
      have hl2 : (chAdd ch r x).length = 64 := by rw [chAdd_len _ _ _ (by omega)]; exact hcl
      have c2 := kC.cell 72
      rw [hx_size _ _ _ hl2] at c2
      have f2 := kC.free 72
      have FACTS : Blk (W1.setCell ⟨b, 72, none⟩ (.int .i64 ((s : Int) + (q : Int)))) 112 b (hx (shaW M (s / 64)) (chAdd ch r x) (s + q)) ∧ OnlyB b w (W1.setCell ⟨b, 72, none⟩ (.int .i64 ((s : Int) + (q : Int)))) ∧ (W1.setCell ⟨b, 72, none⟩ (.int .i64 ((s : Int) + (q : Int)))).cell? ⟨b, 72, none⟩ = some (.int .i64 ((s : Int) + (q : Int))) := by
        have e : (s : Int) + (q : Int) = ((s + q : Nat) : Int) := by omega
        rw [e]
        have kS := kC.set 72 (.int .i64 ((s + q : Nat) : Int))
        rw [hx_setSize _ _ _ _ hl2] at kS
        exact ⟨kS, oC.trans (onlyB_setCell W1 b 72 (.int .i64 ((s + q : Nat) : Int))), by rw [kS.cell, hx_size _ _ _ hl2]⟩
      obtain ⟨kS, oS, c3⟩ := FACTS
      have HC : Hid _ := And.intro kS (And.intro oS (And.intro hl2 (chAdd_isB (r := r) HI.byte hxB)))
      have hqi : (q : Int) ≤ ((n - i : Nat) : Int) := by omega
      have hq0' : (0 : Int) ≤ (q : Int) := by omega
      have HQ : Hid _ := And.intro hq1 (And.intro hq2 (And.intro hq3 hxl))
      have HW : Hid _ := HI
      have hTT := HX.out.2.1.only HC.out.2.1 hn1 hn2
      have HT : Hid _ := hTT
      have RES : Hid (∀ (a'' : Option Addr) (nn cc : Nat) (w' : World), nn = n - (i + q) → cc = c - (i + q) → OnlyB b w w' → HSt w' b (M ++ x) → (i + q < n → a'' = some ⟨ab, off + (i + q), none⟩) → ∃ i2 a2, i2 ≤ n ∧ Value.slice a'' nn cc = .slice a2 (n - i2) (c - i2) ∧ (i2 < n → a2 = some ⟨ab, off + i2, none⟩) ∧ OnlyB b w w' ∧ HSt w' b (m ++ l.take i2)) := fun a'' nn cc w' e1 e2 h1 h2 h3 =>
        ⟨i + q, a'', by have := HQ.out.1; omega, by rw [e1, e2], h3, h1, by rw [← HXX.out, ← List.append_assoc, ← HML.out.2]; exact h2⟩
      clear kC oC kS oS hq1 hq2 hxx hxl hxB hTT HI ho hsl er hcl
      by_cases hfull : r + q = 64
      · have ht : (((s : Int) + (q : Int)) % 64 == 0) = true := by
          have := HR.out
          simp; omega
        by_cases hcap : c - i = q
        · go_wp2_with fail
          refine (mix_calls b (s + q) (shaW M (s / 64)) (chAdd ch r x) _ HT.out ⟨HC.out.1, HC.out.2.2.1, HC.out.2.2.2, HW.out.ok, hn1, hn2⟩).mono ?_
          rintro e w3 ⟨rfl, o3, i3⟩
          go_wp2
          go_roundw
          case rel => exact RES.out _ _ _ _ (by omega) (by omega) (HC.out.2.1.trans o3) (hst_full HS.out HR.out HQ.out.2.2.2 HW.out.len hch hfull i3) (fun h => absurd h (by omega))
          case measure => simp [slen]; have := HQ.out.1; omega
        · go_wp2_with fail
          refine (mix_calls b (s + q) (shaW M (s / 64)) (chAdd ch r x) _ HT.out ⟨HC.out.1, HC.out.2.2.1, HC.out.2.2.2, HW.out.ok, hn1, hn2⟩).mono ?_
          rintro e w3 ⟨rfl, o3, i3⟩
          go_wp2
          go_roundw
          case rel => exact RES.out _ _ _ _ (by omega) (by omega) (HC.out.2.1.trans o3) (hst_full HS.out HR.out HQ.out.2.2.2 HW.out.len hch hfull i3) (fun h => by rw [Nat.add_assoc])
          case measure => simp [slen]; have := HQ.out.1; omega
      · have ht : (((s : Int) + (q : Int)) % 64 == 0) = false := by
          have := HR.out
          have := HQ.out.2.1
          have := HQ.out.2.2.1
          simp; omega
        by_cases hcap : c - i = q
        · go_wp2
          go_roundw
          case rel => exact RES.out _ _ _ _ (by omega) (by omega) HC.out.2.1 (hst_some HS.out HR.out HQ.out.2.2.2 HW.out.len hch (by have := HQ.out.2.1; omega) ⟨HC.out.1, HC.out.2.2.1, HC.out.2.2.2, HW.out.ok, hn1, hn2⟩) (fun h => absurd h (by omega))
          case measure => simp [slen]; have := HQ.out.1; omega
        · go_wp2
          go_roundw
          case rel => exact RES.out _ _ _ _ (by omega) (by omega) HC.out.2.1 (hst_some HS.out HR.out HQ.out.2.2.2 HW.out.len hch (by have := HQ.out.2.1; omega) ⟨HC.out.1, HC.out.2.2.1, HC.out.2.2.2, HW.out.ok, hn1, hn2⟩) (fun h => by rw [Nat.add_assoc])
          case measure => simp [slen]; have := HQ.out.1; omega
    · have e : i = n := by omega
      subst e
      go_wp2
      go_end0
      have HE : HSt wr b (m ++ l.take i) := ⟨ch, HI, hch⟩
      rw [List.take_of_length_le (by omega)] at HE
      exact ⟨rfl, ho, HE⟩
end Go.Proofs.YthobegpfibfocaaDoor

namespace Go.Proofs.YthobegpfibfocaaDoor
open Go.RowKit

theorem take_set_rep (l : List Int) (k : Nat) (h : k < l.length) :
    ((ob (l.take k)) ++ List.replicate (l.length - k) (Value.int .u8 0)).set k (.int .u8 (l.getD k 0)) = (ob (l.take (k + 1))) ++ List.replicate (l.length - (k + 1)) (Value.int .u8 0) := by
  have e : l.length - k = (l.length - (k + 1)) + 1 := by omega
  have e2 : (ob (l.take k)).length = k := by simp [ob]; omega
  have e3 : ob (l.take (k + 1)) = ob (l.take k) ++ [.int .u8 (l.getD k 0)] := by
    rw [List.take_succ_eq_append_getElem h]
    simp only [ob, List.map_append, List.map_cons, List.map_nil, List.getD, List.getElem?_eq_getElem h, Option.getD_some]
  rw [e, List.replicate_succ, List.set_append_right _ _ (by omega), e2, Nat.sub_self, List.set_cons_zero, e3, List.append_assoc]
  rfl

theorem made_rep (n : Nat) : (madeCells #[Value.int .u8 0] n).toList = List.replicate n (Value.int .u8 0) := by
  apply List.ext_getElem
  · simp [madeCells]
  · intro i h1 h2
    simp [madeCells, Nat.mod_one]

set_option maxHeartbeats 400000 in
theorem toByteS_calls (a : Option Addr) (n cap : Nat) (l : List Int) (w : World) (h : Bs w a n cap l) (hn : n ≤ 1048576) :
    Calls Tryd.prog 9 #[.slice a n cap] w fun e w' => ∃ g, e = .returned (.slice (some ⟨g, 0, none⟩) n n) ∧ Below w.heap.size w w' ∧ w'.ownsRow w.heap.size 5 1 (.slice (some ⟨g, 0, none⟩) n n) n (ob l) := by
  obtain ⟨i, hi, hz0, hz1, hz2⟩ := info_parts info5
  go_enter Tryd.func9, Tryd.ntmps9
  go_wp2_with (at_make; refine wpList_make_full _ rfl _ _ 22 rfl w.heap.size 5 i _ 1 Tryd.underlying22 hi hz0 hz1 _ _ _ _ n rfl rfl rfl rfl ?b1 ?b2 ?b3 ?_)
  case b1 => rw [hz2]; omega
  case b2 => unfold maxLen; omega
  case b3 => exact Nat.le_refl _
  clear hi hz0 hz1 hz2
  intro w1 hown hgr
  rw [made_rep] at hown
  have hbel : Below w.heap.size w w1 := (Below.refl _ _).grown hgr (Nat.le_refl _) (fun _ e => by cases e)
  go_wp2
  go_loopw [4] (fun i wr => ∃ k : Nat, k ≤ n ∧ i = .int .i64 k ∧ Below w.heap.size w wr ∧ wr.ownsRow w.heap.size 5 1 (.slice (some ⟨w.heap.size, 0, none⟩) n n) n (ob (l.take k) ++ List.replicate (n - k) (Value.int .u8 0))) (fun i _ => n - (intOf i).toNat)
  case atStart => exact ⟨0, Nat.zero_le _, rfl, hbel, by simpa [ob] using hown⟩
  case round =>
    obtain ⟨k, hk, rfl, hb, ho⟩ := hrel
    by_cases hlt : k < n
    · obtain ⟨b, off, rfl, hbl, hc⟩ := h.at_ (by omega)
      have hca : wr.cell? ⟨b, off + k, none⟩ = some (.int .u8 (l.getD k 0)) := by rw [hb.cell (p := ⟨b, off + k, none⟩) hbl]; exact hc k hlt
      have hco : wr.cell? ⟨w.heap.size, k, none⟩ = some (.int .u8 0) := by
        rw [ho.cellAt k (by omega)]
        have e2 : (ob (l.take k)).length = k := by simp [ob]; have := h.len_eq; omega
        rw [List.getElem?_append_right (by omega), e2, Nat.sub_self]
        rw [List.getElem?_replicate, if_pos (by omega)]
      have hfr : wr.frozen? ⟨w.heap.size, k, none⟩ = false := ho.frozenAt k
      have ho' := ho.stored k (.int .u8 (l.getD k 0))
      have hts := take_set_rep l k (by have := h.len_eq; omega)
      rw [h.len_eq] at hts
      rw [hts] at ho'
      have HO : Hid (World.ownsRow (wr.setCell ⟨w.heap.size, k, none⟩ (.int .u8 (l.getD k 0))) w.heap.size 5 1 (.slice (some ⟨w.heap.size, 0, none⟩) n n) n (ob (l.take (k + 1)) ++ List.replicate (n - (k + 1)) (Value.int .u8 0))) := ho'.1
      clear ho' hts ho hown hgr hbel
      go_wp2
      go_roundw
      case rel => exact ⟨k + 1, by omega, by go_num, hb.setCell (Nat.le_refl _) _, HO.out⟩
      case measure => simp [intOf]; omega
    · have e : k = n := by omega
      subst e
      go_wp2
      go_ret
      refine ⟨w.heap.size, rfl, hb, ?_⟩
      have e1 : l.take k = l := List.take_of_length_le (by have := h.len_eq; omega)
      rw [e1, Nat.sub_self, List.replicate_zero, List.append_nil] at ho
      exact ho
end Go.Proofs.YthobegpfibfocaaDoor

