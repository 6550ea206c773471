import Derived.Test.YtnohmedccbogkaaGreatDoorDi24
import Derived.Test.YtnohmedccbogkaaGreatDoorDi2
import Derived.Test.YtnohmedccbogkaaGreatDoorDi23
import Derived.Test.YtnohmedccbogkaaGreatDoorDi3
import Derived.Test.YtnohmedccbogkaaGreatDoorDi4
import Derived.Laws.Append
import Derived.Deep.DeepCutAuto
import Derived.Deep.RegionWith
import Derived.Test.YtnohmedccbogkaaGreatDoorDi0
import Derived.Laws.BitsAllLaws
import Derived.Laws.Shifts
namespace Go.Proofs.YtnohmedccbogkaaGreatDoor
open Go.RowKit
set_option linter.unusedVariables false
theorem addr_add (b j : Nat) : (⟨b, 0, none⟩ : Addr).add j = ⟨b, 0 + j, none⟩ := by
  unfold Addr.add
  split
  · rename_i h; subst h; rfl
  · rfl
theorem infU8 : (Tryz.prog.info? 5).map (fun i => (i.zero, i.size, i.bytes)) = some (some (.int .u8 0), 1, 1) := by kernel_rfl
theorem wp_appFull {w : World} {o : Oper} {act : Act} {K : Act → World → Prop} {Q : Exit → Act → World → Prop} (s x : Operand) (ho : o.op = .call { callee := .builtin .append, args := #[s, x], argTypes := #[70, 70] })
    (b : Nat) (n : Nat) (l : List Int) (hs : act.eval s = .slice (some ⟨b, 0, none⟩) n n) (hb : Bs w (some ⟨b, 0, none⟩) n n l) (a : Nat) (y : Int) (hx : act.eval x = .slice (some ⟨a, 0, none⟩) 1 1) (ha : Bs w (some ⟨a, 0, none⟩) 1 1 [y]) (hn : 0 < n) (hn2 : n ≤ 1048576)
    (h : ∀ c w', Below w.heap.size w w' → Bs w' (some ⟨w.heap.size, 0, none⟩) (n + 1) c (l ++ [y]) → K (act.put o.dst (.slice (some ⟨w.heap.size, 0, none⟩) (n + 1) c)) w') : o.wp Tryz.prog act w K Q := by
  obtain ⟨i, hi, h0, h1, h2⟩ := info_parts infU8
  have hll := hb.len_eq
  have co : ∀ j v, (ob l)[j]? = some v → w.cell? ((⟨b, 0, none⟩ : Addr).add j) = some v := fun j v hv => by
    have hj : j < n := by have := (List.getElem?_eq_some_iff.1 hv).1; rw [ob_length] at this; omega
    obtain ⟨_, _, e, _, hc⟩ := hb.at_ hn
    cases e
    have := hc j hj
    rw [ob_getElem? _ j (by omega)] at hv
    rw [← hv, addr_add]
    exact this
  have cn : ∀ j v, (ob [y])[j]? = some v → w.cell? ((⟨a, 0, none⟩ : Addr).add j) = some v := fun j v hv => by
    have hj : j < 1 := by have := (List.getElem?_eq_some_iff.1 hv).1; rw [ob_length] at this; simpa using this
    obtain ⟨_, _, e, _, hc⟩ := ha.at_ (by omega)
    cases e
    have := hc j hj
    rw [ob_getElem? _ j (by simpa using hj)] at hv
    rw [← hv, addr_add]
    exact this
  have R := run_append_grow (P := Tryz.prog) w 70 o.type 5 i (.int .u8 0) Tryz.underlying70 hi h0 ⟨b, 0, none⟩ n n (ob l) (by rw [ob_length, h1]; omega) co ⟨a, 0, none⟩ 1 1 (ob [y]) (by rw [ob_length, h1]; rfl) cn (by omega) (by omega) (by
    rw [h2]
    exact growslice_fits (by omega) (by omega))
  unfold Oper.wp execOp
  simp only [ho, resolve, invoke, builtin, Sem.run_bind, Sem.run_pure, Result.andThen_ok, List.map_toArray, List.map_cons, List.map_nil, hs, hx, R]
  have hcg := grownCap_ge w (n + 1) n 5
  have hcm := grownCap_le_maxLen w (n + 1) n 5 (by unfold maxLen; omega)
  generalize grownCap w (n + 1) n 5 = cp at *
  have kb := blk_new w.drew 5 ((ob l).toArray ++ (ob [y]).toArray ++ Builtin.zeroCells (Value.int .u8 0).cells (cp - (n + 1)))
  have q : Below w.heap.size w (w.drew.alloc (Obj.cells ((ob l).toArray ++ (ob [y]).toArray ++ Builtin.zeroCells (Value.int .u8 0).cells (cp - (n + 1))) 5)) := (show Below w.heap.size w w.drew from ⟨rfl, rfl, rfl, Nat.le_refl _, fun _ _ => rfl⟩).alloc (Nat.le_refl _) _
  refine h _ _ q ⟨by rw [List.length_append, hll]; rfl, hcg, hcm, fun e => (by cases e), fun _ => ⟨w.heap.size, 0, rfl, by simp, fun j hj => ?_⟩, ?_⟩
  · rw [show 0 + j = j by omega]
    have kb' : Blk (w.drew.alloc (Obj.cells ((ob l).toArray ++ (ob [y]).toArray ++ Builtin.zeroCells (Value.int .u8 0).cells (cp - (n + 1))) 5)) 5 w.heap.size ((ob l).toArray ++ (ob [y]).toArray ++ Builtin.zeroCells (Value.int .u8 0).cells (cp - (n + 1))).toList := kb
    rw [kb'.cell j]
    have e : ((ob l).toArray ++ (ob [y]).toArray ++ Builtin.zeroCells (Value.int .u8 0).cells (cp - (n + 1))).toList = ob (l ++ [y]) ++ (Builtin.zeroCells (Value.int .u8 0).cells (cp - (n + 1))).toList := by simp [ob]
    have hlen : (ob (l ++ [y])).length = n + 1 := by rw [ob_length, List.length_append, hll]; rfl
    rw [e, List.getElem?_append_left (by omega), ob_getElem? _ j (by rw [List.length_append, hll]; exact hj)]
  · exact isB_append hb.byte ha.byte
theorem wpList_appFull {w : World} {ops : Array Oper} {rest : List Oper} {o : Oper} {act : Act} {Q : Exit → Act → World → Prop} (hgd : o.guard = none) (s x : Operand) (ho : o.op = .call { callee := .builtin .append, args := #[s, x], argTypes := #[70, 70] })
    (b : Nat) (n : Nat) (l : List Int) (hs : act.eval s = .slice (some ⟨b, 0, none⟩) n n) (hb : Bs w (some ⟨b, 0, none⟩) n n l) (a : Nat) (y : Int) (hx : act.eval x = .slice (some ⟨a, 0, none⟩) 1 1) (ha : Bs w (some ⟨a, 0, none⟩) 1 1 [y]) (hn : 0 < n) (hn2 : n ≤ 1048576)
    (h : ∀ c w', Below w.heap.size w w' → Bs w' (some ⟨w.heap.size, 0, none⟩) (n + 1) c (l ++ [y]) → wpList Tryz.prog ops Q rest (act.put o.dst (.slice (some ⟨w.heap.size, 0, none⟩) (n + 1) c)) w') : wpList Tryz.prog ops Q (o :: rest) act w :=
  wpList_plain hgd fun _ hK => wp_appFull s x ho b n l hs hb a y hx ha hn hn2 fun c w' h1 h2 => hK _ _ (h c w' h1 h2)
theorem blk_bs {w : World} {t g n : Nat} {l : List Int} (h : Blk w t g (ob l)) (hl : l.length = n) (hn : n ≤ 1048576) (hB : IsB l) : Bs w (some ⟨g, 0, none⟩) n n l :=
  ⟨hl, Nat.le_refl _, by unfold maxLen; omega, fun e => (by cases e), fun _ => ⟨g, 0, rfl, h.lt, fun i hi => by rw [show 0 + i = i by omega, h.cell i]; exact ob_getElem? l i (by omega)⟩, hB⟩
theorem son_app2 (l m : List Int) : strOfNums l ++ strOfNums m = strOfNums (l ++ m) := by
  apply ByteArray.ext
  simp [strOfNums]
set_option maxHeartbeats 2000000 in
set_option maxRecDepth 100000 in
theorem hashText_calls (l : List Int) (n : Int) (hl : l.length = 32) (hB : IsB l) (h0 : 0 ≤ n) (h1 : n < 256) (w : World) :
    Calls Tryz.prog 133 #[.agg (ob l).toArray, .int .i64 n] w fun e w' => e = .returned (.string (strOfNums (l ++ [n]))) ∧ Below w.heap.size w w' := by
  have k0 : Blk (w.alloc (Obj.cells (ob l).toArray 32)) 32 w.heap.size (ob l) := blk_new w 32 (ob l).toArray
  have q0 : Below w.heap.size w (w.alloc (Obj.cells (ob l).toArray 32)) := (Below.refl _ _).alloc (Nat.le_refl _) _
  go_enter Tryz.func133, Tryz.ntmps133
  go_upto_region 1 with fail
  generalize w.alloc (Obj.cells (ob l).toArray 32) = W0 at *
  have q1 : Below W0.heap.size W0 (W0.alloc (.cells #[.int .u8 n] 5)) := (Below.refl _ _).alloc (Nat.le_refl _) _
  have R0 := (blk_bs k0 hl (by omega) hB).below q1
  have R1 := bs_lit1 W0 n h0 h1
  have HB : Hid _ := q0.trans (q1.mono q0.size)
  have HZ : Hid ((W0.alloc (.cells #[.int .u8 n] 5)).heap.size = W0.heap.size + 1) := by show (W0.alloc (.cells #[.int .u8 n] 5)).heap.size = _; simp
  clear k0 q0 q1
  go_wp2_with (refine wpList_appFull rfl _ _ rfl w.heap.size 32 l rfl R0 W0.heap.size n rfl R1 (by omega) (by omega) ?_; rintro cx wx bx rx; have kc := conv_bsD (n := 33) rx; rw [HZ.out] at kc)
  go_ret
  exact ⟨rfl, HB.out.trans (bx.mono HB.out.size)⟩
def kyC (p : List Int × Int) : ByteArray := strOfNums (99 :: (p.1 ++ [p.2]))
set_option maxHeartbeats 2000000 in
set_option maxRecDepth 100000 in
theorem coinKey_calls (p : List Int × Int) (hl : p.1.length = 32) (hB : IsB p.1) (h0 : 0 ≤ p.2) (h1 : p.2 < 256) (w : World) :
    Calls Tryz.prog 92 #[.agg (pc p).toArray] w fun e w' => e = .returned (.string (kyC p)) ∧ Below w.heap.size w w' := by
  have k0 : Blk (w.alloc (Obj.cells (pc p).toArray 52)) 52 w.heap.size (pc p) := blk_new w 52 (pc p).toArray
  have q0 : Below w.heap.size w (w.alloc (Obj.cells (pc p).toArray 52)) := (Below.refl _ _).alloc (Nat.le_refl _) _
  go_enter Tryz.func92, Tryz.ntmps92
  go_upto_region 1 with fail
  change Code.wp _ _ _ _ (w.alloc (Obj.cells (pc p).toArray 52))
  generalize w.alloc (Obj.cells (pc p).toArray 52) = W0 at *
  have HT := hashText_calls p.1 p.2 hl hB h0 h1 W0
  have hc5 : ∀ j u, (ob p.1)[j]? = some u → W0.cell? ⟨w.heap.size, 0 + j, none⟩ = some u := fun j u hu => by
    have hj : j < 32 := by have := (List.getElem?_eq_some_iff.1 hu).1; rw [ob_length] at this; omega
    rw [show 0 + j = j by omega, k0.cell j, pc_id p hl j hj, ← hu, ob_getElem? _ j (by omega)]
  have c32 : W0.cell? ⟨w.heap.size, 32, none⟩ = some (.int .i64 p.2) := (k0.cell 32).trans (pc_n p hl)
  have s2 : (Tryz.prog.info? 32).map (·.size) = some (ob p.1).length := by rw [ob_length, hl]; exact sizeH
  have HQ : Hid _ := q0
  have HK : Hid (kyC p = ⟨#[99]⟩ ++ strOfNums (p.1 ++ [p.2])) := by
    show kyC p = _
    unfold kyC
    rw [show (⟨#[99]⟩ : ByteArray) = strOfNums [99] from rfl, son_app2]
    rfl
  have hsz : ((strOfNums (p.1 ++ [p.2])).size : Int) = 33 := by rw [strOfNums_size, List.length_append, hl]; rfl
  generalize strOfNums (p.1 ++ [p.2]) = tx at *
  have hcc : ¬ (9223372036854775807 : Int) < 1 + (tx.size : Int) := by omega
  clear k0 q0 hsz
  go_wp2_with (refine wpList_load_at rfl 32 _ rfl w.heap.size 0 rfl (ob p.1) _ hc5 Tryz.underlying32 rfl s2 ?_)
  refine HT.mono ?_
  rintro e w1 ⟨rfl, b1⟩
  have FIN : Hid _ := HQ.out.trans (b1.mono HQ.out.size)
  clear HT b1
  go_wp2_with fail
  go_ret
  rw [HK.out]
  exact ⟨rfl, FIN.out⟩
end Go.Proofs.YtnohmedccbogkaaGreatDoor

namespace Go.Proofs.YtnohmedccbogkaaGreatDoor
open Go.RowKit
theorem take_set_rep (l : List Int) (k : Nat) (h : k < l.length) :
    ((ob (l.take k)) ++ List.replicate (l.length - k) (Value.int .u8 0)).set k (.int .u8 (l.getD k 0)) = (ob (l.take (k + 1))) ++ List.replicate (l.length - (k + 1)) (Value.int .u8 0) := by
  have e : l.length - k = (l.length - (k + 1)) + 1 := by omega
  have e2 : (ob (l.take k)).length = k := by simp [ob]; omega
  have e3 : ob (l.take (k + 1)) = ob (l.take k) ++ [.int .u8 (l.getD k 0)] := by
    rw [List.take_succ_eq_append_getElem h]
    simp only [ob, List.map_append, List.map_cons, List.map_nil, List.getD, List.getElem?_eq_getElem h, Option.getD_some]
  rw [e, List.replicate_succ, List.set_append_right _ _ (by omega), e2, Nat.sub_self, List.set_cons_zero, e3, List.append_assoc]
  rfl
theorem made_rep (n : Nat) : (madeCells #[Value.int .u8 0] n).toList = List.replicate n (Value.int .u8 0) := by
  apply List.ext_getElem
  · simp [madeCells]
  · intro i h1 h2
    simp [madeCells, Nat.mod_one]
set_option maxHeartbeats 400000 in
theorem toByteS_calls (a : Option Addr) (n cap : Nat) (l : List Int) (w : World) (h : Bs w a n cap l) (hn : n ≤ 1048576) :
    Calls Tryz.prog 33 #[.slice a n cap] w fun e w' => ∃ g, e = .returned (.slice (some ⟨g, 0, none⟩) n n) ∧ Below w.heap.size w w' ∧ w'.ownsRow w.heap.size 5 1 (.slice (some ⟨g, 0, none⟩) n n) n (ob l) := by
  obtain ⟨i, hi, hz0, hz1, hz2⟩ := info_parts info5
  go_enter Tryz.func33, Tryz.ntmps33
  go_wp2_with (at_make; refine wpList_make_full _ rfl _ _ 70 rfl w.heap.size 5 i _ 1 Tryz.underlying70 hi hz0 hz1 _ _ _ _ n rfl rfl rfl rfl ?b1 ?b2 ?b3 ?_)
  case b1 => rw [hz2]; omega
  case b2 => unfold maxLen; omega
  case b3 => exact Nat.le_refl _
  clear hi hz0 hz1 hz2
  intro w1 hown hgr
  rw [made_rep] at hown
  have hbel : Below w.heap.size w w1 := (Below.refl _ _).grown hgr (Nat.le_refl _) (fun _ e => by cases e)
  go_wp2
  go_loopw [4] (fun i wr => ∃ k : Nat, k ≤ n ∧ i = .int .i64 k ∧ Below w.heap.size w wr ∧ wr.ownsRow w.heap.size 5 1 (.slice (some ⟨w.heap.size, 0, none⟩) n n) n (ob (l.take k) ++ List.replicate (n - k) (Value.int .u8 0))) (fun i _ => n - (intOf i).toNat)
  case atStart => exact ⟨0, Nat.zero_le _, rfl, hbel, by simpa [ob] using hown⟩
  case round =>
    obtain ⟨k, hk, rfl, hb, ho⟩ := hrel
    by_cases hlt : k < n
    · obtain ⟨b, off, rfl, hbl, hc⟩ := h.at_ (by omega)
      have hca : wr.cell? ⟨b, off + k, none⟩ = some (.int .u8 (l.getD k 0)) := by rw [hb.cell (p := ⟨b, off + k, none⟩) hbl]; exact hc k hlt
      have hco : wr.cell? ⟨w.heap.size, k, none⟩ = some (.int .u8 0) := by
        rw [ho.cellAt k (by omega)]
        have e2 : (ob (l.take k)).length = k := by simp [ob]; have := h.len_eq; omega
        rw [List.getElem?_append_right (by omega), e2, Nat.sub_self]
        rw [List.getElem?_replicate, if_pos (by omega)]
      have hfr : wr.frozen? ⟨w.heap.size, k, none⟩ = false := ho.frozenAt k
      have ho' := ho.stored k (.int .u8 (l.getD k 0))
      have hts := take_set_rep l k (by have := h.len_eq; omega)
      rw [h.len_eq] at hts
      rw [hts] at ho'
      have HO : Hid (World.ownsRow (wr.setCell ⟨w.heap.size, k, none⟩ (.int .u8 (l.getD k 0))) w.heap.size 5 1 (.slice (some ⟨w.heap.size, 0, none⟩) n n) n (ob (l.take (k + 1)) ++ List.replicate (n - (k + 1)) (Value.int .u8 0))) := ho'.1
      clear ho' hts ho hown hgr hbel
      go_wp2
      go_roundw
      case rel => exact ⟨k + 1, by omega, by go_num, hb.setCell (Nat.le_refl _) _, HO.out⟩
      case measure => simp [intOf]; omega
    · have e : k = n := by omega
      subst e
      go_wp2
      go_ret
      refine ⟨w.heap.size, rfl, hb, ?_⟩
      have e1 : l.take k = l := List.take_of_length_le (by have := h.len_eq; omega)
      rw [e1, Nat.sub_self, List.replicate_zero, List.append_nil] at ho
      exact ho
end Go.Proofs.YtnohmedccbogkaaGreatDoor

namespace Go.Proofs.YtnohmedccbogkaaGreatDoor
def rotr (r x : Nat) : Nat := x / 2 ^ r + x % 2 ^ r * 2 ^ (32 - r)
def bs1 (e : Nat) : Nat := rotr 6 e ^^^ rotr 11 e ^^^ rotr 25 e
def hi4 (b : List Int) (i : Nat) : Nat := (b.getD (4 * i) 0).toNat * 16777216 + (b.getD (4 * i + 1) 0).toNat * 65536 + (b.getD (4 * i + 2) 0).toNat * 256 + (b.getD (4 * i + 3) 0).toNat
structure R8 where
  a : Nat
  b : Nat
  c : Nat
  d : Nat
  e : Nat
  f : Nat
  g : Nat
  h : Nat
def blk (m : List Int) (i : Nat) : List Int := (m.drop (64 * i)).take 64
end Go.Proofs.YtnohmedccbogkaaGreatDoor

namespace Go.Proofs.YtnohmedccbogkaaGreatDoor
open Go.RowKit
end Go.Proofs.YtnohmedccbogkaaGreatDoor

namespace Go.Proofs.YtnohmedccbogkaaGreatDoor
open Go.RowKit
def bigAt (v k j : Nat) : Int := ((v / 256 ^ (k - 1 - j) % 256 : Nat) : Int)
def bigN (v k : Nat) : List Int := (List.range k).map (bigAt v k)
theorem bigN_len (v k : Nat) : (bigN v k).length = k := by simp [bigN]
theorem bigAt_bd (v k j : Nat) : 0 ≤ bigAt v k j ∧ bigAt v k j < 256 := by unfold bigAt; omega
theorem bigN_getD (v k j : Nat) (h : j < k) : (bigN v k).getD j 0 = bigAt v k j := by simp [bigN, List.getD, h]
theorem bigN_isB (v k : Nat) : IsB (bigN v k) := fun i => by
  by_cases h : i < k
  · rw [bigN_getD v k i h]; exact bigAt_bd v k i
  · simp [bigN, List.getD, h]
theorem bigN_take (v k j : Nat) (h : j < k) : (bigN v k).take (j + 1) = (bigN v k).take j ++ [bigAt v k j] := by
  rw [List.take_succ_eq_append_getElem (by rw [bigN_len]; exact h)]
  simp [bigN]
def bigRow (v k m : Nat) : List Int := (List.range k).map fun j => if j < m then 0 else bigAt v k j
theorem bigRow_len (v k m : Nat) : (bigRow v k m).length = k := by simp [bigRow]
theorem bigRow_full (v k : Nat) : bigRow v k k = List.replicate k 0 := by
  apply List.ext_getElem
  · simp [bigRow]
  · intro i h1 h2
    simp [bigRow] at h1 ⊢
    omega
theorem bigRow_zero (v k : Nat) : bigRow v k 0 = bigN v k := by simp [bigRow, bigN]
theorem bigRow_set (v k m : Nat) : (bigRow v k (m + 1)).set m (bigAt v k m) = bigRow v k m := by
  apply List.ext_getElem
  · simp [bigRow]
  · intro i h1 h2
    rw [List.getElem_set]
    simp only [bigRow, List.getElem_map, List.getElem_range]
    by_cases e : m = i
    · subst e; simp
    · rw [if_neg e]
      by_cases h3 : i < m
      · rw [if_pos (by omega), if_pos h3]
      · rw [if_neg (by omega), if_neg h3]
def leftN (v j : Nat) : Nat := v / 256 ^ j
theorem leftN_succ (v j : Nat) : leftN v j / 256 = leftN v (j + 1) := by unfold leftN; rw [Nat.div_div_eq_div_mul, Nat.pow_succ]
theorem leftN_le (v j : Nat) : leftN v j ≤ v := Nat.div_le_self _ _
theorem bigAt_left (v k j : Nat) : bigAt v k j = ((leftN v (k - 1 - j) % 256 : Nat) : Int) := rfl
set_option maxHeartbeats 400000 in
set_option maxRecDepth 100000 in
theorem l5Big_calls (v k : Nat) (w : World) (hv : v ≤ 9223372036854775807) (hk : k ≤ 8) :
    Calls Tryz.prog 58 #[.int .i64 v, .int .i64 k] w fun e w' => ∃ g, e = .returned (.slice (some ⟨g, 0, none⟩) k k) ∧ Below w.heap.size w w' ∧ Own w.heap.size w' (some ⟨g, 0, none⟩) k k (bigN v k) := by
  obtain ⟨i, hi, hz0, hz1, hz2⟩ := info_parts info5
  go_enter Tryz.func58, Tryz.ntmps58
  go_wp2_with (at_make; refine wpList_make_full _ rfl _ _ 70 rfl w.heap.size 5 i _ 1 Tryz.underlying70 hi hz0 hz1 _ _ _ _ k rfl rfl rfl rfl ?b1 ?b2 ?b3 ?_)
  case b1 => rw [hz2]; omega
  case b2 => unfold maxLen; omega
  case b3 => exact Nat.le_refl _
  clear hi hz0 hz1 hz2
  intro w1 hown hgr
  rw [made_rep] at hown
  have hbel : Below w.heap.size w w1 := (Below.refl _ _).grown hgr (Nat.le_refl _) (fun _ e => by cases e)
  have hown2 : w1.ownsRow w.heap.size 5 1 (.slice (some ⟨w.heap.size, 0, none⟩) k k) k (ob (bigRow v k k)) := by
    rw [bigRow_full]; simpa [ob] using hown
  clear hown hgr
  go_wp2
  go_loopw [0, 6] (fun x i wr => ∃ m : Nat, m ≤ k ∧ i = .int .i64 ((m : Int) - 1) ∧ x = .int .i64 (leftN v (k - m) : Nat) ∧ Below w.heap.size w wr ∧ wr.ownsRow w.heap.size 5 1 (.slice (some ⟨w.heap.size, 0, none⟩) k k) k (ob (bigRow v k m))) (fun _ i _ => (intOf i + 1).toNat)
  case atStart => exact ⟨k, Nat.le_refl _, rfl, by rw [Nat.sub_self]; simp [leftN], hbel, hown2⟩
  case round =>
    obtain ⟨m, hm, rfl, rfl, hb, ho⟩ := hrel
    clear hown2 hbel
    by_cases hlt : 0 < m
    · obtain ⟨j, rfl⟩ : ∃ j, m = j + 1 := ⟨m - 1, by omega⟩
      have hle := leftN_le v (k - (j + 1))
      have HS : Hid (leftN v (k - (j + 1)) / 256 = leftN v (k - j)) := by
        show _ = _
        rw [leftN_succ, show k - (j + 1) + 1 = k - j by omega]
      have HA : Hid (bigAt v k j = ((leftN v (k - (j + 1)) % 256 : Nat) : Int)) := by
        show _ = _
        rw [bigAt_left, show k - 1 - j = k - (j + 1) by omega]
      have hji : ((j + 1 : Nat) : Int) - 1 = (j : Int) := by omega
      rw [hji]
      have hco : wr.cell? ⟨w.heap.size, j, none⟩ = some (.int .u8 ((bigRow v k (j + 1)).getD j 0)) := by
        rw [World.ownsRow.cellAt ho j (by omega)]
        exact ob_getElem? _ j (by rw [bigRow_len]; omega)
      have hfr : wr.frozen? ⟨w.heap.size, j, none⟩ = false := World.ownsRow.frozenAt ho j
      have ho' := World.ownsRow.stored ho j (.int .u8 (bigAt v k j))
      rw [ob_set, bigRow_set v k j, HA.out] at ho'
      generalize leftN v (k - (j + 1)) = x at *
      have HO : Hid (World.ownsRow (wr.setCell ⟨w.heap.size, j, none⟩ (.int .u8 ((x % 256 : Nat) : Int))) w.heap.size 5 1 (.slice (some ⟨w.heap.size, 0, none⟩) k k) k (ob (bigRow v k j))) := ho'.1
      clear ho' ho HA
      go_wp2
      go_roundw
      case rel => exact ⟨j, by omega, by go_num, by rw [← HS.out]; rfl, hb.setCell (Nat.le_refl _) _, HO.out⟩
      case measure => simp [intOf]
    · have e : m = 0 := by omega
      subst e
      go_wp2
      go_ret
      refine ⟨w.heap.size, rfl, hb, ?_⟩
      rw [bigRow_zero] at ho
      exact ho
theorem byte_of (v j : Nat) : ((v : Int) / 2 ^ (8 * j)) % 256 = ((leftN v j % 256 : Nat) : Int) := by
  have e : (2 : Nat) ^ (8 * j) = 256 ^ j := by rw [Nat.pow_mul]
  have h : ((v / 2 ^ (8 * j) % 256 : Nat) : Int) = ((v : Int) / 2 ^ (8 * j)) % 256 := by simp
  rw [← h, e]
  rfl
set_option maxHeartbeats 400000 in
set_option maxRecDepth 100000 in
theorem greatFirst_calls (B : Nat) (a : Option Addr) (n c : Nat) (xs : List Int) (v k : Nat) (w : World) (hown : Own B w a n c xs) (hB : B ≤ w.heap.size) (hn : n ≤ 1048576) (hk : k ≤ 8) :
    Calls Tryz.prog 162 #[.slice a n c, .int .i64 v, .int .i64 k] w fun e w' => ∃ a c, e = .returned (.slice a (n + k) c) ∧ Below B w w' ∧ Own B w' a (n + k) c (xs ++ bigN v k) := by
  go_enter Tryz.func162, Tryz.ntmps162
  go_wp2
  go_loopw [0, 7] (fun o i wr => ∃ m a c, m ≤ k ∧ i = .int .i64 ((m : Int) - 1) ∧ o = .slice a (n + (k - m)) c ∧ Below B w wr ∧ Own B wr a (n + (k - m)) c (xs ++ (bigN v k).take (k - m))) (fun _ i _ => (intOf i + 1).toNat)
  case atStart => exact ⟨k, a, c, Nat.le_refl _, rfl, by rw [Nat.sub_self]; rfl, Below.refl _ _, by rw [Nat.sub_self]; simpa using hown⟩
  case round =>
    obtain ⟨m, a, c, hm, rfl, rfl, hb, ho⟩ := hrel
    by_cases hlt : 0 < m
    · obtain ⟨j, rfl⟩ : ∃ j, m = j + 1 := ⟨m - 1, by omega⟩
      have HA : Hid ((bigN v k).take (k - j) = (bigN v k).take (k - (j + 1)) ++ [((v : Int) / 2 ^ (8 * j)) % 256]) := by
        show _ = _
        rw [byte_of, show k - j = k - (j + 1) + 1 by omega, bigN_take v k _ (by omega), bigAt_left, show k - 1 - (k - (j + 1)) = j by omega]
      have HM : Hid (n + (k - (j + 1)) + 1 = n + (k - j)) := by show _ = _; omega
      have hji : ((j + 1 : Nat) : Int) - 1 = (j : Int) := by omega
      rw [hji]
      have hq0 : 0 ≤ ((v : Int) / 2 ^ (8 * j)) % 256 := Int.emod_nonneg _ (by omega)
      have hq1 : ((v : Int) / 2 ^ (8 * j)) % 256 < 256 := Int.emod_lt_of_pos _ (by omega)
      go_wp2_with (at_builtin; refine wpList_app rfl _ _ rfl B a (n + (k - (j + 1))) c (xs ++ (bigN v k).take (k - (j + 1))) rfl ?own _ 1 1 [((v : Int) / 2 ^ (8 * j)) % 256] rfl ?bs ?len ?B ?_)
      case own => exact World.ownsRow.alloc ho _
      case bs => exact bs_lit1 wr _ hq0 hq1
      case len => omega
      case B => have := hb.size; simp; omega
      intro a' c' w' ho' hb' _
      have hb2 : Below B w w' := (hb.alloc (Nat.le_trans hB hb.size) _).trans hb'
      clear ho hb hb'
      go_wp2
      go_roundw
      case rel => exact ⟨j, a', c', by omega, by go_num, by rw [HM.out], hb2, by rw [HA.out, ← HM.out]; simpa using ho'⟩
      case measure => simp [intOf]
    · have e : m = 0 := by omega
      subst e
      go_wp2
      go_ret
      refine ⟨a, c, rfl, hb, ?_⟩
      rw [Nat.sub_zero, List.take_of_length_le (by rw [bigN_len]; omega)] at ho
      exact ho
end Go.Proofs.YtnohmedccbogkaaGreatDoor

