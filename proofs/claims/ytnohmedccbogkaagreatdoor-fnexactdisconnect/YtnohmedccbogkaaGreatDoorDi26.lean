import Derived.Test.YtnohmedccbogkaaGreatDoorDi24
import Derived.Test.YtnohmedccbogkaaGreatDoorDi25
import Derived.Test.YtnohmedccbogkaaGreatDoorDi2
import Derived.Laws.AppendOwnNone
import Derived.Deep.DeepCutAuto
import Derived.Deep.RegionWith
import Derived.Test.YtnohmedccbogkaaGreatDoorDi1
namespace Go.Proofs.YtnohmedccbogkaaGreatDoor
open Go.RowKit
set_option linter.unusedVariables false
abbrev Ch := ByteArray × ByteArray × Bool
def ch0 : Ch := (strOfNums [], strOfNums [], false)
def chV (x : Ch) : List Value := [.string x.1, .string x.2.1, .bool x.2.2]
def chF (xs : List Ch) : Nat → List Value := fun i => chV (xs.getD i ch0)
theorem chV_one (x : Ch) : ∀ u ∈ chV x, u.oneCell' = true := by simp [chV, Value.oneCell']
theorem chF_ok (xs : List Ch) (n : Nat) : IsRow 3 (chF xs) n := ⟨fun _ _ => rfl, fun i _ => chV_one _⟩
theorem elCh : ElT 65 105 3 (.agg (chV ch0).toArray) 40 := ⟨Tryz.underlying65, by kernel_rfl, by rw [Value.cells]; rfl, by omega⟩
def OCh (B : Nat) (w : World) (a : Option Addr) (c : Nat) (xs : List Ch) : Prop := ORow 105 3 B w a xs.length c (chF xs)
theorem OCh.below {B : Nat} {w w' : World} {a : Option Addr} {c : Nat} {xs : List Ch} (h : OCh B w a c xs) (hb : Below w.heap.size w w') : OCh B w' a c xs := ORow.below h hb
theorem OCh.keep {B : Nat} {w w' : World} {a : Option Addr} {c : Nat} {xs : List Ch} (h : OCh B w a c xs) (hk : KeepT 105 w w') : OCh B w' a c xs := ownsRow_keepT h hk
theorem OCh.onlyS {Z : Nat → Prop} {B : Nat} {w w' : World} {a : Option Addr} {c : Nat} {xs : List Ch} (h : OCh B w a c xs) (ho : OnlyS Z w w') (hz : ∀ k, B ≤ k → ¬ Z k) : OCh B w' a c xs := by
  refine ⟨h.1, ?_⟩
  rcases h.2 with h2 | ⟨g, cap, cur, hv, hg, hh, r⟩
  · exact Or.inl h2
  · exact Or.inr ⟨g, cap, cur, hv, hg, by rw [ho.block g (Array.getElem?_eq_some_iff.1 hh).1 (hz g hg)]; exact hh, r⟩
theorem chF_flat (xs : List Ch) : ∀ n, n ≤ xs.length → rowV (chF xs) n = ((xs.take n).map chV).flatten
  | 0, _ => by simp [rowV]
  | n + 1, h => by
    have e : chF xs n = chV xs[n] := by simp [chF, List.getD, show n < xs.length by omega]
    rw [rowV, chF_flat xs n (by omega), e, List.take_succ_eq_append_getElem (by omega)]
    simp only [List.map_append, List.flatten_append, List.map_cons, List.map_nil, List.flatten_cons, List.flatten_nil, List.append_nil]
theorem chF_cat (xs ys : List Ch) : rowV (chF (xs ++ ys)) (xs.length + ys.length) = rowV (chF xs) xs.length ++ rowV (chF ys) ys.length := by
  rw [chF_flat _ _ (by simp), chF_flat _ _ (Nat.le_refl _), chF_flat _ _ (Nat.le_refl _), List.take_length, List.take_length, ← List.length_append, List.take_length]
  simp
theorem wp_appCh {w : World} {o : Oper} {act : Act} {KK : Act → World → Prop} {Q : Exit → Act → World → Prop} (so xo : Operand)
    (ho : o.op = .call { callee := .builtin .append, args := #[so, xo], argTypes := #[65, 65] })
    (B : Nat) (a : Option Addr) (c : Nat) (xs : List Ch) (hs : act.eval so = .slice a xs.length c) (hown : OCh B w a c xs)
    (b : Option Addr) (d : Nat) (ys : List Ch) (hx : act.eval xo = .slice b ys.length d) (hr : RRow w 3 b ys.length d (chF ys)) (hn : xs.length + ys.length ≤ 1048576) (hB : B ≤ w.heap.size)
    (hh : ∀ a' c' w', OCh B w' a' c' (xs ++ ys) → w.grownBy w' (Value.slice a xs.length c).ownBlock → KK (act.put o.dst (.slice a' (xs ++ ys).length c')) w') :
    o.wp Tryz.prog act w KK Q := by
  obtain ⟨i, hi, hz0, hz1, hz2⟩ := info_parts elCh.inf
  cases b with
  | none =>
    have hd : d = 0 := hr.nil rfl
    have hm : ys.length = 0 := by have := hr.le; omega
    obtain rfl : ys = [] := List.eq_nil_of_length_eq_zero hm
    subst hd
    have hrun := run_append_owned_none (P := Tryz.prog) (w := w) B 65 o.type 105 i 3 elCh.und hi _ _ _ hown
    have h2 := hh a c w (by rw [List.append_nil]; exact hown) ⟨rfl, rfl, rfl, Nat.le_refl _, fun _ _ _ => rfl⟩
    rw [List.append_nil] at h2
    have hx' : act.eval xo = .slice none 0 0 := hx
    unfold Oper.wp
    simp only [execOp, ho, resolve, invoke, builtin, Sem.run_bind, Sem.run_pure, Result.andThen_ok, List.map_toArray, List.map_cons, List.map_nil, hs, hx', hrun]
    exact h2
  | some ad =>
    refine wp_append_own _ so xo _ ho B 105 i _ 3 40 elCh.und hi hz0 hz1 hz2 elCh.cells elCh.pos _ xs.length (rowV (chF xs) xs.length) hs hown ad ys.length d (rowV (chF ys) ys.length) hx (by rw [rowV_len _ (chF_ok ys _)]) ?_ (rowV_oneCell _ (chF_ok ys _)) (by unfold maxLen; omega) (by omega) hB ?_
    · intro j u hj
      have hjl : j < ys.length * 3 := by have := (List.getElem?_eq_some_iff.1 hj).1; rw [rowV_len _ (chF_ok ys _)] at this; exact this
      obtain ⟨b1, off, e, _, hc⟩ := hr.at_ (by omega)
      cases e
      have h1 := hc (j / 3) (j % 3) (by omega) (by omega)
      have hg := rowV_get ys.length (chF_ok ys _) (j / 3) (j % 3) (by omega) (by omega)
      rw [show j / 3 * 3 + j % 3 = j by omega] at hg
      rw [Addr.add_lit, show off + j = off + j / 3 * 3 + j % 3 by omega, h1, ← hg]
      exact hj
    · intro v' w' ho' hg' _
      rw [← chF_cat] at ho'
      have hv : ∃ a' c', v' = .slice a' (xs.length + ys.length) c' := by
        rcases ho'.2 with ⟨rfl, h0⟩ | ⟨g, cap, cur, rfl, _⟩
        · exact ⟨none, 0, by rw [h0]⟩
        · exact ⟨_, _, rfl⟩
      obtain ⟨a', c', rfl⟩ := hv
      have h3 := hh a' c' w' (by unfold OCh ORow; rw [List.length_append]; exact ho') hg'
      rw [List.length_append] at h3
      exact h3
theorem wpList_appCh {w : World} {ops : Array Oper} {rest : List Oper} {o : Oper} {act : Act} {Q : Exit → Act → World → Prop} (hgd : o.guard = none) (so xo : Operand)
    (ho : o.op = .call { callee := .builtin .append, args := #[so, xo], argTypes := #[65, 65] })
    (B : Nat) (a : Option Addr) (c : Nat) (xs : List Ch) (hs : act.eval so = .slice a xs.length c) (hown : OCh B w a c xs)
    (b : Option Addr) (d : Nat) (ys : List Ch) (hx : act.eval xo = .slice b ys.length d) (hr : RRow w 3 b ys.length d (chF ys)) (hn : xs.length + ys.length ≤ 1048576) (hB : B ≤ w.heap.size)
    (hh : ∀ a' c' w', OCh B w' a' c' (xs ++ ys) → w.grownBy w' (Value.slice a xs.length c).ownBlock → wpList Tryz.prog ops Q rest (act.put o.dst (.slice a' (xs ++ ys).length c')) w') :
    wpList Tryz.prog ops Q (o :: rest) act w :=
  wpList_plain hgd fun _ hK => wp_appCh so xo ho B a c xs hs hown b d ys hx hr hn hB fun a' c' w' h1 h2 => hK _ _ (hh a' c' w' h1 h2)
theorem OCh.reads {B : Nat} {w : World} {a : Option Addr} {c : Nat} {xs : List Ch} (h : OCh B w a c xs) : RRow w 3 a xs.length c (chF xs) := ORow.reads h (chF_ok xs _)
theorem och_lit1 (w : World) (x : Ch) : OCh w.heap.size (w.alloc (.cells #[.string x.1, .string x.2.1, .bool x.2.2] 105)) (some ⟨w.heap.size, 0, none⟩) 1 [x] :=
  blk_orow (f := chF [x]) (n := 1) (blk_new w 105 (chV x).toArray) (chF_ok _ _) (Nat.le_refl _) (by omega)
theorem och_lit2 (w : World) (x y : Ch) : OCh w.heap.size (w.alloc (.cells #[.string x.1, .string x.2.1, .bool x.2.2, .string y.1, .string y.2.1, .bool y.2.2] 105)) (some ⟨w.heap.size, 0, none⟩) 2 [x, y] :=
  blk_orow (f := chF [x, y]) (n := 2) (blk_new w 105 (chV x ++ chV y).toArray) (chF_ok _ _) (Nat.le_refl _) (by omega)
theorem OCh.grown {B : Nat} {w w' : World} {a : Option Addr} {c : Nat} {xs : List Ch} (h : OCh B w a c xs) (hg : w.grownBy w' (Value.slice a xs.length c).ownBlock) (hB : B ≤ w.heap.size) : Below B w w' := (Below.refl _ _).grown hg hB (fun k hk => (World.ownsRow.lt h k hk).1)
def kyH (m : Int) (h : Nat) : ByteArray := strOfNums (m :: bigN h 4)
def kyM (m : Int) (h : Nat) (i : Int) : ByteArray := strOfNums (m :: (bigN h 4 ++ [i]))
def dlC (k : ByteArray) : Ch := (k, strOfNums [], true)
def ptC (k v : ByteArray) : Ch := (k, v, false)
def umV (es : List (ByteArray × ByteArray)) (m : Int) (h i : Nat) : ByteArray := vOf (gtE es (kyM m h i))
def umN (v : ByteArray) (n : Nat) : List Ch := (List.range n).map fun (k : Nat) => dlC (kyC ((nb v).take 32, (k : Int)))
def umC (v : ByteArray) : Nat := ((nb v).getD 32 0).toNat
def umI (es : List (ByteArray × ByteArray)) (h i : Nat) : List Ch := umN (umV es 110 h i) (umC (umV es 110 h i)) ++ [dlC (kyM 110 h i)]
def umL (es : List (ByteArray × ByteArray)) (h : Nat) : Nat → Nat → List Ch
  | 0, _ => []
  | k + 1, i => if (umV es 110 h i).size = 33 then umI es h i ++ umL es h k (i + 1) else []
def usI (es : List (ByteArray × ByteArray)) (h i : Nat) : List Ch := [ptC (strOfNums (99 :: (nb (umV es 117 h i)).take 33)) (strOfNums ((nb (umV es 117 h i)).drop 33)), dlC (kyM 117 h i)]
def usL (es : List (ByteArray × ByteArray)) (h : Nat) : Nat → Nat → List Ch
  | 0, _ => []
  | k + 1, i => if (umV es 117 h i).size = 46 then usI es h i ++ usL es h k (i + 1) else []
def prV (es : List (ByteArray × ByteArray)) (h : Nat) : ByteArray := vOf (gtE es (kyH 98 h))
def prH (v : ByteArray) : List Int := if v.size = 32 then nb v else List.replicate 32 0
def tpT (h : Nat) (l : List Int) : ByteArray := strOfNums (num h 4 ++ l)
def sbT (es : List (ByteArray × ByteArray)) (h : Nat) : Ch := if h = 1 then dlC ⟨#[116]⟩ else ptC ⟨#[116]⟩ (tpT (h - 1) (prH (prV es h)))
def sbL (es : List (ByteArray × ByteArray)) (h : Nat) : List Ch := [dlC (kyH 98 h), sbT es h]
def dcL (es : List (ByteArray × ByteArray)) (h : Nat) : List Ch := umL es h 256 0 ++ usL es h 256 0 ++ sbL es h
theorem umC_lt (v : ByteArray) : umC v < 256 := by have := nb_isB v 32; unfold umC; omega
theorem umC_int (v : ByteArray) : (nb v).getD 32 0 = (umC v : Int) := by have := nb_isB v 32; unfold umC; omega
theorem umN_succ (v : ByteArray) (n : Nat) : umN v (n + 1) = umN v n ++ [dlC (kyC ((nb v).take 32, (n : Int)))] := by simp [umN, List.range_succ]
theorem umN_len (v : ByteArray) (n : Nat) : (umN v n).length = n := by simp [umN]
theorem umI_len (es : List (ByteArray × ByteArray)) (h i : Nat) : (umI es h i).length ≤ 256 := by
  unfold umI
  rw [List.length_append, umN_len]
  have := umC_lt (umV es 110 h i)
  simp
  omega
theorem umL_len (es : List (ByteArray × ByteArray)) (h : Nat) : ∀ k i, (umL es h k i).length ≤ 256 * k
  | 0, _ => by simp [umL]
  | k + 1, i => by
    unfold umL
    have h1 := umI_len es h i
    have h2 := umL_len es h k (i + 1)
    split
    · rw [List.length_append]; omega
    · simp
theorem usL_len (es : List (ByteArray × ByteArray)) (h : Nat) : ∀ k i, (usL es h k i).length ≤ 2 * k
  | 0, _ => by simp [usL]
  | k + 1, i => by
    unfold usL
    have h2 := usL_len es h k (i + 1)
    split
    · rw [List.length_append]; simp [usI]; omega
    · simp
theorem dcL_len (es : List (ByteArray × ByteArray)) (h : Nat) : (dcL es h).length ≤ 1048576 := by
  unfold dcL
  have h1 := umL_len es h 256 0
  have h2 := usL_len es h 256 0
  rw [List.length_append, List.length_append]
  simp [sbL]
  omega
theorem umL_step {es : List (ByteArray × ByteArray)} {h i : Nat} (hi : i < 256) (hs : (umV es 110 h i).size = 33) : umL es h (256 - i) i = umI es h i ++ umL es h (256 - (i + 1)) (i + 1) := by
  rw [show 256 - i = (256 - (i + 1)) + 1 by omega, umL, if_pos hs]
theorem umL_stop {es : List (ByteArray × ByteArray)} {h i : Nat} (hi : i < 256) (hs : ¬ (umV es 110 h i).size = 33) : umL es h (256 - i) i = [] := by
  rw [show 256 - i = (256 - (i + 1)) + 1 by omega, umL, if_neg hs]
theorem usL_step {es : List (ByteArray × ByteArray)} {h i : Nat} (hi : i < 256) (hs : (umV es 117 h i).size = 46) : usL es h (256 - i) i = usI es h i ++ usL es h (256 - (i + 1)) (i + 1) := by
  rw [show 256 - i = (256 - (i + 1)) + 1 by omega, usL, if_pos hs]
theorem usL_stop {es : List (ByteArray × ByteArray)} {h i : Nat} (hi : i < 256) (hs : ¬ (umV es 117 h i).size = 46) : usL es h (256 - i) i = [] := by
  rw [show 256 - i = (256 - (i + 1)) + 1 by omega, usL, if_neg hs]
theorem prH_len (v : ByteArray) : (prH v).length = 32 := by
  unfold prH
  split
  · rw [nb_len]; assumption
  · simp
theorem prH_isB (v : ByteArray) : IsB (prH v) := by
  unfold prH
  split
  · exact nb_isB v
  · exact isB_rep 32
theorem tpH_bd (o : Option (ByteArray × ByteArray)) : 0 ≤ tpH o ∧ tpH o < 4294967296 := by
  unfold tpH
  split
  · rename_i e
    split
    · rename_i hs
      have hB : IsB ((nb e.2).take 4) := isB_take (nb_isB e.2) 4
      have h := low_bd hB
      have hl : ((nb e.2).take 4).length = 4 := by rw [List.length_take, nb_len, hs]; rfl
      rw [hl] at h
      exact ⟨h.1, by omega⟩
    · omega
  · omega
noncomputable def dcX (K : DK) (gen root used free : Int) : List Ch := if tpH (gtR K gen root used free ⟨#[116]⟩) = 0 then [] else dcL (alL K gen root used free) (tpH (gtR K gen root used free ⟨#[116]⟩)).toNat
noncomputable def dcC (K : DK) (gen root used free : Int) : Int := if whB K gen root used free = true then (if tpH (gtR K gen root used free ⟨#[116]⟩) = 0 then 10 else 0) else 11
theorem dcX_len (K : DK) (gen root used free : Int) : (dcX K gen root used free).length ≤ 1048576 := by
  unfold dcX
  split
  · simp
  · exact dcL_len _ _
theorem dcX_no {K : DK} {gen root used free : Int} (h : whB K gen root used free = false) : dcX K gen root used free = [] ∧ dcC K gen root used free = 11 := by
  unfold dcX dcC gtR
  rw [h]
  exact ⟨rfl, rfl⟩
theorem dcX_0 {K : DK} {gen root used free : Int} (h : whB K gen root used free = true) (h0 : tpH (gtE (enL K root) ⟨#[116]⟩) = 0) : dcX K gen root used free = [] ∧ dcC K gen root used free = 10 := by
  unfold dcX dcC gtR
  rw [if_pos h, if_pos h, if_pos h0, if_pos h0]
  exact ⟨rfl, rfl⟩
theorem dcX_yes {K : DK} {gen root used free : Int} (h : whB K gen root used free = true) (h0 : tpH (gtE (enL K root) ⟨#[116]⟩) ≠ 0) : dcX K gen root used free = dcL (enL K root) (tpH (gtE (enL K root) ⟨#[116]⟩)).toNat ∧ dcC K gen root used free = 0 := by
  unfold dcX dcC gtR alL
  rw [if_pos h, if_pos h, if_pos h, if_neg h0, if_neg h0]
  exact ⟨rfl, rfl⟩
def DcP (xs : List Ch) (code : Int) (w : World) (e : Ending) (w' : World) : Prop := ∃ a c, e = .returned (.tuple #[.slice a xs.length c, .int .i64 code]) ∧ OCh w.heap.size w' a c xs ∧ Below w.heap.size w w'
end Go.Proofs.YtnohmedccbogkaaGreatDoor

namespace Go.Proofs.YtnohmedccbogkaaGreatDoor
open Go.RowKit
set_option linter.unusedVariables false
theorem sizeCh : (Tryz.prog.info? 105).map (·.size) = some 3 := by kernel_rfl
set_option maxHeartbeats 1000000 in
set_option maxRecDepth 100000 in
theorem delChange_calls (k : ByteArray) (w : World) :
    Calls Tryz.prog 104 #[.string k] w fun e w' => e = .returned (.agg #[.string k, .string (strOfNums []), .bool true]) ∧ Below w.heap.size w w' := by
  have FIN : Hid (Below w.heap.size w (w.alloc (.cells #[.string k, .string (strOfNums []), .bool true] 105))) := (Below.refl _ _).alloc (Nat.le_refl _) _
  have kF := blk_new w 105 #[.string k, .string (strOfNums []), .bool true]
  go_enter Tryz.func104, Tryz.ntmps104
  go_wp2_with (refine wpList_storeNew rfl 105 _ _ rfl w (chV ch0).toArray #[.string k, .string (strOfNums []), .bool true] 105 rfl rfl sizeCh rfl rfl ?_)
  refine bodyPost_ret (v := .agg #[.string k, .string (strOfNums []), .bool true]) ?_ rfl ⟨rfl, FIN.out⟩
  exact results_cell_row Tryz.results104 _ _ w.heap.size 105 #[.string k, .string (strOfNums []), .bool true] (0, 0) _ rfl kF Tryz.underlying105 rfl sizeCh
set_option maxHeartbeats 1000000 in
set_option maxRecDepth 100000 in
theorem putChange_calls (k v : ByteArray) (w : World) :
    Calls Tryz.prog 105 #[.string k, .string v] w fun e w' => e = .returned (.agg #[.string k, .string v, .bool false]) ∧ Below w.heap.size w w' := by
  have FIN : Hid (Below w.heap.size w (w.alloc (.cells #[.string k, .string v, .bool false] 105))) := (Below.refl _ _).alloc (Nat.le_refl _) _
  have kF := blk_new w 105 #[.string k, .string v, .bool false]
  go_enter Tryz.func105, Tryz.ntmps105
  go_wp2_with (refine wpList_storeNew rfl 105 _ _ rfl w (chV ch0).toArray #[.string k, .string v, .bool false] 105 rfl rfl sizeCh rfl rfl ?_)
  refine bodyPost_ret (v := .agg #[.string k, .string v, .bool false]) ?_ rfl ⟨rfl, FIN.out⟩
  exact results_cell_row Tryz.results105 _ _ w.heap.size 105 #[.string k, .string v, .bool false] (0, 0) _ rfl kF Tryz.underlying105 rfl sizeCh
set_option maxHeartbeats 1000000 in
set_option maxRecDepth 100000 in
theorem heightKey_calls (m : Int) (h : Nat) (hh : h < 4294967296) (w : World) :
    Calls Tryz.prog 106 #[.string (strOfNums [m]), .int .i64 h] w fun e w' => e = .returned (.string (kyH m h)) ∧ Below w.heap.size w w' := by
  have GF := greatFirst_calls w.heap.size none 0 0 [] h 4 w (own_nil _ _) (Nat.le_refl _) (by omega) (by omega)
  simp only [Nat.zero_add, List.nil_append] at GF
  have HK : Hid (kyH m h = strOfNums [m] ++ strOfNums (bigN h 4)) := by show kyH m h = _; rw [son_app2]; rfl
  have hsz : ((strOfNums (bigN h 4)).size : Int) = 4 := by rw [strOfNums_size, bigN_len]; rfl
  have hsz2 : ((strOfNums [m]).size : Int) = 1 := by rw [strOfNums_size]; rfl
  have HB : Hid _ := bigN_isB h 4
  generalize bigN h 4 = bl at *
  generalize strOfNums [m] = sm at *
  have hcc : ¬ (9223372036854775807 : Int) < (sm.size : Int) + ((strOfNums bl).size : Int) := by omega
  go_enter Tryz.func106, Tryz.ntmps106
  go_wp2_with fail
  refine GF.mono ?_
  rintro e w1 ⟨a1, c1, rfl, b1, o1⟩
  have kc := conv_bsD (o1.bs HB.out)
  have FIN : Hid _ := b1
  clear GF b1 o1 hsz hsz2
  generalize strOfNums bl = sb at *
  go_wp2_with fail
  go_ret
  rw [HK.out]
  exact ⟨rfl, FIN.out⟩
set_option maxHeartbeats 8000000 in
set_option maxRecDepth 100000 in
theorem countedKey_calls (m : Int) (h : Nat) (i : Int) (hh : h < 4294967296) (h0 : 0 ≤ i) (h1 : i < 256) (w : World) :
    Calls Tryz.prog 103 #[.string (strOfNums [m]), .int .i64 h, .int .i64 i] w fun e w' => e = .returned (.string (kyM m h i)) ∧ Below w.heap.size w w' := by
  have HKY : Hid _ := fun w => heightKey_calls m h hh w
  have HK : Hid (kyM m h i = kyH m h ++ strOfNums [i]) := by show kyM m h i = _; unfold kyH; rw [son_app2]; rfl
  have hz1 : ((kyH m h).size : Int) = 5 := by unfold kyH; rw [strOfNums_size, List.length_cons, bigN_len]; rfl
  have hz2 : ((strOfNums [i]).size : Int) = 1 := by rw [strOfNums_size]; rfl
  generalize kyH m h = t1 at *
  generalize strOfNums [m] = sm at *
  obtain ⟨t2, ht2⟩ : ∃ t, strOfNums [i] = t := ⟨_, rfl⟩
  rw [ht2] at hz2 HK
  have Ht2 : Hid _ := ht2
  have hcd : ¬ (9223372036854775807 : Int) < (t1.size : Int) + (t2.size : Int) := by omega
  have hcn : ¬ 9223372036854775807 < t1.size + t2.size := by omega
  clear ht2 hz1 hz2
  go_enter Tryz.func103, Tryz.ntmps103
  go_upto_region 1 with fail
  rename_i KX hKX
  have REST : Hid (∀ (u : World) {v0 v1 v2 v3 v4 v5 v7 v8 v9 v10 v11 v12 v13 v14 : Value}, Below w.heap.size w u → KX { tmps := #[v0, v1, v2, v3, v4, v5, .string (t1 ++ t2), v7, v8, v9, v10, v11, v12, v13, v14], defers := [] } u) := by
    intro u v0 v1 v2 v3 v4 v5 v7 v8 v9 v10 v11 v12 v13 v14 bu
    have FIN : Hid _ := bu
    refine hKX _ _ ?_
    clear bu
    go_wp2_with fail
    go_ret
    exact ⟨by rw [HK.out]; rfl, FIN.out⟩
  obtain ⟨w0, hw0⟩ : ∃ w0, w0 = w.drew := ⟨_, rfl⟩
  have B0 : Hid (Below w.heap.size w w0) := by show Below w.heap.size w w0; rw [hw0]; exact ⟨rfl, rfl, rfl, Nat.le_refl _, fun _ _ => rfl⟩
  refine wp_regionD (fun _ => True) (fun k => decide (9 ≤ k)) (by kernel_rfl) ?_
  rw [← hw0]
  clear hw0 hKX
  refine takeY 0 7 trivial ?_
  simp only [Act.put, setL, List.set]
  refine takeY 1 8 trivial ?_
  simp only [Act.put, setL, List.set]
  refine takeY 3 10 trivial ?_
  simp only [Act.put, setL, List.set]
  refine takeY 4 11 trivial ?_
  simp only [Act.put, setL, List.set]
  refine wpAnyD_two 2 5 (by kernel_rfl) rfl rfl (fun KK hK => ?brc5a) (fun KK hK => ?brc5b)
  case brc5a =>
    rw [if_pos (show Region.wanted _ _ = true from rfl)]
    have LC := HKY.out w0
    go_wp2_with fail
    refine LC.mono ?_
    rintro e w1 ⟨rfl, q1⟩
    have B1 : Hid (Below w.heap.size w w1) := B0.out.trans (q1.mono B0.out.size)
    clear LC
    go_wp2_with fail
    refine hK.out _ _ (fun _ => trivial) ?_
    clear hK KK
    refine wpAnyD_one 5 (by kernel_rfl) rfl (fun KK hK => ?_)
    rw [if_pos (show Region.wanted _ _ = true from rfl)]
    have q2 : Below w1.heap.size w1 (w1.alloc (.cells #[.int .u8 i] 5)) := (Below.refl _ _).alloc (Nat.le_refl _) _
    have RL := bs_lit1 w1 i h0 h1
    go_wp2_with fail
    have B2 : Hid (Below w.heap.size w (w1.alloc (.cells #[.int .u8 i] 5))) := B1.out.trans (q2.mono B1.out.size)
    refine hK.out _ _ (fun _ => trivial) ?_
    clear hK KK
    generalize w1.alloc (.cells #[.int .u8 i] 5) = w2 at *
    refine wpAnyD_one 6 (by kernel_rfl) rfl (fun KK hK => ?_)
    rw [if_pos (show Region.wanted _ _ = true from rfl)]
    have kc := conv_bsD RL
    rw [Ht2.out] at kc
    go_wp2_with fail
    clear kc
    refine hK.out _ _ (fun _ => trivial) ?_
    clear hK KK
    refine takeY 7 14 trivial ?_
    simp only [Act.put, setL, List.set]
    refine takeY 8 6 trivial ?_
    simp only [Act.put, setL, List.set]
    refine wpAnyD_done (by kernel_rfl) ?_ _
    exact REST.out _ B2.out
  case brc5b =>
    rw [if_pos (show Region.wanted _ _ = true from rfl)]
    have q1 : Below w0.heap.size w0 (w0.alloc (.cells #[.int .u8 i] 5)) := (Below.refl _ _).alloc (Nat.le_refl _) _
    have RL := bs_lit1 w0 i h0 h1
    go_wp2_with fail
    have B1 : Hid (Below w.heap.size w (w0.alloc (.cells #[.int .u8 i] 5))) := B0.out.trans (q1.mono B0.out.size)
    refine hK.out _ _ (fun _ => trivial) ?_
    clear hK KK
    generalize w0.alloc (.cells #[.int .u8 i] 5) = w1 at *
    refine wpAnyD_two 2 6 (by kernel_rfl) rfl rfl (fun KK hK => ?brc8a) (fun KK hK => ?brc8b)
    case brc8a =>
      rw [if_pos (show Region.wanted _ _ = true from rfl)]
      have LC := HKY.out w1
      go_wp2_with fail
      refine LC.mono ?_
      rintro e w2 ⟨rfl, q2⟩
      have B2 : Hid (Below w.heap.size w w2) := B1.out.trans (q2.mono B1.out.size)
      clear LC
      go_wp2_with fail
      refine hK.out _ _ (fun _ => trivial) ?_
      clear hK KK
      refine wpAnyD_one 6 (by kernel_rfl) rfl (fun KK hK => ?_)
      rw [if_pos (show Region.wanted _ _ = true from rfl)]
      have kc := conv_bsD (RL.below q2)
      rw [Ht2.out] at kc
      go_wp2_with fail
      clear kc
      refine hK.out _ _ (fun _ => trivial) ?_
      clear hK KK
      refine takeY 7 14 trivial ?_
      simp only [Act.put, setL, List.set]
      refine takeY 8 6 trivial ?_
      simp only [Act.put, setL, List.set]
      refine wpAnyD_done (by kernel_rfl) ?_ _
      exact REST.out _ B2.out
    case brc8b =>
      rw [if_pos (show Region.wanted _ _ = true from rfl)]
      have kc := conv_bsD RL
      rw [Ht2.out] at kc
      go_wp2_with fail
      clear kc
      refine hK.out _ _ (fun _ => trivial) ?_
      clear hK KK
      refine wpAnyD_one 2 (by kernel_rfl) rfl (fun KK hK => ?_)
      rw [if_pos (show Region.wanted _ _ = true from rfl)]
      have LC := HKY.out w1
      go_wp2_with fail
      refine LC.mono ?_
      rintro e w2 ⟨rfl, q2⟩
      have B2 : Hid (Below w.heap.size w w2) := B1.out.trans (q2.mono B1.out.size)
      clear LC
      go_wp2_with fail
      refine hK.out _ _ (fun _ => trivial) ?_
      clear hK KK
      refine takeY 7 14 trivial ?_
      simp only [Act.put, setL, List.set]
      refine takeY 8 6 trivial ?_
      simp only [Act.put, setL, List.set]
      refine wpAnyD_done (by kernel_rfl) ?_ _
      exact REST.out _ B2.out
set_option maxHeartbeats 8000000 in
set_option maxRecDepth 100000 in
theorem l6At_calls (m : Int) (h : Nat) (i : Int) (hh : h < 4294967296) (h0 : 0 ≤ i) (h1 : i < 256) (w : World) :
    Calls Tryz.prog 56 #[.string (strOfNums [m]), .int .i64 h, .int .i64 i] w fun e w' => e = .returned (.string (kyM m h i)) ∧ Below w.heap.size w w' := by
  have HKY : Hid _ := fun w => l5Big_calls h 4 w (by omega) (by omega)
  have HB : Hid _ := bigN_isB h 4
  have HK : Hid (kyM m h i = (strOfNums [m] ++ strOfNums (bigN h 4)) ++ strOfNums [i]) := by show kyM m h i = _; rw [son_app2, son_app2]; rfl
  have hz0 : ((strOfNums [m]).size : Int) = 1 := by rw [strOfNums_size]; rfl
  have hz1 : ((strOfNums (bigN h 4)).size : Int) = 4 := by rw [strOfNums_size, bigN_len]; rfl
  have hz2 : ((strOfNums [i]).size : Int) = 1 := by rw [strOfNums_size]; rfl
  generalize bigN h 4 = bl at *
  generalize strOfNums [m] = sm at *
  obtain ⟨t1, ht1⟩ : ∃ t, strOfNums bl = t := ⟨_, rfl⟩
  obtain ⟨t2, ht2⟩ : ∃ t, strOfNums [i] = t := ⟨_, rfl⟩
  rw [ht1] at hz1 HK
  rw [ht2] at hz2 HK
  have Ht1 : Hid _ := ht1
  have Ht2 : Hid _ := ht2
  have hz3 : ((sm ++ t1).size : Int) = 5 := by rw [ByteArray.size_append]; omega
  have hcc : ¬ (9223372036854775807 : Int) < (sm.size : Int) + (t1.size : Int) := by omega
  have hcd : ¬ (9223372036854775807 : Int) < ((sm ++ t1).size : Int) + (t2.size : Int) := by omega
  have hce : ¬ (9223372036854775807 : Int) < (sm.size : Int) + (t1.size : Int) + (t2.size : Int) := by omega
  have hcn : ¬ 9223372036854775807 < sm.size + t1.size := by omega
  have hcm : ¬ 9223372036854775807 < (sm ++ t1).size + t2.size := by omega
  have hcl : ¬ 9223372036854775807 < sm.size + t1.size + t2.size := by omega
  clear ht1 ht2 hz0 hz1 hz2 hz3
  go_enter Tryz.func56, Tryz.ntmps56
  go_upto_region 1 with fail
  rename_i KX hKX
  have REST : Hid (∀ (u : World) {v0 v1 v2 v3 v4 v5 v7 v8 v9 v10 v11 v12 v13 v14 v15 v16 : Value}, Below w.heap.size w u → KX { tmps := #[v0, v1, v2, v3, v4, v5, .string ((sm ++ t1) ++ t2), v7, v8, v9, v10, v11, v12, v13, v14, v15, v16], defers := [] } u) := by
    intro u v0 v1 v2 v3 v4 v5 v7 v8 v9 v10 v11 v12 v13 v14 v15 v16 bu
    have FIN : Hid _ := bu
    refine hKX _ _ ?_
    clear bu
    go_wp2_with fail
    go_ret
    exact ⟨by rw [HK.out]; rfl, FIN.out⟩
  obtain ⟨w0, hw0⟩ : ∃ w0, w0 = w.drew := ⟨_, rfl⟩
  have B0 : Hid (Below w.heap.size w w0) := by show Below w.heap.size w w0; rw [hw0]; exact ⟨rfl, rfl, rfl, Nat.le_refl _, fun _ _ => rfl⟩
  refine wp_regionD (fun _ => True) (fun k => decide (11 ≤ k)) (by kernel_rfl) ?_
  rw [← hw0]
  clear hw0 hKX
  refine takeY 0 7 trivial ?_
  simp only [Act.put, setL, List.set]
  refine takeY 1 8 trivial ?_
  simp only [Act.put, setL, List.set]
  refine takeY 5 12 trivial ?_
  simp only [Act.put, setL, List.set]
  refine takeY 6 13 trivial ?_
  simp only [Act.put, setL, List.set]
  refine wpAnyD_two 2 7 (by kernel_rfl) rfl rfl (fun KK hK => ?bra5a) (fun KK hK => ?bra5b)
  case bra5a =>
    rw [if_pos (show Region.wanted _ _ = true from rfl)]
    have LC := HKY.out w0
    go_wp2_with fail
    refine LC.mono ?_
    rintro e w1 ⟨gO, rfl, q1, oO⟩
    have RO := oO.bs HB.out
    have B1 : Hid (Below w.heap.size w w1) := B0.out.trans (q1.mono B0.out.size)
    clear LC oO
    go_wp2_with fail
    refine hK.out _ _ (fun _ => trivial) ?_
    clear hK KK
    refine wpAnyD_two 3 7 (by kernel_rfl) rfl rfl (fun KK hK => ?bra6a) (fun KK hK => ?bra6b)
    case bra6a =>
      rw [if_pos (show Region.wanted _ _ = true from rfl)]
      have kc := conv_bsD RO
      rw [Ht1.out] at kc
      go_wp2_with fail
      clear kc
      refine hK.out _ _ (fun _ => trivial) ?_
      clear hK KK
      refine takeY 4 11 trivial ?_
      simp only [Act.put, setL, List.set]
      refine wpAnyD_one 7 (by kernel_rfl) rfl (fun KK hK => ?_)
      rw [if_pos (show Region.wanted _ _ = true from rfl)]
      have q2 : Below w1.heap.size w1 (w1.alloc (.cells #[.int .u8 i] 5)) := (Below.refl _ _).alloc (Nat.le_refl _) _
      have RL := bs_lit1 w1 i h0 h1
      go_wp2_with fail
      have B2 : Hid (Below w.heap.size w (w1.alloc (.cells #[.int .u8 i] 5))) := B1.out.trans (q2.mono B1.out.size)
      refine hK.out _ _ (fun _ => trivial) ?_
      clear hK KK
      generalize w1.alloc (.cells #[.int .u8 i] 5) = w2 at *
      refine wpAnyD_one 8 (by kernel_rfl) rfl (fun KK hK => ?_)
      rw [if_pos (show Region.wanted _ _ = true from rfl)]
      have kc := conv_bsD RL
      rw [Ht2.out] at kc
      go_wp2_with fail
      clear kc
      refine hK.out _ _ (fun _ => trivial) ?_
      clear hK KK
      refine takeY 9 16 trivial ?_
      simp only [Act.put, setL, List.set]
      refine takeY 10 6 trivial ?_
      simp only [Act.put, setL, List.set]
      refine wpAnyD_done (by kernel_rfl) ?_ _
      exact REST.out _ B2.out
    case bra6b =>
      rw [if_pos (show Region.wanted _ _ = true from rfl)]
      have q2 : Below w1.heap.size w1 (w1.alloc (.cells #[.int .u8 i] 5)) := (Below.refl _ _).alloc (Nat.le_refl _) _
      have RL := bs_lit1 w1 i h0 h1
      go_wp2_with fail
      have B2 : Hid (Below w.heap.size w (w1.alloc (.cells #[.int .u8 i] 5))) := B1.out.trans (q2.mono B1.out.size)
      refine hK.out _ _ (fun _ => trivial) ?_
      clear hK KK
      generalize w1.alloc (.cells #[.int .u8 i] 5) = w2 at *
      refine wpAnyD_two 3 8 (by kernel_rfl) rfl rfl (fun KK hK => ?bra10a) (fun KK hK => ?bra10b)
      case bra10a =>
        rw [if_pos (show Region.wanted _ _ = true from rfl)]
        have kc := conv_bsD (RO.below q2)
        rw [Ht1.out] at kc
        go_wp2_with fail
        clear kc
        refine hK.out _ _ (fun _ => trivial) ?_
        clear hK KK
        refine takeY 4 11 trivial ?_
        simp only [Act.put, setL, List.set]
        refine wpAnyD_one 8 (by kernel_rfl) rfl (fun KK hK => ?_)
        rw [if_pos (show Region.wanted _ _ = true from rfl)]
        have kc := conv_bsD RL
        rw [Ht2.out] at kc
        go_wp2_with fail
        clear kc
        refine hK.out _ _ (fun _ => trivial) ?_
        clear hK KK
        refine takeY 9 16 trivial ?_
        simp only [Act.put, setL, List.set]
        refine takeY 10 6 trivial ?_
        simp only [Act.put, setL, List.set]
        refine wpAnyD_done (by kernel_rfl) ?_ _
        exact REST.out _ B2.out
      case bra10b =>
        rw [if_pos (show Region.wanted _ _ = true from rfl)]
        have kc := conv_bsD RL
        rw [Ht2.out] at kc
        go_wp2_with fail
        clear kc
        refine hK.out _ _ (fun _ => trivial) ?_
        clear hK KK
        refine wpAnyD_one 3 (by kernel_rfl) rfl (fun KK hK => ?_)
        rw [if_pos (show Region.wanted _ _ = true from rfl)]
        have kc := conv_bsD (RO.below q2)
        rw [Ht1.out] at kc
        go_wp2_with fail
        clear kc
        refine hK.out _ _ (fun _ => trivial) ?_
        clear hK KK
        refine takeY 4 11 trivial ?_
        simp only [Act.put, setL, List.set]
        refine takeY 9 16 trivial ?_
        simp only [Act.put, setL, List.set]
        refine takeY 10 6 trivial ?_
        simp only [Act.put, setL, List.set]
        refine wpAnyD_done (by kernel_rfl) ?_ _
        exact REST.out _ B2.out
  case bra5b =>
    rw [if_pos (show Region.wanted _ _ = true from rfl)]
    have q1 : Below w0.heap.size w0 (w0.alloc (.cells #[.int .u8 i] 5)) := (Below.refl _ _).alloc (Nat.le_refl _) _
    have RL := bs_lit1 w0 i h0 h1
    go_wp2_with fail
    have B1 : Hid (Below w.heap.size w (w0.alloc (.cells #[.int .u8 i] 5))) := B0.out.trans (q1.mono B0.out.size)
    refine hK.out _ _ (fun _ => trivial) ?_
    clear hK KK
    generalize w0.alloc (.cells #[.int .u8 i] 5) = w1 at *
    refine wpAnyD_two 2 8 (by kernel_rfl) rfl rfl (fun KK hK => ?bra17a) (fun KK hK => ?bra17b)
    case bra17a =>
      rw [if_pos (show Region.wanted _ _ = true from rfl)]
      have LC := HKY.out w1
      go_wp2_with fail
      refine LC.mono ?_
      rintro e w2 ⟨gO, rfl, q2, oO⟩
      have RO := oO.bs HB.out
      have B2 : Hid (Below w.heap.size w w2) := B1.out.trans (q2.mono B1.out.size)
      clear LC oO
      go_wp2_with fail
      refine hK.out _ _ (fun _ => trivial) ?_
      clear hK KK
      refine wpAnyD_two 3 8 (by kernel_rfl) rfl rfl (fun KK hK => ?bra18a) (fun KK hK => ?bra18b)
      case bra18a =>
        rw [if_pos (show Region.wanted _ _ = true from rfl)]
        have kc := conv_bsD RO
        rw [Ht1.out] at kc
        go_wp2_with fail
        clear kc
        refine hK.out _ _ (fun _ => trivial) ?_
        clear hK KK
        refine takeY 4 11 trivial ?_
        simp only [Act.put, setL, List.set]
        refine wpAnyD_one 8 (by kernel_rfl) rfl (fun KK hK => ?_)
        rw [if_pos (show Region.wanted _ _ = true from rfl)]
        have kc := conv_bsD (RL.below q2)
        rw [Ht2.out] at kc
        go_wp2_with fail
        clear kc
        refine hK.out _ _ (fun _ => trivial) ?_
        clear hK KK
        refine takeY 9 16 trivial ?_
        simp only [Act.put, setL, List.set]
        refine takeY 10 6 trivial ?_
        simp only [Act.put, setL, List.set]
        refine wpAnyD_done (by kernel_rfl) ?_ _
        exact REST.out _ B2.out
      case bra18b =>
        rw [if_pos (show Region.wanted _ _ = true from rfl)]
        have kc := conv_bsD (RL.below q2)
        rw [Ht2.out] at kc
        go_wp2_with fail
        clear kc
        refine hK.out _ _ (fun _ => trivial) ?_
        clear hK KK
        refine wpAnyD_one 3 (by kernel_rfl) rfl (fun KK hK => ?_)
        rw [if_pos (show Region.wanted _ _ = true from rfl)]
        have kc := conv_bsD RO
        rw [Ht1.out] at kc
        go_wp2_with fail
        clear kc
        refine hK.out _ _ (fun _ => trivial) ?_
        clear hK KK
        refine takeY 4 11 trivial ?_
        simp only [Act.put, setL, List.set]
        refine takeY 9 16 trivial ?_
        simp only [Act.put, setL, List.set]
        refine takeY 10 6 trivial ?_
        simp only [Act.put, setL, List.set]
        refine wpAnyD_done (by kernel_rfl) ?_ _
        exact REST.out _ B2.out
    case bra17b =>
      rw [if_pos (show Region.wanted _ _ = true from rfl)]
      have kc := conv_bsD RL
      rw [Ht2.out] at kc
      go_wp2_with fail
      clear kc
      refine hK.out _ _ (fun _ => trivial) ?_
      clear hK KK
      refine wpAnyD_one 2 (by kernel_rfl) rfl (fun KK hK => ?_)
      rw [if_pos (show Region.wanted _ _ = true from rfl)]
      have LC := HKY.out w1
      go_wp2_with fail
      refine LC.mono ?_
      rintro e w2 ⟨gO, rfl, q2, oO⟩
      have RO := oO.bs HB.out
      have B2 : Hid (Below w.heap.size w w2) := B1.out.trans (q2.mono B1.out.size)
      clear LC oO
      go_wp2_with fail
      refine hK.out _ _ (fun _ => trivial) ?_
      clear hK KK
      refine wpAnyD_one 3 (by kernel_rfl) rfl (fun KK hK => ?_)
      rw [if_pos (show Region.wanted _ _ = true from rfl)]
      have kc := conv_bsD RO
      rw [Ht1.out] at kc
      go_wp2_with fail
      clear kc
      refine hK.out _ _ (fun _ => trivial) ?_
      clear hK KK
      refine takeY 4 11 trivial ?_
      simp only [Act.put, setL, List.set]
      refine takeY 9 16 trivial ?_
      simp only [Act.put, setL, List.set]
      refine takeY 10 6 trivial ?_
      simp only [Act.put, setL, List.set]
      refine wpAnyD_done (by kernel_rfl) ?_ _
      exact REST.out _ B2.out
end Go.Proofs.YtnohmedccbogkaaGreatDoor

namespace Go.Proofs.YtnohmedccbogkaaGreatDoor
open Go.RowKit
set_option linter.unusedVariables false
theorem plan_pt : plan Tryz.prog 52 = some ((pc zeroP).toArray, [(0, 32), (32, 1)]) := by kernel_rfl
theorem built_pt (X : List Int) (n : Int) (hX : X.length = 32) : Tryz.prog.built 52 [(0, .agg (ob X).toArray), (1, .int .i64 n)] = some (pc (X, n)).toArray := by
  have hl : (ob X).length = 32 := by rw [ob_length, hX]
  have hz : (pc zeroP).length = 33 := rfl
  rw [built_plan plan_pt, fill_step _ _ 0 0 _ (ob X) _ (by simp [hl]) rfl (by simp [hl, hz])]
  rw [fill_step _ _ 1 32 _ [.int .i64 n] _ (by simp) rfl (by simp [hl, hz])]
  simp only [Instr.fill, List.take_zero, List.nil_append, Nat.zero_add, hl]
  rw [List.take_append_of_le_length (by simp [hl]), List.take_of_length_le (by simp [hl]), List.drop_of_length_le (by simp [hl, hz])]
  simp [pc]
end Go.Proofs.YtnohmedccbogkaaGreatDoor

namespace Go.Proofs.YtnohmedccbogkaaGreatDoor
open Go.RowKit
set_option linter.unusedVariables false
structure DcSt (K : DK) (root : Int) (B B0 gw : Nat) (w u : World) (a : Option Addr) (c : Nat) (xs : List Ch) : Prop where
  och : OCh w.heap.size u a c xs
  only : OnlyS (fun k => B ≤ k ∧ k < B0) w u
  wot : WoT K root B B0 gw u
  top : B0 ≤ w.heap.size
section
variable {K : DK} {root : Int} {B B0 gw : Nat} {w u u' : World} {a : Option Addr} {c : Nat} {xs : List Ch}
theorem DcSt.nil (h : WoT K root B B0 gw w) : DcSt K root B B0 gw w w none 0 [] := ⟨orow_nil _ _ _ _ _, OnlyS.refl _ _, h, h.le.2⟩
theorem DcSt.below (h : DcSt K root B B0 gw w u a c xs) (hb : Below u.heap.size u u') : DcSt K root B B0 gw w u' a c xs := ⟨h.och.below hb, h.only.trans (OnlyS.ofBelow hb), h.wot.below hb, h.top⟩
theorem DcSt.recd (h : DcSt K root B B0 gw w u a c xs) (ho : OnlyS (fun k => B ≤ k ∧ k < B0) u u') (ht : WoT K root B B0 gw u') : DcSt K root B B0 gw w u' a c xs := ⟨h.och.onlyS ho (fun k hk hz => by have := h.top; omega), h.only.trans ho, ht, h.top⟩
theorem DcSt.cur (h : DcSt K root B B0 gw w u a c xs) {g : Nat} {l : List Int} (hC : Cur u g g l) (ho : OnlyB g u u') (hg : w.heap.size ≤ g) : DcSt K root B B0 gw w u' a c xs := by
  have ht := h.top
  have hl := hC.lt
  have hk : KeepT 105 u u' := by obtain ⟨a, n, c, hc⟩ := hC; exact keepT_only ho hc.blk (by decide)
  exact ⟨h.och.keep hk, h.only.transN (OnlyS.ofB ho) (fun k hk e => by omega), h.wot.keep (ho.below (by omega) (by omega)) (hC.keepU (k := 0) ho), ht⟩
theorem DcSt.setR (h : DcSt K root B B0 gw w u a c xs) {g : Nat} {vs : List Value} (hb : Blk u 32 g vs) (ho : OnlyB g u u') (hg : w.heap.size ≤ g) : DcSt K root B B0 gw w u' a c xs := by
  have ht := h.top
  have hl := hb.lt
  exact ⟨h.och.keep (keepT_only ho hb (by decide)), h.only.transN (OnlyS.ofB ho) (fun k hk e => by omega), h.wot.keep (ho.below (by omega) (by omega)) (keepT_only ho hb (by decide)), ht⟩
theorem DcSt.size (h : DcSt K root B B0 gw w u a c xs) : w.heap.size ≤ u.heap.size := h.only.size
theorem DcSt.app (h : DcSt K root B B0 gw w u a c xs) {a2 : Option Addr} {c2 : Nat} {xs2 : List Ch} (ho : OCh w.heap.size u' a2 c2 xs2) (hg : u.grownBy u' (Value.slice a xs.length c).ownBlock) : DcSt K root B B0 gw w u' a2 c2 xs2 := by
  have hb := h.och.grown hg h.size
  exact ⟨ho, h.only.transN (OnlyS.ofGrown hg) (fun k hk e => by have := (World.ownsRow.lt h.och k e).1; omega), h.wot.keep (hb.mono h.top) (keepT_grown h.och hg (by decide)), h.top⟩
theorem Blk.chApp {g : Nat} {vs : List Value} {t : Nat} (h : Blk u t g vs) (ho : OCh w.heap.size u a c xs) (hg : u.grownBy u' (Value.slice a xs.length c).ownBlock) (ht : 105 ≠ t) : Blk u' t g vs := h.keepT (keepT_grown ho hg ht)
end
set_option maxHeartbeats 16000000 in
set_option maxRecDepth 100000 in
theorem unmake_calls {K : DK} {gen root used free : Int} {B B0 gw : Nat} (h : Nat) (hh : h < 4294967296) {w0 w : World} {d : DV} (hd : RDisk w0 d K) (hwh : whB K gen root used free = true) (hW : WoT K root B B0 gw w) :
    Calls Tryz.prog 60 #[.pointer (some ⟨gw, 0, none⟩), .int .i64 h] w fun e w' => ∃ a c, e = .returned (.slice a (umL (enL K root) h 256 0).length c) ∧ DcSt K root B B0 gw w w' a c (umL (enL K root) h 256 0) := by
  have HR : Hid _ := fun (i : Nat) u (hu : WoT K root B B0 gw u) => record_calls (kyM 110 h i) 33 (w := u) hd hwh hu
  have HUM : Hid (∀ i : Nat, vOf (gtE (enL K root) (kyM 110 h i)) = umV (enL K root) 110 h i) := fun i => rfl
  have HS0 : Hid _ := DcSt.nil hW
  clear hd hwh hW
  generalize enL K root = es at *
  go_enter Tryz.func60, Tryz.ntmps60
  go_wp2_with fail
  go_loopw [5, 12] (fun s5 s12 wr => ∃ (i : Nat) (a : Option Addr) (c : Nat) (xs : List Ch), s5 = .slice a xs.length c ∧ s12 = .int .i64 (i : Nat) ∧ i ≤ 256 ∧ xs ++ umL es h (256 - i) i = umL es h 256 0 ∧ xs.length ≤ 256 * i ∧ DcSt K root B B0 gw w wr a c xs) (fun _ s _ => 256 - (intOf s).toNat)
  case atStart => exact ⟨0, none, 0, [], rfl, rfl, by omega, rfl, by simp, HS0.out⟩
  case round =>
    obtain ⟨i, a, c, xs, rfl, rfl, hi, hX, hxl, hS⟩ := hrel
    obtain ⟨wR, hwX⟩ : ∃ wX, wX = wr := ⟨_, rfl⟩
    subst hwX
    clear HS0
    by_cases hlt : i < 256
    · have hlt' : (i : Int) < 256 := by omega
      have CK := countedKey_calls 110 h i hh (by omega) (by omega) wR
      have HKE : Hid _ := HUM.out i
      have HST : Hid _ := And.intro hX hS
      clear hS hX
      obtain ⟨ky, hky⟩ : ∃ ky, ky = kyM 110 h i := ⟨_, rfl⟩
      have HR1 := HR.out i
      rw [HKE.out, ← hky] at HR1
      rw [← hky] at CK
      have HR2 : Hid _ := HR1
      have HSTEP : Hid _ := umL_step (es := es) (h := h) hlt
      have HSTOP : Hid _ := umL_stop (es := es) (h := h) hlt
      have HUI : Hid (umI es h i = umN (umV es 110 h i) (umC (umV es 110 h i)) ++ [dlC ky]) := by rw [hky]; rfl
      clear HR1 HR hky HKE
      generalize umV es 110 h i = v at *
      go_wp2_with fail
      refine CK.mono ?_
      rintro e w1 ⟨rfl, b1⟩
      have S1 := HST.out.2.below b1
      have RC := HR2.out w1 S1.wot
      have HS1 : Hid _ := S1
      have hz1 := S1.size
      clear CK b1 S1
      go_wp2_with fail
      refine RC.mono ?_
      rintro e w2 ⟨g, rfl, o2, t2, hg, hgl, hC⟩
      have HS2 : Hid _ := HS1.out.recd o2 t2
      clear RC o2 t2
      by_cases hsz : v.size = 33
      · have hsz' : ((v.size : Int) == 33) = true := by simp [hsz]
        have CU := hC (by omega)
        have hnl : (nb v).length = 33 := by rw [nb_len, hsz]
        have HE : Hid _ := HSTEP.out hsz
        have HN : Hid ((nb v).length = 33) := hnl
        have HH := hash_yes g g (nb v) w2 CU (by omega) (by omega)
        have HC2 : Hid _ := CU
        have hl32 : ((nb v).take 32).length = 32 := by rw [List.length_take, hnl]; rfl
        have hB32 : IsB ((nb v).take 32) := isB_take (nb_isB v) 32
        have e32 : ((nb v).drop 32).getD 0 0 = (umC v : Int) := by rw [← umC_int]; simp [List.getD]
        have hum := umC_lt v
        have HUN : Hid _ := umN_succ v
        have HUZ : Hid (umN v 0 = []) := rfl
        have HLN : Hid _ := umN_len v
        unfold hA at HH
        clear HSTEP HSTOP hsz hC CU hnl
        have hd1 : 1 ≤ ((nb v).drop 32).length := by rw [List.length_drop, HN.out]; omega
        generalize (nb v).take 32 = l32 at *
        generalize (nb v).drop 32 = l1 at *
        generalize umC v = nc at *
        go_wp2_with fail
        refine HH.mono ?_
        rintro e w3 ⟨rfl, o3, C3⟩
        have HS3 : Hid _ := HS2.out.cur HC2.out o3 (by omega)
        have q4 : Below w3.heap.size w3 (w3.alloc (Obj.cells (ob l32).toArray 32)) := (Below.refl _ _).alloc (Nat.le_refl _) _
        have k4 : Blk (w3.alloc (Obj.cells (ob l32).toArray 32)) 32 w3.heap.size (ob l32) := blk_new w3 32 (ob l32).toArray
        have s1 : (Tryz.prog.info? 32).map (·.size) = some (ob l32).toArray.size := by rw [ob_size, hl32]; exact sizeH
        have s2 : zH.toArray.size = (ob l32).toArray.size := by rw [ob_size, hl32]; rfl
        have HS4 : Hid _ := HS3.out.below q4
        have C4 := C3.below q4
        have K4 : Hid _ := k4
        clear HH o3 C3 q4 k4
        go_upto_region 9 with (refine wpList_storeNew rfl 32 _ _ rfl w3 zH.toArray (ob l32).toArray 32 rfl rfl s1 s2 (ob_all _) ?_)
        change Code.wp _ _ _ _ (w3.alloc (Obj.cells (ob l32).toArray 32))
        generalize w3.alloc (Obj.cells (ob l32).toArray 32) = W4 at *
        generalize w3.heap.size = hb at *
        have CY := count_yes g g l1 W4 C4 hd1
        rw [e32] at CY
        have HC4 : Hid _ := C4
        clear C4 hd1 e32
        go_wp2_with fail
        refine CY.mono ?_
        rintro e w5 ⟨rfl, o5, _⟩
        have HS5 : Hid _ := HS4.out.cur HC4.out o5 (by omega)
        have K5 : Hid _ := Blk.keepT K4.out (by obtain ⟨a, n, c, hc⟩ := HC4.out; exact keepT_only o5 hc.blk (by decide))
        clear CY o5
        go_wp2_with fail
        go_loopw [5, 30] (fun s5 s30 wv => ∃ (n : Nat) (a1 : Option Addr) (c1 : Nat), s5 = .slice a1 (xs ++ umN v n).length c1 ∧ s30 = .int .i64 (n : Nat) ∧ n ≤ nc ∧ DcSt K root B B0 gw w wv a1 c1 (xs ++ umN v n) ∧ Blk wv 32 hb (ob l32)) (fun _ s _ => nc - (intOf s).toNat)
        case atStart => exact ⟨0, a, c, by rw [HUZ.out, List.append_nil], rfl, Nat.zero_le _, by rw [HUZ.out, List.append_nil]; exact HS5.out, K5.out⟩
        case round =>
          obtain ⟨n, a1, c1, rfl, rfl, hn, hS, hK⟩ := hrel
          obtain ⟨vR, hwX⟩ : ∃ wX, wX = wr := ⟨_, rfl⟩
          subst hwX
          obtain ⟨zs, hzs⟩ : ∃ zs, zs = xs ++ umN v n := ⟨_, rfl⟩
          have HLEN : Hid (zs.length = xs.length + n) := by show zs.length = _; rw [hzs, List.length_append, HLN.out]
          have HZS : Hid (xs ++ umN v n = zs) := hzs.symm
          rw [← hzs] at hS ⊢
          clear hzs
          have HS6 : Hid _ := hS
          have HK6 : Hid _ := hK
          by_cases hlt2 : n < nc
          · have hlt2' : (n : Int) < (nc : Int) := by omega
            have CK := coinKey_calls (l32, (n : Int)) hl32 hB32 (by show (0 : Int) ≤ n; omega) (by show (n : Int) < 256; omega) vR
            have hbu0 := built_pt l32 (n : Int) hl32
            have HU1 : Hid _ := HUN.out n
            clear hS
            generalize kyC (l32, (n : Int)) = kc at *
            go_wp2_with (first | (refine wpList_load_row rfl 32 _ rfl hb rfl 32 (ob l32).toArray (0, 0) _ hK Tryz.underlying32 rfl s1 ?_) | (refine wpList_build1 rfl _ _ rfl (cs := (pc (l32, (n : Int))).toArray) ?hbu ?_))
            refine CK.mono ?_
            rintro e v1 ⟨rfl, b1⟩
            have DC := delChange_calls kc v1
            have HS7 : Hid _ := HS6.out.below b1
            have HK7 : Hid _ := Blk.below HK6.out b1
            clear CK b1 hK hbu0
            go_wp2_with fail
            refine DC.mono ?_
            rintro e v2 ⟨rfl, b2⟩
            have q3 : Below v2.heap.size v2 (v2.alloc (.cells #[.string kc, .string (strOfNums []), .bool true] 105)) := (Below.refl _ _).alloc (Nat.le_refl _) _
            have S8 := (HS7.out.below b2).below q3
            have K8 := Blk.below (Blk.below HK7.out b2) q3
            have R8 := (och_lit1 v2 (dlC kc)).reads
            have hz8 := S8.size
            have o8 := S8.och
            have HS8 : Hid _ := And.intro S8 K8
            have hl8 : zs.length + [dlC kc].length ≤ 1048576 := by rw [HLEN.out]; simp; omega
            clear DC b2 q3 S8 K8
            go_wp2_with (refine wpList_appCh rfl _ _ rfl w.heap.size a1 c1 zs rfl o8 (some ⟨v2.heap.size, 0, none⟩) 1 [dlC kc] rfl R8 hl8 hz8 ?_; rintro a9 c9 v9 O9 g9)
            go_roundw
            case rel => exact ⟨n + 1, a9, c9, by rw [HU1.out, ← List.append_assoc, HZS.out, List.length_append]; rfl, by go_num, by omega, by rw [HU1.out, ← List.append_assoc, HZS.out]; exact HS8.out.1.app O9 g9, Blk.chApp HS8.out.2 HS8.out.1.och g9 (by decide)⟩
            case measure => simp [intOf]; omega
          · have hne : n = nc := by omega
            subst hne
            have hnl : ¬ (n : Int) < (n : Int) := by omega
            have DC := delChange_calls ky vR
            clear hS hK
            go_wp2_with fail
            refine DC.mono ?_
            rintro e v2 ⟨rfl, b2⟩
            have q3 : Below v2.heap.size v2 (v2.alloc (.cells #[.string ky, .string (strOfNums []), .bool true] 105)) := (Below.refl _ _).alloc (Nat.le_refl _) _
            have S8 := (HS6.out.below b2).below q3
            have R8 := (och_lit1 v2 (dlC ky)).reads
            have hz8 := S8.size
            have o8 := S8.och
            have HS8 : Hid _ := S8
            have hl8 : zs.length + [dlC ky].length ≤ 1048576 := by rw [HLEN.out]; simp; omega
            clear DC b2 q3 S8
            go_wp2_with (refine wpList_appCh rfl _ _ rfl w.heap.size a1 c1 zs rfl o8 (some ⟨v2.heap.size, 0, none⟩) 1 [dlC ky] rfl R8 hl8 hz8 ?_; rintro a9 c9 v9 O9 g9)
            go_roundw
            case rel => exact ⟨i + 1, a9, c9, zs ++ [dlC ky], by rw [List.length_append]; rfl, by go_num, by omega, by rw [← HST.out.1, HE.out, HUI.out, ← HZS.out]; simp only [List.append_assoc], by rw [List.length_append, HLEN.out]; simp; omega, HS8.out.app O9 g9⟩
            case measure => simp [intOf]; omega
      · have hsz' : ((v.size : Int) == 33) = false := by simp; omega
        have HX : Hid (umL es h 256 0 = xs) := by show umL es h 256 0 = xs; rw [← HST.out.1, HSTOP.out hsz, List.append_nil]
        clear HSTEP HSTOP hsz hC
        go_wp2_with fail
        go_ret
        rw [HX.out]
        exact ⟨a, c, rfl, HS2.out⟩
    · have hie : i = 256 := by omega
      subst hie
      have hnl : ¬ ((256 : Nat) : Int) < 256 := by omega
      have HX : Hid (umL es h 256 0 = xs) := by show umL es h 256 0 = xs; rw [← hX]; simp [umL]
      have FIN : Hid _ := hS
      clear hX hS
      go_wp2_with fail
      go_ret
      rw [HX.out]
      exact ⟨a, c, rfl, FIN.out⟩
end Go.Proofs.YtnohmedccbogkaaGreatDoor

namespace Go.Proofs.YtnohmedccbogkaaGreatDoor
open Go.RowKit
set_option linter.unusedVariables false
theorem own_at {B : Nat} {w : World} {a : Option Addr} {n c : Nat} {l : List Int} (h : Own B w a n c l) (hn : 0 < n) : ∃ g, a = some ⟨g, 0, none⟩ := by
  rcases h.2 with ⟨e1, h0⟩ | ⟨g, cap, cur, e1, _⟩
  · omega
  · cases e1; exact ⟨g, rfl⟩
theorem load_iH {w : World} {q : Nat} {l : List Int} (hl : l.length = 32) (h : Blk w 32 q (ob l)) : (Instr.loadAt 32 (.pointer (some ⟨q, 0, none⟩))).run Tryz.prog w = .ok (.agg (ob l).toArray) w := by
  simp only [Instr.loadAt, Instr.sureAddr, Sem.run_bind, Sem.run_pure, Result.andThen]
  refine run_loadVar_at w q 0 32 (ob l) _ (fun j v hv => ?_) Tryz.underlying32 rfl (by rw [ob_length, hl]; exact sizeH)
  rw [show 0 + j = j by omega, h.cell j]
  exact hv
set_option maxHeartbeats 4000000 in
set_option maxRecDepth 100000 in
theorem tipText_calls (h : Nat) (l : List Int) (hh : h < 4294967296) (hl : l.length = 32) (hB : IsB l) (w : World) :
    Calls Tryz.prog 107 #[.int .i64 h, .agg (ob l).toArray] w fun e w' => e = .returned (.string (tpT h l)) ∧ Below w.heap.size w w' := by
  have k0 : Blk (w.alloc (Obj.cells (ob l).toArray 32)) 32 w.heap.size (ob l) := blk_new w 32 (ob l).toArray
  have q0 : Below w.heap.size w (w.alloc (Obj.cells (ob l).toArray 32)) := (Below.refl _ _).alloc (Nat.le_refl _) _
  have hIB : IsB (num h 4 ++ l) := isB_append (num_isB h 4) hB
  have HK : Hid (tpT h l = strOfNums (num h 4 ++ l)) := rfl
  go_enter Tryz.func107, Tryz.ntmps107
  go_upto_region 1 with fail
  change Code.wp _ _ _ _ (w.alloc (Obj.cells (ob l).toArray 32))
  generalize w.alloc (Obj.cells (ob l).toArray 32) = W0 at *
  obtain ⟨w0, hw0⟩ : ∃ w0, w0 = W0.drew := ⟨_, rfl⟩
  have B0 : Below W0.heap.size W0 w0 := by rw [hw0]; exact ⟨rfl, rfl, rfl, Nat.le_refl _, fun _ _ => rfl⟩
  have HQ : Hid (Below w.heap.size w w0) := q0.trans (B0.mono q0.size)
  have R0 := (blk_bs k0 hl (by omega) hB).below B0
  have AN := appendNumber_calls w0.heap.size none 0 0 [] h 4 w0 (own_nil _ _) (Nat.le_refl _) (by omega) (by omega) (by omega) (by omega)
  simp only [Nat.zero_add, List.nil_append] at AN
  have hnl := num_len (h : Int) 4
  clear k0 q0 B0
  generalize num (h : Int) 4 = nl at *
  refine wp_regionD (fun _ => True) (fun k => decide (6 ≤ k)) (by kernel_rfl) ?_
  rw [← hw0]
  clear hw0
  refine takeY 0 5 trivial ?_
  simp only [Act.put, setL, List.set]
  refine takeV 2 7 (v := .slice (some ⟨w.heap.size, 0, none⟩) 32 32) rfl ?hyb trivial ?_
  case hyb => (intro u hSw; unfold execOp; go_simp)
  simp only [Act.put, setL, List.set]
  refine wpAnyD_one 1 (by kernel_rfl) rfl (fun KK hK => ?_)
  rw [if_pos (show Region.wanted _ _ = true from rfl)]
  go_wp2_with fail
  refine AN.mono ?_
  rintro e u1 ⟨a1, c1, rfl, b1, o1⟩
  have RB := R0.below b1
  have B1 : Hid (Below w.heap.size w u1) := HQ.out.trans (b1.mono HQ.out.size)
  have hz1 := b1.size
  clear AN b1
  go_wp2_with fail
  refine hK.out _ _ (fun _ => trivial) ?_
  clear hK KK
  refine wpAnyD_one 3 (by kernel_rfl) rfl (fun KK hK => ?_)
  refine step_appG rfl _ _ rfl w0.heap.size a1 4 c1 nl rfl o1 w.heap.size 32 32 l rfl RB (by omega) hz1 ?_
  intro a2 c2 u2 o2 b2 _
  have B2 : Hid (Below w.heap.size w u2) := B1.out.trans (b2.mono HQ.out.size)
  have kc := conv_bsD (n := 36) (o2.bs hIB)
  clear o2 b2
  refine hK.out _ _ (fun _ => trivial) ?_
  clear hK KK
  refine wpAnyD_one 4 (by kernel_rfl) rfl (fun KK hK => ?_)
  rw [if_pos (show Region.wanted _ _ = true from rfl)]
  go_wp2_with fail
  clear kc
  refine hK.out _ _ (fun _ => trivial) ?_
  clear hK KK
  refine takeY 5 4 trivial ?_
  simp only [Act.put, setL, List.set]
  refine wpAnyD_done (by kernel_rfl) ?_ _
  go_wp2_with fail
  go_ret
  rw [HK.out]
  exact ⟨rfl, B2.out⟩
set_option maxHeartbeats 4000000 in
set_option maxRecDepth 100000 in
theorem l6TipPut_calls (h : Nat) (l : List Int) (hh : h < 4294967296) (hl : l.length = 32) (hB : IsB l) (w : World) :
    Calls Tryz.prog 59 #[.int .i64 h, .agg (ob l).toArray] w fun e w' => e = .returned (.agg #[.string ⟨#[116]⟩, .string (tpT h l), .bool false]) ∧ Below w.heap.size w w' := by
  obtain ⟨W0, hW0⟩ : ∃ W, W = w.alloc (Obj.cells (ob l).toArray 32) := ⟨_, rfl⟩
  obtain ⟨W1, hW1⟩ : ∃ W, W = W0.alloc (Obj.cells (chV ch0).toArray 105) := ⟨_, rfl⟩
  have q0 : Below w.heap.size w W0 := by rw [hW0]; exact (Below.refl _ _).alloc (Nat.le_refl _) _
  have q01 : Below W0.heap.size W0 W1 := by rw [hW1]; exact (Below.refl _ _).alloc (Nat.le_refl _) _
  have z0 : W0.heap.size = w.heap.size + 1 := by rw [hW0]; simp
  have q1 : Below w.heap.size w W1 := q0.trans (q01.mono q0.size)
  have k0 : Blk W1 32 w.heap.size (ob l) := (by rw [hW0]; exact blk_new w _ _ : Blk W0 32 w.heap.size (ob l)).below q01
  have k1 : Blk W1 105 (w.heap.size + 1) (chV ch0) := by rw [hW1, ← z0]; exact blk_new W0 _ _
  have hIB : IsB (num h 4 ++ l) := isB_append (num_isB h 4) hB
  have HK : Hid (tpT h l = strOfNums (num h 4 ++ l)) := rfl
  have HCS : Hid (∀ u, Below W1.heap.size W1 u → (Instr.loadAt 32 (.pointer (some ⟨w.heap.size, 0, none⟩))).run Tryz.prog u = .ok (.agg (ob l).toArray) u) := fun u hu => load_iH hl (k0.below hu)
  have HZ0 : Hid (w.heap.size + 1 = W0.heap.size) := z0.symm
  have HE : Hid _ := And.intro q1 k1
  have hzz : w.heap.size + 1 < W1.heap.size := k1.lt
  clear q0 q01 q1 k0 k1
  go_enter Tryz.func59, Tryz.ntmps59
  go_upto_region 1 with fail
  change Code.wp _ _ _ _ ((w.alloc (Obj.cells (ob l).toArray 32)).alloc (Obj.cells (chV ch0).toArray 105))
  rw [← hW0, ← hW1]
  clear hW0 hW1 z0
  obtain ⟨w0, hw0⟩ : ∃ w0, w0 = W1.drew := ⟨_, rfl⟩
  have B0 : Hid (Below W1.heap.size W1 w0) := by show Below W1.heap.size W1 w0; rw [hw0]; exact ⟨rfl, rfl, rfl, Nat.le_refl _, fun _ _ => rfl⟩
  have cs0 := HCS.out _ B0.out
  have AN := l2Num_calls h 4 w0 (by omega) (by omega) (by omega)
  have hnl := num_len (h : Int) 4
  generalize num (h : Int) 4 = nl at *
  refine wp_regionD (fun u => (Instr.loadAt 32 (.pointer (some ⟨w.heap.size, 0, none⟩))).run Tryz.prog u = .ok (.agg (ob l).toArray) u) (fun k => decide (7 ≤ k)) (by kernel_rfl) ?_
  rw [← hw0]
  clear hw0
  refine takeY 0 5 cs0 ?_
  simp only [Act.put, setL, List.set]
  refine takeV 2 7 (v := .agg (ob l).toArray) rfl ?hyb cs0 ?_
  case hyb => exact fun u hSw => yield_load (p := .pointer (some ⟨w.heap.size, 0, none⟩)) rfl rfl hSw
  simp only [Act.put, setL, List.set]
  refine wpAnyD_one 1 (by kernel_rfl) rfl (fun KK hK => ?_)
  rw [if_pos (show Region.wanted _ _ = true from rfl)]
  go_wp2_with fail
  refine AN.mono ?_
  rintro e w1 ⟨a1, c1, rfl, q1, o1⟩
  have B1 : Hid (Below W1.heap.size W1 w1) := B0.out.trans (q1.mono B0.out.size)
  have cs1 := HCS.out _ B1.out
  have LC := l5Of_calls l w1 hl hB
  have hz1 := q1.size
  clear AN q1
  go_wp2_with fail
  refine hK.out _ _ (fun _ => cs1) ?_
  clear hK KK
  refine wpAnyD_one 3 (by kernel_rfl) rfl (fun KK hK => ?_)
  rw [if_pos (show Region.wanted _ _ = true from rfl)]
  go_wp2_with fail
  refine LC.mono ?_
  rintro e w2 ⟨aO, cO, rfl, q2, oO⟩
  obtain ⟨gO, rfl⟩ := own_at oO (by omega)
  have B2 : Hid (Below W1.heap.size W1 w2) := B1.out.trans (q2.mono B1.out.size)
  have cs2 := HCS.out _ B2.out
  have RB := oO.bs hB
  have o2 := o1.below q2
  have hz2 : w0.heap.size ≤ w2.heap.size := Nat.le_trans hz1 q2.size
  clear LC oO q2 o1
  go_wp2_with fail
  refine hK.out _ _ (fun _ => cs2) ?_
  clear hK KK
  refine wpAnyD_one 4 (by kernel_rfl) rfl (fun KK hK => ?_)
  refine step_appG rfl _ _ rfl w0.heap.size a1 4 c1 nl rfl o2 gO 32 cO l rfl RB (by omega) hz2 ?_
  intro a2 c2 w3 o3 b3 _
  have B3 : Hid (Below W1.heap.size W1 w3) := B2.out.trans (b3.mono B0.out.size)
  have cs3 := HCS.out _ B3.out
  have kc := conv_bsD (n := 36) (o3.bs hIB)
  clear o3 b3 o2 RB
  refine hK.out _ _ (fun _ => cs3) ?_
  clear hK KK
  refine wpAnyD_one 5 (by kernel_rfl) rfl (fun KK hK => ?_)
  rw [if_pos (show Region.wanted _ _ = true from rfl)]
  go_wp2_with fail
  clear kc
  refine hK.out _ _ (fun _ => cs3) ?_
  clear hK KK
  refine wpAnyD_one 6 (by kernel_rfl) rfl (fun KK hK => ?_)
  rw [if_pos (show Region.wanted _ _ = true from rfl)]
  go_wp2_with fail
  refine hK.out _ _ (fun _ => cs3) ?_
  clear hK KK
  have kR := HE.out.2.below B3.out
  have oF := onlyB_setRow w3 (w.heap.size + 1) #[.string ⟨#[116]⟩, .string (strOfNums (nl ++ l)), .bool false]
  have FIN : Hid (Below w.heap.size w (w3.setRow (w.heap.size + 1) #[.string ⟨#[116]⟩, .string (strOfNums (nl ++ l)), .bool false])) := (HE.out.1.trans (B3.out.mono HE.out.1.size)).trans (oF.below (by omega) (Nat.le_trans HE.out.1.size B3.out.size))
  have kF := Blk.setRow kR #[.string ⟨#[116]⟩, .string (strOfNums (nl ++ l)), .bool false].toList
  refine wpAnyD_one 7 (by kernel_rfl) rfl (fun KK hK => ?_)
  rw [if_pos (show Region.wanted _ _ = true from rfl)]
  refine wp_store_row 105 _ _ rfl (w.heap.size + 1) #[.string ⟨#[116]⟩, .string (strOfNums (nl ++ l)), .bool false] rfl rfl 105 _ kR sizeCh rfl (by simp [Value.oneCell']) ?_
  refine hK.out _ _ (fun h => absurd h (by decide)) ?_
  clear hK KK
  refine wpAnyD_done (by kernel_rfl) ?_ _
  go_wp2_with fail
  rw [HK.out]
  refine bodyPost_ret (v := .agg #[.string ⟨#[116]⟩, .string (strOfNums (nl ++ l)), .bool false]) ?_ rfl ⟨rfl, FIN.out⟩
  exact results_cell_row Tryz.results59 _ _ (w.heap.size + 1) 105 #[.string ⟨#[116]⟩, .string (strOfNums (nl ++ l)), .bool false] (0, 0) _ rfl kF Tryz.underlying105 rfl sizeCh
set_option maxHeartbeats 8000000 in
set_option maxRecDepth 100000 in
theorem stepBack_calls {K : DK} {gen root used free : Int} {B B0 gw : Nat} (h : Nat) (hh : h < 4294967296) (h1 : 1 ≤ h) {w0 w : World} {d : DV} (hd : RDisk w0 d K) (hwh : whB K gen root used free = true) (hW : WoT K root B B0 gw w) :
    Calls Tryz.prog 62 #[.pointer (some ⟨gw, 0, none⟩), .int .i64 h] w fun e w' => ∃ a c, e = .returned (.slice a (sbL (enL K root) h).length c) ∧ DcSt K root B B0 gw w w' a c (sbL (enL K root) h) := by
  have HR : Hid _ := fun u (hu : WoT K root B B0 gw u) => record_calls (kyH 98 h) 32 (w := u) hd hwh hu
  have HPV : Hid (vOf (gtE (enL K root) (kyH 98 h)) = prV (enL K root) h) := rfl
  have HS0 : Hid _ := DcSt.nil hW
  clear hd hwh hW
  generalize enL K root = es at *
  rw [HPV.out] at HR
  have HKY := heightKey_calls 98 h hh w
  have HSB : Hid (sbL es h = [dlC (kyH 98 h), sbT es h]) := rfl
  have HST : Hid (sbT es h = if h = 1 then dlC ⟨#[116]⟩ else ptC ⟨#[116]⟩ (tpT (h - 1) (prH (prV es h)))) := rfl
  generalize prV es h = v at *
  generalize kyH 98 h = ky at *
  generalize sbT es h = sx at *
  generalize sbL es h = sl at *
  go_enter Tryz.func62, Tryz.ntmps62
  go_wp2_with fail
  refine HKY.mono ?_
  rintro e w1 ⟨rfl, b1⟩
  have DC := delChange_calls ky w1
  have HS1 : Hid _ := HS0.out.below b1
  clear HKY b1
  go_wp2_with fail
  refine DC.mono ?_
  rintro e w2 ⟨rfl, b2⟩
  have q3 : Below w2.heap.size w2 (w2.alloc (.cells #[.string ky, .string (strOfNums []), .bool true] 105)) := (Below.refl _ _).alloc (Nat.le_refl _) _
  have HS3 : Hid _ := (HS1.out.below b2).below q3
  have K3 : Hid (Blk (w2.alloc (.cells #[.string ky, .string (strOfNums []), .bool true] 105)) 105 w2.heap.size [.string ky, .string (strOfNums []), .bool true]) := blk_new w2 105 #[.string ky, .string (strOfNums []), .bool true]
  have HZF : Hid (w.heap.size ≤ w2.heap.size ∧ w2.heap.size < (w2.alloc (.cells #[.string ky, .string (strOfNums []), .bool true] 105)).heap.size) := ⟨(HS1.out.below b2).size, by simp⟩
  clear DC b2 q3
  go_upto_region 3 with (refine wpList_storeNew rfl 105 _ _ rfl w2 (chV ch0).toArray #[.string ky, .string (strOfNums []), .bool true] 105 rfl rfl sizeCh rfl rfl ?_)
  change Code.wp _ _ _ _ (w2.alloc (.cells #[.string ky, .string (strOfNums []), .bool true] 105))
  generalize w2.alloc (.cells #[.string ky, .string (strOfNums []), .bool true] 105) = W3 at *
  generalize w2.heap.size = fb at *
  by_cases h11 : h = 1
  · have h11' : (h : Int) = 1 := by omega
    rw [if_pos h11] at HST
    clear h11
    go_upto_region 4 with fail
    have HCS : Hid (∀ u, Below W3.heap.size W3 u → u.cell? ⟨fb, 0, none⟩ = some (.string ky) ∧ u.cell? ⟨fb, 1, none⟩ = some (.string (strOfNums [])) ∧ u.cell? ⟨fb, 2, none⟩ = some (.bool true)) := fun u hu => ⟨(Blk.below K3.out hu).cell 0, (Blk.below K3.out hu).cell 1, (Blk.below K3.out hu).cell 2⟩
    obtain ⟨u0, hu0⟩ : ∃ u0, u0 = W3.drew := ⟨_, rfl⟩
    have B0' : Hid (Below W3.heap.size W3 u0) := by show Below W3.heap.size W3 u0; rw [hu0]; exact ⟨rfl, rfl, rfl, Nat.le_refl _, fun _ _ => rfl⟩
    have cs0 := HCS.out _ B0'.out
    have DC := delChange_calls ⟨#[116]⟩ u0
    refine wp_regionD (fun u => u.cell? ⟨fb, 0, none⟩ = some (.string ky) ∧ u.cell? ⟨fb, 1, none⟩ = some (.string (strOfNums [])) ∧ u.cell? ⟨fb, 2, none⟩ = some (.bool true)) (fun k => decide (4 ≤ k)) (by kernel_rfl) ?_
    rw [← hu0]
    clear hu0
    refine takeY 0 16 cs0 ?_
    simp only [Act.put, setL, List.set]
    refine wpAnyD_one 1 (by kernel_rfl) rfl (fun KK hK => ?_)
    rw [if_pos (show Region.wanted _ _ = true from rfl)]
    go_wp2_with fail
    refine DC.mono ?_
    rintro e u1 ⟨rfl, b1⟩
    have B1 : Hid (Below W3.heap.size W3 u1) := B0'.out.trans (b1.mono B0'.out.size)
    have cs1 := HCS.out _ B1.out
    have S1 : Hid _ := HS3.out.below B1.out
    clear DC b1
    go_wp2_with fail
    refine hK.out _ _ (fun _ => cs1) ?_
    clear hK KK
    have q1 : Below u1.heap.size u1 (u1.alloc (.cells #[.string ky, .string (strOfNums []), .bool true, .string ⟨#[116]⟩, .string (strOfNums []), .bool true] 105)) := (Below.refl _ _).alloc (Nat.le_refl _) _
    have FT : Hid _ := S1.out.below q1
    have FO : Hid (OCh w.heap.size (u1.alloc (.cells #[.string ky, .string (strOfNums []), .bool true, .string ⟨#[116]⟩, .string (strOfNums []), .bool true] 105)) (some ⟨u1.heap.size, 0, none⟩) 2 [dlC ky, dlC ⟨#[116]⟩]) := ORow.mono (och_lit2 u1 (dlC ky) (dlC ⟨#[116]⟩)) S1.out.size
    have cs1 := HCS.out _ (B1.out.trans (q1.mono B1.out.size))
    clear q1
    refine wpAnyD_one 2 (by kernel_rfl) rfl (fun KK hK => ?_)
    rw [if_pos (show Region.wanted _ _ = true from rfl)]
    go_wp2_with fail
    refine hK.out _ _ (fun _ => cs1) ?_
    clear hK KK
    refine takeY 3 4 cs1 ?_
    simp only [Act.put, setL, List.set]
    refine wpAnyD_done (by kernel_rfl) ?_ _
    go_wp2_with fail
    go_ret
    rw [HSB.out, HST.out]
    exact ⟨_, _, rfl, FO.out, FT.out.only, FT.out.wot, FT.out.top⟩
  · have h11' : ¬ (h : Int) = 1 := by omega
    rw [if_neg h11] at HST
    obtain ⟨hm, hhm⟩ : ∃ hm : Nat, hm = h - 1 := ⟨_, rfl⟩
    rw [← hhm] at HST
    have hsub : (h : Int) - 1 = (hm : Int) := by omega
    have hhm' : hm < 4294967296 := by omega
    have hpl := prH_len v
    have hpB := prH_isB v
    have k4 : Blk (W3.alloc (Obj.cells zH.toArray 32)) 32 W3.heap.size zH := blk_new W3 _ _
    have q4 : Below W3.heap.size W3 (W3.alloc (Obj.cells zH.toArray 32)) := (Below.refl _ _).alloc (Nat.le_refl _) _
    have S4 := HS3.out.below q4
    have RC := HR.out _ S4.wot
    have HS4 : Hid _ := S4
    have K4 : Hid _ := And.intro (Blk.below K3.out q4) k4
    have hz4 : W3.heap.size < (W3.alloc (Obj.cells zH.toArray 32)).heap.size := by simp
    have hzw := HZF.out.1
    have hzf := HZF.out.2
    have htop := HS3.out.top
    clear h11 hhm k4 q4 S4
    go_upto_region 6 with fail
    change Code.wp _ _ _ _ (W3.alloc (Obj.cells zH.toArray 32))
    generalize W3.alloc (Obj.cells zH.toArray 32) = W4 at *
    generalize W3.heap.size = hb at *
    go_wp2_with fail
    refine RC.mono ?_
    rintro e w5 ⟨g, rfl, o5, t5, hg, hgl, hC⟩
    have HS5 : Hid _ := HS4.out.recd o5 t5
    have K5 : Hid _ := And.intro (Blk.onlyS K4.out.1 o5 (by omega)) (Blk.onlyS K4.out.2 o5 (by omega))
    clear RC o5 t5
    by_cases hsz : v.size = 32
    · have hsz' : ((v.size : Int) == 32) = true := by simp [hsz]
      have hnl : (nb v).length = 32 := by rw [nb_len, hsz]
      have CU := hC (by omega)
      have HH := hash_yes g g (nb v) w5 CU (by omega) (by omega)
      rw [List.take_of_length_le (by omega)] at HH
      have e1 : prH v = nb v := by unfold prH; rw [if_pos hsz]
      rw [e1] at HST hpl hpB
      have HC5 : Hid _ := CU
      clear hsz hC CU e1 hnl
      generalize nb v = lp at *
      have s1 : (Tryz.prog.info? 32).map (·.size) = some (ob lp).toArray.size := by rw [ob_size, hpl]; exact sizeH
      unfold hA at HH
      go_wp2_with fail
      refine HH.mono ?_
      rintro e w6 ⟨rfl, o6, _⟩
      have HS6 : Hid _ := HS5.out.cur HC5.out o6 (by omega)
      have kc6 : Blk w6 105 fb [.string ky, .string (strOfNums []), .bool true] := Blk.only K5.out.1 o6 (by omega)
      have kh6 : Blk w6 32 hb zH := Blk.only K5.out.2 o6 (by omega)
      have oF := onlyB_setRow w6 hb (ob lp).toArray
      have HK7 : Hid _ := And.intro (Blk.only kc6 oF (by omega)) (Blk.setRow kh6 (ob lp))
      have HS7 : Hid _ := HS6.out.setR kh6 oF (by omega)
      have s2 : zH.toArray.size = (ob lp).toArray.size := by rw [ob_size, hpl]; rfl
      clear HH o6 kc6 oF
      go_upto_region 9 with (refine wpList_store_row rfl 32 _ _ rfl hb (ob lp).toArray rfl rfl 32 _ kh6 s1 s2 (ob_all _) ?_)
      generalize w6.setRow hb (ob lp).toArray = W7 at *
      have HCS : Hid (∀ u, Below W7.heap.size W7 u → u.cell? ⟨fb, 0, none⟩ = some (.string ky) ∧ u.cell? ⟨fb, 1, none⟩ = some (.string (strOfNums [])) ∧ u.cell? ⟨fb, 2, none⟩ = some (.bool true) ∧ (Instr.loadAt 32 (.pointer (some ⟨hb, 0, none⟩))).run Tryz.prog u = .ok (.agg (ob lp).toArray) u) := fun u hu => ⟨(Blk.below HK7.out.1 hu).cell 0, (Blk.below HK7.out.1 hu).cell 1, (Blk.below HK7.out.1 hu).cell 2, load_iH hpl (Blk.below HK7.out.2 hu)⟩
      obtain ⟨u0, hu0⟩ : ∃ u0, u0 = W7.drew := ⟨_, rfl⟩
      have B0' : Hid (Below W7.heap.size W7 u0) := by show Below W7.heap.size W7 u0; rw [hu0]; exact ⟨rfl, rfl, rfl, Nat.le_refl _, fun _ _ => rfl⟩
      have cs0 := HCS.out _ B0'.out
      have TT := tipText_calls hm lp hhm' hpl hpB u0
      refine wp_regionD (fun u => u.cell? ⟨fb, 0, none⟩ = some (.string ky) ∧ u.cell? ⟨fb, 1, none⟩ = some (.string (strOfNums [])) ∧ u.cell? ⟨fb, 2, none⟩ = some (.bool true) ∧ (Instr.loadAt 32 (.pointer (some ⟨hb, 0, none⟩))).run Tryz.prog u = .ok (.agg (ob lp).toArray) u) (fun k => decide (8 ≤ k)) (by kernel_rfl) ?_
      rw [← hu0]
      clear hu0
      refine takeY 0 28 cs0 ?_
      simp only [Act.put, setL, List.set]
      refine takeY 1 29 cs0 ?_
      simp only [Act.put, setL, List.set]
      refine takeY 2 30 cs0 ?_
      simp only [Act.put, setL, List.set]
      refine takeV 3 31 (v := .agg (ob lp).toArray) rfl ?hybx cs0 ?_
      case hybx => exact fun u hSw => yield_load (p := .pointer (some ⟨hb, 0, none⟩)) rfl rfl hSw.2.2.2
      simp only [Act.put, setL, List.set]
      refine wpAnyD_one 4 (by kernel_rfl) rfl (fun KK hK => ?_)
      rw [if_pos (show Region.wanted _ _ = true from rfl)]
      go_wp2_with fail
      refine TT.mono ?_
      rintro e u1 ⟨rfl, b1⟩
      have B1 : Hid (Below W7.heap.size W7 u1) := B0'.out.trans (b1.mono B0'.out.size)
      have cs1 := HCS.out _ B1.out
      clear TT b1
      generalize tpT hm lp = tt at *
      have PC := putChange_calls ⟨#[116]⟩ tt u1
      go_wp2_with fail
      refine hK.out _ _ (fun _ => cs1) ?_
      clear hK KK
      refine wpAnyD_one 5 (by kernel_rfl) rfl (fun KK hK => ?_)
      rw [if_pos (show Region.wanted _ _ = true from rfl)]
      go_wp2_with fail
      refine PC.mono ?_
      rintro e u2 ⟨rfl, b2⟩
      have B2 : Hid (Below W7.heap.size W7 u2) := B1.out.trans (b2.mono B1.out.size)
      have cs2 := HCS.out _ B2.out
      have S2 : Hid _ := HS7.out.below B2.out
      clear PC b2
      go_wp2_with fail
      refine hK.out _ _ (fun _ => cs2) ?_
      clear hK KK
      have q2 : Below u2.heap.size u2 (u2.alloc (.cells #[.string ky, .string (strOfNums []), .bool true, .string ⟨#[116]⟩, .string tt, .bool false] 105)) := (Below.refl _ _).alloc (Nat.le_refl _) _
      have FT : Hid _ := S2.out.below q2
      have FO : Hid (OCh w.heap.size (u2.alloc (.cells #[.string ky, .string (strOfNums []), .bool true, .string ⟨#[116]⟩, .string tt, .bool false] 105)) (some ⟨u2.heap.size, 0, none⟩) 2 [dlC ky, ptC ⟨#[116]⟩ tt]) := ORow.mono (och_lit2 u2 (dlC ky) (ptC ⟨#[116]⟩ tt)) S2.out.size
      have cs2 := HCS.out _ (B2.out.trans (q2.mono B2.out.size))
      clear q2
      refine wpAnyD_one 6 (by kernel_rfl) rfl (fun KK hK => ?_)
      rw [if_pos (show Region.wanted _ _ = true from rfl)]
      go_wp2_with fail
      refine hK.out _ _ (fun _ => cs2) ?_
      clear hK KK
      refine takeY 7 4 cs2 ?_
      simp only [Act.put, setL, List.set]
      refine wpAnyD_done (by kernel_rfl) ?_ _
      go_wp2_with fail
      go_ret
      rw [HSB.out, HST.out]
      exact ⟨_, _, rfl, FO.out, FT.out.only, FT.out.wot, FT.out.top⟩
    · have hsz' : ((v.size : Int) == 32) = false := by simp; omega
      have e1 : prH v = List.replicate 32 0 := by unfold prH; rw [if_neg hsz]
      rw [e1] at HST hpl hpB
      obtain ⟨lp, hlp⟩ : ∃ lp, lp = List.replicate 32 (0 : Int) := ⟨_, rfl⟩
      have kh : Blk w5 32 hb (ob lp) := by rw [hlp]; exact K5.out.2
      rw [← hlp] at HST hpl hpB
      have HK7 : Hid _ := And.intro K5.out.1 kh
      clear hsz hC e1 hlp kh
      go_upto_region 9 with fail
      have HCS : Hid (∀ u, Below w5.heap.size w5 u → u.cell? ⟨fb, 0, none⟩ = some (.string ky) ∧ u.cell? ⟨fb, 1, none⟩ = some (.string (strOfNums [])) ∧ u.cell? ⟨fb, 2, none⟩ = some (.bool true) ∧ (Instr.loadAt 32 (.pointer (some ⟨hb, 0, none⟩))).run Tryz.prog u = .ok (.agg (ob lp).toArray) u) := fun u hu => ⟨(Blk.below HK7.out.1 hu).cell 0, (Blk.below HK7.out.1 hu).cell 1, (Blk.below HK7.out.1 hu).cell 2, load_iH hpl (Blk.below HK7.out.2 hu)⟩
      obtain ⟨u0, hu0⟩ : ∃ u0, u0 = w5.drew := ⟨_, rfl⟩
      have B0' : Hid (Below w5.heap.size w5 u0) := by show Below w5.heap.size w5 u0; rw [hu0]; exact ⟨rfl, rfl, rfl, Nat.le_refl _, fun _ _ => rfl⟩
      have cs0 := HCS.out _ B0'.out
      have TT := tipText_calls hm lp hhm' hpl hpB u0
      refine wp_regionD (fun u => u.cell? ⟨fb, 0, none⟩ = some (.string ky) ∧ u.cell? ⟨fb, 1, none⟩ = some (.string (strOfNums [])) ∧ u.cell? ⟨fb, 2, none⟩ = some (.bool true) ∧ (Instr.loadAt 32 (.pointer (some ⟨hb, 0, none⟩))).run Tryz.prog u = .ok (.agg (ob lp).toArray) u) (fun k => decide (8 ≤ k)) (by kernel_rfl) ?_
      rw [← hu0]
      clear hu0
      refine takeY 0 28 cs0 ?_
      simp only [Act.put, setL, List.set]
      refine takeY 1 29 cs0 ?_
      simp only [Act.put, setL, List.set]
      refine takeY 2 30 cs0 ?_
      simp only [Act.put, setL, List.set]
      refine takeV 3 31 (v := .agg (ob lp).toArray) rfl ?hyby cs0 ?_
      case hyby => exact fun u hSw => yield_load (p := .pointer (some ⟨hb, 0, none⟩)) rfl rfl hSw.2.2.2
      simp only [Act.put, setL, List.set]
      refine wpAnyD_one 4 (by kernel_rfl) rfl (fun KK hK => ?_)
      rw [if_pos (show Region.wanted _ _ = true from rfl)]
      go_wp2_with fail
      refine TT.mono ?_
      rintro e u1 ⟨rfl, b1⟩
      have B1 : Hid (Below w5.heap.size w5 u1) := B0'.out.trans (b1.mono B0'.out.size)
      have cs1 := HCS.out _ B1.out
      clear TT b1
      generalize tpT hm lp = tt at *
      have PC := putChange_calls ⟨#[116]⟩ tt u1
      go_wp2_with fail
      refine hK.out _ _ (fun _ => cs1) ?_
      clear hK KK
      refine wpAnyD_one 5 (by kernel_rfl) rfl (fun KK hK => ?_)
      rw [if_pos (show Region.wanted _ _ = true from rfl)]
      go_wp2_with fail
      refine PC.mono ?_
      rintro e u2 ⟨rfl, b2⟩
      have B2 : Hid (Below w5.heap.size w5 u2) := B1.out.trans (b2.mono B1.out.size)
      have cs2 := HCS.out _ B2.out
      have S2 : Hid _ := HS5.out.below B2.out
      clear PC b2
      go_wp2_with fail
      refine hK.out _ _ (fun _ => cs2) ?_
      clear hK KK
      have q2 : Below u2.heap.size u2 (u2.alloc (.cells #[.string ky, .string (strOfNums []), .bool true, .string ⟨#[116]⟩, .string tt, .bool false] 105)) := (Below.refl _ _).alloc (Nat.le_refl _) _
      have FT : Hid _ := S2.out.below q2
      have FO : Hid (OCh w.heap.size (u2.alloc (.cells #[.string ky, .string (strOfNums []), .bool true, .string ⟨#[116]⟩, .string tt, .bool false] 105)) (some ⟨u2.heap.size, 0, none⟩) 2 [dlC ky, ptC ⟨#[116]⟩ tt]) := ORow.mono (och_lit2 u2 (dlC ky) (ptC ⟨#[116]⟩ tt)) S2.out.size
      have cs2 := HCS.out _ (B2.out.trans (q2.mono B2.out.size))
      clear q2
      refine wpAnyD_one 6 (by kernel_rfl) rfl (fun KK hK => ?_)
      rw [if_pos (show Region.wanted _ _ = true from rfl)]
      go_wp2_with fail
      refine hK.out _ _ (fun _ => cs2) ?_
      clear hK KK
      refine takeY 7 4 cs2 ?_
      simp only [Act.put, setL, List.set]
      refine wpAnyD_done (by kernel_rfl) ?_ _
      go_wp2_with fail
      go_ret
      rw [HSB.out, HST.out]
      exact ⟨_, _, rfl, FO.out, FT.out.only, FT.out.wot, FT.out.top⟩
end Go.Proofs.YtnohmedccbogkaaGreatDoor

