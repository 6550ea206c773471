import Derived.Test.YtjjfgoeibcmfkaaDoorFS6
import Derived.Test.YtjjfgoeibcmfkaaDoorFS11
import Derived.Maps.OwnSet
import Derived.Maps.OwnOps
import Derived.Maps.Views
import Derived.Carry
import Derived.Test.YtjjfgoeibcmfkaaDoorChecked
import Derived.WalkKit
import Derived.LaidEql
import Derived.Stop.Asserts
import Derived.RowKitTokens
import Derived.Test.YtjjfgoeibcmfkaaDoorFS0
import Derived.Deep.RegionHeld
namespace Go.Proofs.YtjjfgoeibcmfkaaDoor
open Go.RowKit Go.Maps

theorem law3 : Keyed Tryd.prog 3 := int_keyed Tryd.underlying3
theorem zero3 (w : World) : (zeroValue 3).run Tryd.prog w = .ok (.int .i64 0) w := by kernel_rfl

/-- The map of the last writes behind j of them. -/
def lastD (At : Nat → Int) : Nat → DataW Unit
  | 0 => .map []
  | j + 1 => (lastD At j).put (.int .i64 (At j)) (.lit (.int .i64 (j : Int)))
theorem lastD_isMap (At : Nat → Int) : ∀ j, IsMap (lastD At j)
  | 0 => ⟨[], rfl⟩
  | j + 1 => (lastD_isMap At j).put _ _
theorem lastD_has (At : Nat → Int) (t : Int) : ∀ j, Maps.has (lastD At j) (.int .i64 t) = (lastTo At t j).isSome
  | 0 => rfl
  | j + 1 => by
    show Maps.has ((lastD At j).put _ _) _ = _
    by_cases e : At j = t
    · subst e
      rw [has_put_same (lastD_isMap At j) (by exact trivial)]
      simp [lastTo]
    · rw [has_put_other (by intro h; apply e; cases h; rfl), lastD_has At t j]
      simp [lastTo, e]
theorem lastD_at (At : Nat → Int) (t : Int) : ∀ j i, lastTo At t j = some i → (lastD At j).atKey (.int .i64 t) (.lit (.int .i64 0)) = .lit (.int .i64 (i : Int))
  | 0, i, h => by simp [lastTo] at h
  | j + 1, i, h => by
    show ((lastD At j).put _ _).atKey _ _ = _
    simp only [lastTo] at h
    by_cases e : At j = t
    · subst e
      rw [if_pos rfl] at h
      cases h
      rw [atKey_put_same (lastD_isMap At j) (by exact trivial)]
    · rw [if_neg e] at h
      rw [atKey_put_other (by intro h; apply e; cases h; rfl)]
      exact lastD_at At t j i h

def rZ : Value := .agg #[.slice none 0 0, .slice none 0 0, .map none]
set_option maxRecDepth 100000 in
set_option maxHeartbeats 1000000 in
theorem newReader_no (d : DV) (K : DK) (w : World) (h : RDisk w d K) (hok : ¬ dOk K) :
    Calls Tryd.prog 31 #[dval d K] w fun e w' => e = .returned (.tuple #[rZ, .bool false]) ∧ Below w.heap.size w w' := by
  have Q0 : Hid _ := ((Below.refl w.heap.size w).alloc (Nat.le_refl _) (.cells #[.slice d.sa K.n d.sc, .slice d.pa K.m d.pc] 33)).alloc (by simp) (.cells #[.slice none 0 0, .slice none 0 0, .map none] 66)
  have HV : Hid (dOkB K = false) := dOk_false hok
  clear hok
  unfold dval
  go_enter Tryd.func31, Tryd.ntmps31
  go_wp2_with fail
  refine (implDiskOk_calls d K _ (h.below Q0.out)).mono ?_
  rw [HV.out]
  rintro e w1 ⟨rfl, b1⟩
  have k0 : w1.cell? ⟨w.heap.size + 1, 0, none⟩ = some (.slice none 0 0) := by rw [b1.cell (p := ⟨w.heap.size + 1, 0, none⟩) (by simp)]; simp
  have k1 : w1.cell? ⟨w.heap.size + 1, 1, none⟩ = some (.slice none 0 0) := by rw [b1.cell (p := ⟨w.heap.size + 1, 1, none⟩) (by simp)]; simp
  have k2 : w1.cell? ⟨w.heap.size + 1, 2, none⟩ = some (.map none) := by rw [b1.cell (p := ⟨w.heap.size + 1, 2, none⟩) (by simp)]; simp
  have f0 : w1.frozen? ⟨w.heap.size + 1, 0, none⟩ = false := by rw [b1.frozen (p := ⟨w.heap.size + 1, 0, none⟩) (by simp)]; simp
  have f1 : w1.frozen? ⟨w.heap.size + 1, 1, none⟩ = false := by rw [b1.frozen (p := ⟨w.heap.size + 1, 1, none⟩) (by simp)]; simp
  have f2 : w1.frozen? ⟨w.heap.size + 1, 2, none⟩ = false := by rw [b1.frozen (p := ⟨w.heap.size + 1, 2, none⟩) (by simp)]; simp
  have d1 : Below w.heap.size w w1 := Q0.out.trans (b1.mono Q0.out.size)
  clear b1
  go_wp2
  have b2 := ((d1.setCell (p := ⟨w.heap.size + 1, 0, none⟩) (Nat.le_succ _) (.slice none 0 0)).setCell (p := ⟨w.heap.size + 1, 1, none⟩) (Nat.le_succ _) (.slice none 0 0)).setCell (p := ⟨w.heap.size + 1, 2, none⟩) (Nat.le_succ _) (.map none)
  exact bodyPost_ret (v := .tuple #[rZ, .bool false]) (by simp [results, Tryd.results31, go_sem, k0, k1, k2, rZ]) rfl ⟨rfl, b2⟩

theorem keyI {t : Int} (h0 : 0 ≤ t) (h1 : t < 4096) : keyOf Tryd.prog 3 (.int .i64 t) = some (.int .i64 t) := keyOf_int_mk Tryd.underlying3 (WalkArith.wf_i64 (by omega))

set_option maxRecDepth 100000 in
set_option maxHeartbeats 1000000 in
theorem newReader_core (sa pa : Option Addr) (sc pc : Nat) (sA pA : Nat → Option Addr) (sN sC pN pC : Nat → Nat) (K : DK) (w : World) (hs : RRecs 0 w sa K.n sc zI sA sN sC K.S) (hp : RRecs 1 w pa K.m pc (aI K) pA pN pC K.D) (hok : dOk K) :
    Calls Tryd.prog 31 #[.agg #[.slice sa K.n sc, .slice pa K.m pc]] w fun e w' => ∃ g, e = .returned (.tuple #[.agg #[.slice sa K.n sc, .slice pa K.m pc, .map (some g)], .bool true]) ∧ Below w.heap.size w w' ∧ w'.ownsMap Tryd.prog 3 (plainElem Tryd.prog 3) g K.m (lastD K.At K.m) := by
  obtain ⟨⟨hn1, hn2, hm1⟩, _, hP⟩ := id hok
  have hmm := @run_makeMap Tryd.prog
  have Q0 : Hid _ := ((Below.refl w.heap.size w).alloc (Nat.le_refl _) (.cells #[.slice sa K.n sc, .slice pa K.m pc] 33)).alloc (by simp) (.cells #[.slice none 0 0, .slice none 0 0, .map none] 66)
  have HV : Hid (dOkB K = true) := dOk_true hok
  have HP : Hid _ := hP
  clear hP hok
  go_enter Tryd.func31, Tryd.ntmps31
  go_wp2_with fail
  refine (implDiskOk_core sa pa sc pc sA pA sN sC pN pC K _ (hs.below Q0.out) (hp.below Q0.out)).mono ?_
  rw [HV.out]
  rintro e w1 ⟨rfl, b1⟩
  have c0 : w1.cell? ⟨w.heap.size, 0, none⟩ = some (.slice sa K.n sc) := by rw [b1.cell (p := ⟨w.heap.size, 0, none⟩) (by simp; omega)]; simp
  have c1 : w1.cell? ⟨w.heap.size, 1, none⟩ = some (.slice pa K.m pc) := by rw [b1.cell (p := ⟨w.heap.size, 1, none⟩) (by simp; omega)]; simp
  have k0 : w1.cell? ⟨w.heap.size + 1, 0, none⟩ = some (.slice none 0 0) := by rw [b1.cell (p := ⟨w.heap.size + 1, 0, none⟩) (by simp)]; simp
  have k1 : w1.cell? ⟨w.heap.size + 1, 1, none⟩ = some (.slice none 0 0) := by rw [b1.cell (p := ⟨w.heap.size + 1, 1, none⟩) (by simp)]; simp
  have k2 : w1.cell? ⟨w.heap.size + 1, 2, none⟩ = some (.map none) := by rw [b1.cell (p := ⟨w.heap.size + 1, 2, none⟩) (by simp)]; simp
  have f0 : w1.frozen? ⟨w.heap.size + 1, 0, none⟩ = false := by rw [b1.frozen (p := ⟨w.heap.size + 1, 0, none⟩) (by simp)]; simp
  have f1 : w1.frozen? ⟨w.heap.size + 1, 1, none⟩ = false := by rw [b1.frozen (p := ⟨w.heap.size + 1, 1, none⟩) (by simp)]; simp
  have f2 : w1.frozen? ⟨w.heap.size + 1, 2, none⟩ = false := by rw [b1.frozen (p := ⟨w.heap.size + 1, 2, none⟩) (by simp)]; simp
  have d1 : Below w.heap.size w w1 := Q0.out.trans (b1.mono Q0.out.size)
  have z1 : w.heap.size + 1 < w1.heap.size := by have := b1.size; simp at this; omega
  have KK : Hid _ := (And.intro (And.intro c0 c1) (And.intro (And.intro k0 (And.intro k1 k2)) (And.intro f0 (And.intro f1 f2))))
  have D1 : Hid _ := d1
  have m1 : (w1.alloc (.map #[] 0)).cell? ⟨w.heap.size, 1, none⟩ = some (.slice pa K.m pc) := by rw [((Below.refl w1.heap.size w1).alloc (Nat.le_refl _) _).cell (p := ⟨w.heap.size, 1, none⟩) (by show w.heap.size < _; omega)]; exact c1
  clear b1 k0 k1 k2 f0 f1 f2 d1
  go_wp2
  go_loopw [5, 6, 15] (fun _ _ i wr => ∃ j : Nat, j ≤ K.m ∧ i = .int .i64 j ∧ Below w1.heap.size w1 wr ∧ wr.ownsMap Tryd.prog 3 (plainElem Tryd.prog 3) w1.heap.size j (lastD K.At j)) (fun _ _ i _ => K.m - (intOf i).toNat)
  case atStart => exact ⟨0, Nat.zero_le _, rfl, (Below.refl _ _).alloc (Nat.le_refl _) _, World.ownsMap_made _ _ _ _⟩
  case round =>
    obtain ⟨j, hj, rfl, hb, ho⟩ := hrel
    by_cases hlt : j < K.m
    · obtain ⟨b2, off2, rfl, hbl2, hc2⟩ := hp.at_ (by omega)
      have hPj := HP.out j hlt
      have D2 : Below w.heap.size w wr := D1.out.trans (hb.mono D1.out.size)
      have k0 : wr.cell? ⟨b2, off2 + j * 2, none⟩ = some (.int .i64 (K.At j)) := by rw [D2.cell (p := ⟨b2, off2 + j * 2, none⟩) hbl2]; exact (hc2 j hlt).1 0 (by omega)
      have k1 : wr.cell? ⟨b2, off2 + j * 2 + 1, none⟩ = some (.slice (pA j) (pN j) (pC j)) := by rw [D2.cell (p := ⟨b2, off2 + j * 2 + 1, none⟩) hbl2]; exact (hc2 j hlt).2
      have hkey := keyI hPj.1 (by have := hPj.2.1; omega)
      have hi1 : (0 : Int) ≤ (j : Int) := by omega
      have hi2 : (j : Int) < (K.m : Int) := by omega
      have HB : Hid _ := hb
      have HO : Hid (wr.ownsMap Tryd.prog 3 (plainElem Tryd.prog 3) w1.heap.size j (lastD K.At j)) := ho
      clear hc2 hp hs hPj hb ho c0 c1 m1
      have ho2 := HO.out.alloc (.cells #[.int .i64 (K.At j), .slice (pA j) (pN j) (pC j)] 100)
      have HO2 : Hid _ := ho2
      clear ho2
      go_wp2_with (first
        | (at_mapUpdate; refine wpList_mapUpdate_own _ rfl _ _ _ 64 rfl 3 3 law3 Tryd.underlying64 (plainElem Tryd.prog 3) w1.heap.size j _ rfl HO2.out (by unfold maxLen; omega) _ _ _ rfl rfl hkey (.lit (.int .i64 (j : Int))) [] (plainElem_int Tryd.underlying3 (WalkArith.wf_i64 (by omega))) ?_; intro w3 ho3 hg3)
        | go_in)
      have BS : Hid (Below w1.heap.size w1 w3) := (HB.out.alloc HB.out.size _).grown hg3 (by have := HB.out.size; simp; omega) (fun k hk => by cases hk; exact Nat.le_refl _)
      have HO3 : Hid (w3.ownsMap Tryd.prog 3 (plainElem Tryd.prog 3) w1.heap.size (j + 1) (lastD K.At (j + 1))) := ho3
      clear ho3 hg3
      go_roundw
      case rel => exact ⟨j + 1, by omega, by go_num, BS.out, HO3.out⟩
      case measure => simp [intOf]; omega
    · have e : j = K.m := by omega
      obtain ⟨⟨c0, c1⟩, ⟨k0, k1, k2⟩, f0, f1, f2⟩ := KK.out
      have HJ : Hid (j = K.m) := e
      have HO : Hid (wr.ownsMap Tryd.prog 3 (plainElem Tryd.prog 3) w1.heap.size j (lastD K.At j)) := ho
      have keyc : ∀ p : Addr, p.block < w1.heap.size → wr.cell? p = w1.cell? p := fun p hp => hb.cell hp
      have keyf : ∀ p : Addr, p.block < w1.heap.size → wr.frozen? p = w1.frozen? p := fun p hp => hb.frozen hp
      have q0 : w.heap.size < w1.heap.size := by omega
      rw [← keyc _ q0] at c0 c1
      rw [← keyc _ z1] at k0 k1 k2
      rw [← keyf _ z1] at f0 f1 f2
      have D2 : Hid (Below w.heap.size w wr) := D1.out.trans (hb.mono D1.out.size)
      clear keyc keyf e ho hb m1 KK hs hp
      go_wp2
      have b2 := ((D2.out.setCell (p := ⟨w.heap.size + 1, 0, none⟩) (Nat.le_succ _) (.slice sa K.n sc)).setCell (p := ⟨w.heap.size + 1, 1, none⟩) (Nat.le_succ _) (.slice pa K.m pc)).setCell (p := ⟨w.heap.size + 1, 2, none⟩) (Nat.le_succ _) (.map (some w1.heap.size))
      have o2 := ((HO.out.setCell (a := ⟨w.heap.size + 1, 0, none⟩) (by show w1.heap.size ≠ w.heap.size + 1; omega) (.slice sa K.n sc)).setCell (a := ⟨w.heap.size + 1, 1, none⟩) (by show w1.heap.size ≠ w.heap.size + 1; omega) (.slice pa K.m pc)).setCell (a := ⟨w.heap.size + 1, 2, none⟩) (by show w1.heap.size ≠ w.heap.size + 1; omega) (.map (some w1.heap.size))
      rw [HJ.out] at o2
      exact bodyPost_ret (v := .tuple #[.agg #[.slice sa K.n sc, .slice pa K.m pc, .map (some w1.heap.size)], .bool true]) (by simp [results, Tryd.results31, go_sem, k0, k1, k2]) rfl ⟨_, rfl, b2, o2⟩

/-- The slice in which a sector lies now. -/
def nowV (d : DV) (K : DK) (t : Nat) : Value := .slice (pick K.At d.pA d.sA K.m t) (pick K.At d.pN d.sN K.m t) (pick K.At d.pC d.sC K.m t)
set_option maxRecDepth 100000 in
set_option maxHeartbeats 1000000 in
theorem sector_core (sa pa : Option Addr) (sc pc : Nat) (sA pA : Nat → Option Addr) (sN sC pN pC : Nat → Nat) (K : DK) (w : World) (hs : RRecs 0 w sa K.n sc zI sA sN sC K.S) (hp : RRecs 1 w pa K.m pc (aI K) pA pN pC K.D) (hok : dOk K)
    (g T : Nat) (hT : T < K.n) (ho : w.ownsMap Tryd.prog 3 (plainElem Tryd.prog 3) g K.m (lastD K.At K.m)) :
    Calls Tryd.prog 80 #[.agg #[.slice sa K.n sc, .slice pa K.m pc, .map (some g)], .int .i64 T] w fun e w' => e = .returned (.slice (pick K.At pA sA K.m T) (pick K.At pN sN K.m T) (pick K.At pC sC K.m T)) ∧ Below w.heap.size w w' := by
  obtain ⟨⟨hn1, hn2, hm1⟩, _, hP⟩ := hok
  have Q0 : Hid _ := (Below.refl w.heap.size w).alloc (Nat.le_refl _) (.cells #[.slice sa K.n sc, .slice pa K.m pc, .map (some g)] 66)
  have HO : Hid _ := ho.alloc (.cells #[.slice sa K.n sc, .slice pa K.m pc, .map (some g)] 66)
  have hkey : keyOf Tryd.prog 3 (.int .i64 (T : Int)) = some (.int .i64 (T : Int)) := keyI (by omega) (by omega)
  have hi3 : (0 : Int) ≤ (T : Int) := by omega
  have hi4 : (T : Int) < (K.n : Int) := by omega
  have hhas := lastD_has K.At (T : Int) K.m
  unfold pick
  cases hl : lastTo K.At (T : Int) K.m with
  | some i =>
    rw [hl] at hhas
    have hat := lastD_at K.At (T : Int) K.m i hl
    have hi := lastTo_lt hl
    obtain ⟨b2, off2, rfl, hbl2, hc2⟩ := hp.at_ (by omega)
    have k1 : w.cell? ⟨b2, off2 + i * 2 + 1, none⟩ = some (.slice (pA i) (pN i) (pC i)) := (hc2 i hi).2
    rw [← Q0.out.cell (p := ⟨b2, off2 + i * 2 + 1, none⟩) hbl2] at k1
    have HAT : Hid _ := hat
    have HH : Hid _ := hhas
    have hi1 : (0 : Int) ≤ (i : Int) := by omega
    have hi2 : (i : Int) < (K.m : Int) := by omega
    clear hat hhas hc2 hp hs ho hP hl
    simp only []
    go_enter Tryd.func80, Tryd.ntmps80
    go_wp2_with (first
      | (at_lookup; refine wpList_lookup_own_ok_int _ rfl _ _ 64 rfl 3 3 .i64 law3 Tryd.underlying64 Tryd.underlying3 (zero3 _) g K.m (lastD K.At K.m) rfl HO.out _ _ rfl hkey ?_; intro c hc _; rw [HAT.out] at hc; cases hc; rw [HH.out]; simp only [Option.isSome])
      | go_in)
    go_ret
    exact ⟨rfl, Q0.out⟩
  | none =>
    rw [hl] at hhas
    obtain ⟨b2, off2, rfl, hbl2, hc2⟩ := hs.at_ (by omega)
    have k1 : w.cell? ⟨b2, off2 + T, none⟩ = some (.slice (sA T) (sN T) (sC T)) := by have := (hc2 T hT).2; simpa using this
    rw [← Q0.out.cell (p := ⟨b2, off2 + T, none⟩) hbl2] at k1
    have HH : Hid _ := hhas
    clear hhas hc2 hp hs ho hP hl
    simp only []
    go_enter Tryd.func80, Tryd.ntmps80
    go_wp2_with (first
      | (at_lookup; refine wpList_lookup_own_ok_int _ rfl _ _ 64 rfl 3 3 .i64 law3 Tryd.underlying64 Tryd.underlying3 (zero3 _) g K.m (lastD K.At K.m) rfl HO.out _ _ rfl hkey ?_; intro c hc _; rw [HH.out]; simp only [Option.isSome])
      | go_in)
    go_ret
    exact ⟨rfl, Q0.out⟩
end Go.Proofs.YtjjfgoeibcmfkaaDoor

/- errors.Is at errors of errors.New's make. -/
namespace Go.Proofs.YtjjfgoeibcmfkaaDoor
open Go.RowKit Go.Extern.Stop Go.Stop Go.Extern

theorem isTypeOf (v : Value) (w : World) : (Extern.ReflectliteType.typeOf #[.iface 170 v]).run Tryd.prog w = .ok (.iface 147 (.agg #[.pointer (some ⟨2, 170, none⟩)])) w := by kernel_rfl
theorem cmpSome : (find Tryd.f134).isSome = true := by kernel_rfl
noncomputable def cmpExt := (find Tryd.f134).get cmpSome
theorem cmpFind : find Tryd.f134 = some cmpExt := (Option.some_get _).symm
theorem isComparable (w : World) : (cmpExt #[.agg #[.pointer (some ⟨2, 170, none⟩)]]).run Tryd.prog w = .ok (.bool true) w := by kernel_rfl
theorem isMethodComparable (v : Value) (w : World) : (Go.method 306 147 v "Comparable").run Tryd.prog w = .ok (134, v) w := by kernel_rfl
theorem isComp : (Tryd.prog.info? 170).map (·.comparable) = some true := by kernel_rfl
theorem isSize : (Tryd.prog.info? 195).map (·.size) = some 1 := by kernel_rfl
theorem noIsE (v : Value) (xT : TypeId) (w : World) : (Instr.typeAssert (.iface 170 v) xT 149 true).run Tryd.prog w = .ok (.tuple #[.nilIface, .bool false]) w := run_typeAssert_lacksB Tryd.underlying149 (by kernel_rfl) (by kernel_rfl) v xT w
theorem noUnwrapE (v : Value) (xT : TypeId) (w : World) : (Instr.typeAssert (.iface 170 v) xT 152 true).run Tryd.prog w = .ok (.tuple #[.nilIface, .bool false]) w := run_typeAssert_lacksB Tryd.underlying152 (by kernel_rfl) (by kernel_rfl) v xT w
theorem noUnwrapsE (v : Value) (xT : TypeId) (w : World) : (Instr.typeAssert (.iface 170 v) xT 154 true).run Tryd.prog w = .ok (.tuple #[.nilIface, .bool false]) w := run_typeAssert_lacksB Tryd.underlying154 (by kernel_rfl) (by kernel_rfl) v xT w

/-- An error of errors.New's make. -/
abbrev errV (a : Addr) : Value := .iface 170 (.pointer (some a))

set_option maxRecDepth 100000 in
set_option maxHeartbeats 1000000 in
theorem is_same (a : Addr) (w : World) :
    Calls Tryd.prog 54 #[errV a, errV a] w fun e w' => e = .returned (.bool true) ∧ w' = w := by
  obtain ⟨i, hi, hcmp⟩ := Option.map_eq_some_iff.1 isComp
  obtain ⟨j, hj, hjs⟩ := Option.map_eq_some_iff.1 isSize
  have h8 := @run_callFunc_extern Tryd.prog 82 _ Extern.ReflectliteType.typeOf Tryd.func82 (by kernel_rfl) (by kernel_rfl) (by kernel_rfl) (by kernel_rfl)
  have h32 := @run_callFunc_extern Tryd.prog 134 _ cmpExt Tryd.func134 (by kernel_rfl) (by kernel_rfl) (by kernel_rfl) cmpFind
  have tT := isTypeOf
  have cT := isComparable
  have mR := isMethodComparable
  have heq := run_eql_iface_ptr_same (P := Tryd.prog) w a Tryd.underlying70 Tryd.underlying170 hi hcmp hj
  go_enter Tryd.func54, Tryd.ntmps54
  go_wp2
  refine wp_loop_rounds 1 ?_
  rw [rounds_succ]
  go_wp2
  go_ret
  exact ⟨rfl, rfl⟩

set_option maxRecDepth 100000 in
set_option maxHeartbeats 1000000 in
theorem is_nil (b : Addr) (w : World) :
    Calls Tryd.prog 54 #[.nilIface, errV b] w fun e w' => e = .returned (.bool false) ∧ w' = w := by
  have hn := run_eql_iface_nil_left (P := Tryd.prog) w 170 (.pointer (some b)) Tryd.underlying70
  go_enter Tryd.func54, Tryd.ntmps54
  go_wp2
  go_ret
  exact ⟨rfl, rfl⟩

set_option maxRecDepth 100000 in
set_option maxHeartbeats 1000000 in
theorem is_other (a b : Addr) (ca cb : Array Value) (ta tb : TypeId) (w : World) (hne : a ≠ b) (ha : w.heap[a.block]? = some (.cells ca ta (0, 0))) (hb : w.heap[b.block]? = some (.cells cb tb (0, 0))) :
    Calls Tryd.prog 54 #[errV a, errV b] w fun e w' => e = .returned (.bool false) ∧ w' = w := by
  obtain ⟨i, hi, hcmp⟩ := Option.map_eq_some_iff.1 isComp
  obtain ⟨j, hj, hjs⟩ := Option.map_eq_some_iff.1 isSize
  have h8 := @run_callFunc_extern Tryd.prog 82 _ Extern.ReflectliteType.typeOf Tryd.func82 (by kernel_rfl) (by kernel_rfl) (by kernel_rfl) (by kernel_rfl)
  have h32 := @run_callFunc_extern Tryd.prog 134 _ cmpExt Tryd.func134 (by kernel_rfl) (by kernel_rfl) (by kernel_rfl) cmpFind
  have tT := isTypeOf
  have cT := isComparable
  have mR := isMethodComparable
  have nE := noIsE
  have uE := noUnwrapE
  have vE := noUnwrapsE
  have heq := run_eql_iface_ptr_other (P := Tryd.prog) w Tryd.underlying70 Tryd.underlying170 hi hcmp hj (by rw [hjs]; decide) hne ha hb
  go_enter Tryd.func54, Tryd.ntmps54
  go_wp2
  refine wp_loop_rounds 1 ?_
  rw [rounds_succ]
  go_wp2
  go_ret
  exact ⟨rfl, rfl⟩
end Go.Proofs.YtjjfgoeibcmfkaaDoor

/- A region that draws its order: a condition on the world that the last operations need not keep. -/
namespace Go.Proofs.YtjjfgoeibcmfkaaDoor
open Go
set_option linter.unusedVariables false

section
variable {P : Program} {ops : Array Oper} {Q : Exit → Act → World → Prop} {md : Region.Mode} {S : World → Prop} {D : Nat → Bool}

/-- Whatever order is picked from here on; S holds behind every operation but those of D. -/
def wpAnyD (P : Program) (md : Region.Mode) (ops : Array Oper) (Q : Exit → Act → World → Prop) (S : World → Prop) (D : Nat → Bool) : Nat → Array Bool → Act → World → Prop
  | 0, listed, a, w => Region.ready md ops listed = [] ∧ Q .normal a w
  | fuel + 1, listed, a, w =>
    (Region.ready md ops listed = [] → Q .normal a w) ∧
    ∀ i ∈ Region.ready md ops listed, wpOp P ops Q i (fun a' w' => (D i = false → S w') ∧ wpAnyD P md ops Q S D fuel (listed.setIfInBounds i true) a' w') a w
theorem wpAny_ofD : ∀ (fuel : Nat) (listed : Array Bool) (a : Act) (w : World), wpAnyD P md ops Q S D fuel listed a w → wpAny P md ops Q fuel listed a w
  | 0, _, _, _, h => h
  | fuel + 1, _, _, _, h => ⟨h.1, fun i hi => wpOp_mono (fun a' w' h' => wpAny_ofD fuel _ a' w' h'.2) (h.2 i hi)⟩

theorem wpAnyD_first {i : Nat} {oi : Oper} {v : Value} (hi : ops[i]? = some oi) (hsel : ∀ (j : Nat) (o : Oper) cs b, ops[j]? = some o → o.op ≠ .select cs b)
    (hQ : ∀ c a w, Q (.panic c) (a.put oi.dst v) w → Q (.panic c) a w)
    (hD : ∀ j oj, ops[j]? = some oj → D j = true → ∃ e ∈ oj.after, Region.binds md e = true ∧ e.on = i) :
    ∀ (fuel : Nat) (listed : Array Bool) (a : Act) (w : World),
      (∀ j oj, ops[j]? = some oj → j ≠ i → listed.getD j true = false → (∀ e ∈ oj.after, Region.binds md e = true → e.on ≠ i) → oi.apart ops oj = true) →
      i ∈ Region.ready md ops listed → YieldsIf P ops S oi v a → S w →
      wpAnyD P md ops Q S D fuel (listed.setIfInBounds i true) (a.put oi.dst v) w → wpAnyD P md ops Q S D (fuel + 1) listed a w := by
  intro fuel
  induction fuel with
  | zero =>
    intro listed a w _ hr hy hS H
    refine ⟨fun h => (by rw [h] at hr; cases hr), fun j hj => ?_⟩
    by_cases hji : j = i
    · subst hji; exact hy.wpOp hi hS ⟨fun _ => hS, H⟩
    · have := ready_mono hj hji
      rw [H.1] at this
      cases this
  | succ fuel ih =>
    intro listed a w hfree hr hy hS H
    refine ⟨fun h => (by rw [h] at hr; cases hr), fun j hj => ?_⟩
    by_cases hji : j = i
    · subst hji; exact hy.wpOp hi hS ⟨fun _ => hS, H⟩
    · have h1 := H.2 j (ready_mono hj hji)
      obtain ⟨hjun, oj, hoj, hall⟩ := mem_ready.1 hj
      have hnot : ∀ e ∈ oj.after, Region.binds md e = true → e.on ≠ i := fun e he hb heq => by
        have h1 := hall e he hb
        have h0 := (mem_ready.1 hr).1
        rw [heq] at h1
        rcases Nat.lt_or_ge i listed.size with h' | h'
        · simp [h'] at h0 h1; rw [h0] at h1; cases h1
        · simp [Array.getElem?_eq_none h'] at h1
      have hDj : D j = false := by
        cases hd : D j with
        | false => rfl
        | true => obtain ⟨e, he, hb, hon⟩ := hD j oj hoj hd; exact absurd hon (hnot e he hb)
      have h2 := wpOp_putIf hoj (hfree j oj hoj hji hjun hnot) (fun cs b => hsel i oi cs b hi) (fun cs b => hsel j oj cs b hoj) hQ hy h1
      have hfree' : ∀ k ok, ops[k]? = some ok → k ≠ i → (listed.setIfInBounds j true).getD k true = false →
          (∀ e ∈ ok.after, Region.binds md e = true → e.on ≠ i) → oi.apart ops ok = true := fun k ok hk hki hun hno => by
        refine hfree k ok hk hki ?_ hno
        by_cases hjk : j = k
        · subst hjk; exact hjun
        · rw [getD_set_ne true hjk] at hun; exact hun
      refine wpOp_mono (fun a' w' h3 => ⟨h3.2.1, ih (listed.setIfInBounds j true) a' w' hfree' (ready_mono hr (Ne.symm hji)) h3.1 (h3.2.1 hDj) ?_⟩) h2
      rw [Array.setIfInBounds_comm _ _ hji]
      exact h3.2.2

/-- Every operation of D waits for number i. -/
def waitsB (md : Region.Mode) (ops : Array Oper) (D : Nat → Bool) (i : Nat) : Bool :=
  (List.range ops.size).all fun j => !(D j) || match ops[j]? with | none => true | some o => o.after.any fun e => Region.binds md e && e.on == i
theorem waitsB_spec {i : Nat} (h : waitsB md ops D i = true) (j : Nat) (oj : Oper) (hj : ops[j]? = some oj) (hd : D j = true) : ∃ e ∈ oj.after, Region.binds md e = true ∧ e.on = i := by
  have hl : j < ops.size := (Array.getElem?_eq_some_iff.1 hj).1
  have h1 := List.all_eq_true.1 h j (List.mem_range.2 hl)
  simp only [hd, hj, Bool.not_true, Bool.false_or, Array.any_eq_true'] at h1
  obtain ⟨e, he, h2⟩ := h1
  simp only [Bool.and_eq_true, beq_iff_eq] at h2
  exact ⟨e, he, h2.1, h2.2⟩

theorem wpAnyD_take (i : Nat) {oi : Oper} {v : Value} {fuel : Nat} {listed : Array Bool} {a : Act} {w : World} (hi : ops[i]? = some oi)
    (hs : Region.noSelect ops = true) (hf : Region.free md ops listed i = true) (hr : (Region.ready md ops listed).contains i = true) (hw : waitsB md ops D i = true)
    (hQ : ∀ c a w, Q (.panic c) (a.put oi.dst v) w → Q (.panic c) a w) (hy : YieldsIf P ops S oi v a) (hS : S w)
    (h : wpAnyD P md ops Q S D fuel (listed.setIfInBounds i true) (a.put oi.dst v) w) : wpAnyD P md ops Q S D (fuel + 1) listed a w :=
  wpAnyD_first hi (Region.noSelect_spec hs) hQ (waitsB_spec hw) fuel listed a w (Region.free_spec hi hf) (by simpa using hr) hy hS h

/-- .. its slot written out. -/
theorem wpAnyD_takeS (i d : Nat) {oi : Oper} {v : Value} {fuel : Nat} {listed : Array Bool} {a : Act} {w : World} (hi : ops[i]? = some oi) (hd : oi.dst = some d)
    (hs : Region.noSelect ops = true) (hf : Region.free md ops listed i = true) (hr : (Region.ready md ops listed).contains i = true) (hw : waitsB md ops D i = true)
    (hQ : ∀ c a w, Q (.panic c) (a.put oi.dst v) w → Q (.panic c) a w) (hy : YieldsIf P ops S oi v a) (hS : S w)
    (h : wpAnyD P md ops Q S D fuel (listed.setIfInBounds i true) (a.put (some d) v) w) : wpAnyD P md ops Q S D (fuel + 1) listed a w :=
  wpAnyD_take i hi hs hf hr hw hQ hy hS (by rw [hd]; exact h)

/-- One alone may come up. -/
theorem wpAnyD_one (i : Nat) {o : Oper} {fuel : Nat} {listed : Array Bool} {a : Act} {w : World} (hr : Region.ready md ops listed = [i]) (ho : ops[i]? = some o)
    (h : ∀ K' : Act → World → Prop, Shut (∀ a w, (D i = false → S w) → wpAnyD P md ops Q S D fuel (listed.setIfInBounds i true) a w → K' a w) → if Region.wanted o (yielded ops a.tmps) = true then Oper.wp P o a w K' Q else K' (a.put o.dst undef) w) : wpAnyD P md ops Q S D (fuel + 1) listed a w :=
  ⟨fun h0 => (by rw [hr] at h0; cases h0), fun j hj => by
    rw [hr] at hj
    obtain rfl : j = i := by simpa using hj
    exact wpOp_step ho (fun K' hK => h K' (fun a w hS hW => hK a w ⟨hS, hW⟩))⟩

theorem wpAnyD_done {listed : Array Bool} {a : Act} {w : World} (hr : Region.ready md ops listed = []) (h : Q .normal a w) : ∀ fuel, wpAnyD P md ops Q S D fuel listed a w
  | 0 => ⟨hr, h⟩
  | _ + 1 => ⟨fun _ => h, by rw [hr]; simp⟩

theorem wp_regionD (S : World → Prop) (D : Nat → Bool) {id : Nat} {a : Act} {w : World} (hm : P.follows .mixedOrders = true)
    (h : wpAnyD P .any ops Q S D ops.size (Array.replicate ops.size false) a w.drew) : (Code.region id ops true).wp P Q a w :=
  wp_region_any hm (wpAny_ofD _ _ _ _ h)
end
end Go.Proofs.YtjjfgoeibcmfkaaDoor

